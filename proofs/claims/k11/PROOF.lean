import PyProof.Rows.All
import Wide.All
import OpenK.AllK
import Wide.FinOn
import HandS.ForMost
import HandS.EndBits
import HandS.TupSets
import HandS.Deep
import HandS.Defaults
import HandS.Property
import HandS.IsInst
import HandS.Style
import HandS.Wide
import HandS.WideBits
import HandS.Flow
import PyProof.ReprRoads
import HandS.SetFor
import HandS.SortInts
import HandS.Zip
import PyProof.InstNe
import HandS.Base
import HandS.Call
import HandS.OwnEq
import OpenK.KOps
import OpenK.KMeth
import PyProof.ReprLen
import OpenK.KMore
import KE.KOpsOwn
import KE.KCallOwn
import PyProof.TwoTypes
import PyProof.Raises
import PyProof.AutoIntOps
import HandS.CallLocal
import HandS.ClsMeth
import HandS.Gcd
import HandS.Codes
import HandS.FStr
import HandS.Words
import PyProof.FitsInt
import HandS.Conv
import HandS.SortRule
import HandS.Star
import HandS.Walk
import HandS.Iter
import KE.SortData
import PyProof.CallFns
import HandS.MakeKwOnly
import PySem.Challenge.RW_toldpushes_k11_ratios_reckoned
set_option Elab.async false
set_option linter.all false
set_option maxRecDepth 100000
set_option maxHeartbeats 8000000
namespace Tk
open PySem PySem.Spec PyProof.Rows L2

/-! ## promises of defs that want to know that no repr is running -/
structure FnG (P : Program) (w : World) (K : PySem.W.Frag) (mg : Str → Option Value) (base : Heap) (k : Nat) (f : Addr) (fd : FuncData) (ps : List Str) (sp : Sp) : Prop where
  len : ∀ vs H Q E, sp vs H Q E → vs.length = ps.length
  run : ∀ (A : Around) (outer : List Env) (s : Shared) (H : Hp) (args : Args) (us : List Value) (vs : List V) (Q : VK) (E : XK),
    A.guards = some [] → Room k A → Env0 P w K mg base A outer s H → BindsTo s fd args (ps.zip us) → Vals vs us → sp vs H Q E →
    codeAny (model P w) A (.call (.ref f) args) (CR CX0 outer P w H s Q E) s

theorem deeper_guards (A : Around) (env : Env) : (A.deeper env).guards = A.guards := rfl

section
variable {P : Program} {w : World} {K : PySem.W.Frag} {mg : Str → Option Value} {base : Heap}
/-- a def by its body, the body being told that no repr runs -/
theorem okG {nm qual : Str} {st : Stmt} {f : Addr} {fd : FuncData} {N ps : List Str} {k : Nat} {sp : Sp} (F : Fun K nm qual st f fd) (S : FnScope N ps (defScope st)) (len : ∀ vs H Q E, sp vs H Q E → vs.length = ps.length)
    (body : ∀ (cdv : Value) (A : Around) (outer : List Env) (s : Shared) (H : Hp) (vs : List V) (Q : VK) (E : XK), A.guards = some [] →
      Room k (A.deeper (envOfC qual (defScope st) s.heap.objs.size f cdv)) → sp vs H Q E →
      ∃ t, PSs (cxOf CX0 P w K mg base N qual (defScope st) f cdv A outer s H E).nox (defBody st) t ∧ t { nx := fun _ H' => Q .non H', rt := Q } (start N vs) H) :
    FnG P w K mg base (k + 1) f fd ps sp := by
  obtain ⟨oc, od, kV, doc, pm, an, cdv, ct, osl, rfl, lk, hcd⟩ := F.ex
  constructor
  · exact len
  intro A outer s H args us vs Q E hgd room en bnd vals hsp
  have nvs := len _ _ _ _ hsp
  have inK : K.In s.heap := en.mod.kin.keeps (fun b o z => (en.bs b o z).1)
  have noLim : s.heap.NoLimit := en.mod.nolimit.keeps (fun b o z => (en.bs b o z).1)
  have places : ∀ y ∈ ps.zip us, (defScope st).names.lookup y.1 = some .local ∨ ((defScope st).names.lookup y.1 = some .cell ∧ ((cellsFrom (s.heap.objs.size + 1) (defScope st).names []).lookup y.1).isSome = true) := by
    rintro ⟨n, v⟩ hy
    cases S.par n (List.of_mem_zip hy).1 with
    | inl l => exact Or.inl l
    | inr c => exact Or.inr ⟨c, PySem.W.cellsFrom_some _ _ _ (Or.inl c)⟩
  apply codeAny_call_function room.depth (inK _ _ lk) rfl S.co S.gen rfl (PySem.W.codeRec_of inK hcd)
  apply bnd
  apply wpAny_newFunctionEnv_cells S.kind places
  intro ev hev st1 ic
  subst hev
  refine ⟨noLim.keeps ic.toInCall.keep, ?_⟩
  apply codeAny_func
  obtain ⟨t, ht0, hq⟩ := body cdv A outer s H vs Q E hgd (room.deeper _) hsp
  have ht := ht0.nox
  have inv0 : Inv (cxOf CX0 P w K mg base N qual (defScope st) f cdv A outer s H E) [] (start N vs) H st1 := inv_start S room.hd en nvs vals ic
  have done : ∀ {σ' : L2.St} {H' : Hp} {v : V} {u : Value} {s' : Shared}, Inv (cxOf CX0 P w K mg base N qual (defScope st) f cdv A outer s H E) [] σ' H' s' → RelV v u → Q v H' → CE outer P w H s Q u s' := by
    intro σ' H' v u s' J rv q
    exact ⟨v, H', J.os, J.bare, J.base, J.hok, rv, q⟩
  refine wpAny_mono (ht.run [] st1 (start N vs) H _ inv0 hq) ?_ (fun e s' z => z)
  intro fl s' z
  cases fl with
  | next => obtain ⟨σ', H', J, q⟩ := z; exact done (v := V.non) (u := Value.none) J rfl q
  | ret u => obtain ⟨v, σ', H', J, rv, q⟩ := z; exact done J rv q
  | brk => obtain ⟨a1, a2, a3, q⟩ := z; exact q.elim
  | cont => obtain ⟨a1, a2, a3, q⟩ := z; exact q.elim
end

section
variable {X : Cx} {k : Nat} {f : Addr} {fd : FuncData} {ps : List Str} {sp : Sp} {x : Str} {p pos : Pos} {e : Expr} {es : List Expr} {t : TA}
theorem pe_callG (F : FnG X.prog X.w X.K X.mg X.base k f fd ps sp) (hgd : X.A.guards = some []) (hr : Room k X.A) (hg : Gl X x) (hm : X.mg x = some (.ref f)) (hk : PySem.W.keepIn X.K (.ref f) = true) (hb : Binds X.K fd ps [])
    (ha : PA X (e :: es) t) (hdb : (x == ("__debug__" : Str)) = false := by decide) (he : starEach (e :: es) X.env = (false, eval e X.env) :: starEach es X.env := by rfl) (hpl : (backTo pos (starEach es X.env)).any (·.1) = false := by rfl) :
    PE X (.Call (.Name x p) (e :: es) [] pos) (tCall sp [] E0 t) := by
  constructor
  intro pins s σ H Q I h
  apply wpAny_Call_Name_kw
  apply ld_glob I hg hm _ hdb
  refine PySem.W.callWith_K (h₀ := X.base) I.ok.mod.kin hk (thn (ha.run pos pins s σ H _ I h) ?_) he hpl
  rintro us s1 ⟨vs, H1, I1, rv, q⟩
  refine ⟨I1.kIn, ?_⟩
  rw [List.append_nil] at q
  have ln : us.length = ps.length := by rw [← rv.length]; exact F.len _ _ _ _ q
  have bd := hb s1 us I1.kIn (by rw [List.append_nil]; exact ln)
  rw [List.append_nil] at bd
  apply wpAny_call
  refine codeAny_mono (F.run X.A X.stack s1 H1 ⟨us, []⟩ us vs Q E0 hgd hr I1.env0 bd rv q) ?_
  intro r s' hq
  cases r with
  | error er => exact hq.elim
  | ok fl =>
    cases fl with
    | ret u => exact I1.after hq
    | next => exact hq.elim
    | brk => exact hq.elim
    | cont => exact hq.elim

/-- repr of data of any depth -/
def rRepD (K : PySem.W.Frag) : List V → Hp → VK → Prop := fun xs H Q => ∃ (a : Addr) (d : PyData), xs = [.ref a] ∧ Dp K H (.ref a) d ∧ d.showable = true ∧ d.hasDict = false ∧ d.depth ≤ 50 ∧ d.shown.length ≤ sizeLine ∧ Q (.str d.shown) H
theorem call_reprD (hgd : X.A.guards = some []) (hu : X.A.units + 64 < cLine) : CallR X (.builtin "repr") (rRepD X.K) := by
  intro pins s σ H xs us Q I r h
  obtain ⟨a, d, rfl, hd, hs, hn, hdp, hz, q⟩ := h
  obtain rfl : us = [Value.ref a] := Vals.ref1 r
  obtain ⟨as, rd⟩ := Dp.reads I d (.ref a) (.ref a) hd rfl
  refine repr_of_reads' (h₀ := s.heap) rd hs (PyData.noDict_hsm hn) hgd (by omega) (fun b o z => z) (fun h' u tk keep => ?_) hz
  have J : Inv X pins σ H { s with heap := h' } := I.kept keep
  exact ⟨.str d.shown, H, J.tok _, ⟨u, rfl⟩, q⟩
end

/-! ## the end: the law's def as the outermost call, no repr around it -/
theorem law_callG {P : Program} {w : World} {K : PySem.W.Frag} {mg mb : Str → Option Value} {k : Nat} {fa a : Addr} {fd : FuncData} {x : Str} {sp : Sp} {s1 : Shared} {vs : List Value} {ns : List Int}
    (inK : K.In s1.heap) (gn : s1.heap.Ns mainGlobals mg) (bn : s1.heap.Ns builtinsNs mb) (bb : ∀ y : Str, y ≠ "__name__" → mb y = bootBuiltins y) (noLim : s1.heap.NoLimit) (noGen : s1.gens = #[])
    (obj : s1.heap.get? a = some { cls := .type "list", data := .seq vs.toArray }) (hints : IntsAre vs ns) (short : ns.length ≤ sizeLine) (room : Room k callerA)
    (F : ∀ base : Heap, K.In base → base.Ns mainGlobals mg → FnG P w K mg base k fa fd [x] sp) (bind : ∀ (s : Shared) (u : Value), BindsTo s fd ⟨[u], []⟩ [(x, u)])
    (keeps : ∀ H : Hp, Only H → SqL K H a (ns.map V.int) → sp [.ref a] H (fun v _ => v = .bl true) fun _ _ _ => False) :
    codeAny (model P w) callerA (.call (.ref fa) ⟨[.ref a], []⟩) (fun r s' => r = .ok (.ret (.bool true)) ∧ OldK s1.heap s'.heap ∧ s'.os = s1.os ∧ AllBare s'.gens) s1 := by
  have rel := vals_ints hints
  have many := hints.length
  have main : ∀ H : Hp, Only H → SqL K H a (ns.map V.int) → HOk P w H s1.heap → (∀ b, H b ≠ none → b = a) → (H a ≠ none → K.lookup a = none) →
      codeAny (model P w) callerA (.call (.ref fa) ⟨[.ref a], []⟩) (fun r s' => r = .ok (.ret (.bool true)) ∧ OldK s1.heap s'.heap ∧ s'.os = s1.os ∧ AllBare s'.gens) s1 := by
    intro H only isl hok just noK
    have ofB : ∀ {b : Addr} {o : Obj}, s1.heap.get? b = some o → H b = none → (hidT s1.heap H).get? b = some o := fun z n => hidT_get z n
    have notA : ∀ {b : Addr} {o : Obj} {es : Array DictEntry} {ep : Nat}, s1.heap.get? b = some o → o.data = .dict es ep → H b = none := by
      intro b o es ep z d
      cases hb : H b with
      | none => rfl
      | some u =>
        obtain rfl : b = a := just b (by rw [hb]; simp)
        rw [obj] at z
        cases z
        exact absurd (show Data.seq vs.toArray _ = Data.dict es ep from d) (by intro y; cases y)
    have nsB : ∀ {b : Addr} {m : Str → Option Value}, s1.heap.Ns b m → (hidT s1.heap H).Ns b m := by
      rintro b m ⟨o, es, ep, z, d, r⟩
      exact ⟨o, es, ep, ofB z (notA z d), d, r⟩
    have inKb : K.In (hidT s1.heap H) := by
      intro b o z
      refine ofB (inK b o z) ?_
      cases hb : H b with
      | none => rfl
      | some u =>
        obtain rfl : b = a := just b (by rw [hb]; simp)
        rw [noK (by rw [hb]; simp)] at z
        cases z
    have md : Mod K mg (hidT s1.heap H) := by
      obtain ⟨mc, l1, l2⟩ := noLim
      exact ⟨inKb, nsB gn, ⟨mb, nsB bn, bb⟩, ⟨mc, nsB l1, l2⟩⟩
    have en : Env0 P w K mg (hidT s1.heap H) callerA [] s1 H := by
      refine ⟨rfl, md, fun b o z => of_hidT z, Nat.le_of_eq (hidT_size _ _), trivial, ?_, hok, .of_eq noGen⟩
      intro b hb
      exact absurd (show b ∈ ([] : List Addr) from hb) (by simp)
    refine codeAny_mono ((F _ inKb (nsB gn)).run callerA [] s1 H ⟨[.ref a], []⟩ [.ref a] [.ref a] _ _ rfl room en (bind s1 (.ref a)) (.cons rfl .nil) (keeps H only isl)) ?_
    intro r s' hr
    cases r with
    | error er => exact hr.elim
    | ok fl =>
      cases fl with
      | next => exact hr.elim
      | brk => exact hr.elim
      | cont => exact hr.elim
      | ret u =>
        obtain ⟨v, H', os, bare, un, hok', rv, q⟩ := hr
        obtain rfl : v = .bl true := q
        obtain rfl : u = Value.bool true := rv
        refine ⟨rfl, OldK.of_keep ?_, os, bare⟩
        intro b o z
        cases hb : H b with
        | none => exact un.keep b o z hb (fun y => absurd (show b ∈ ([] : List Addr) from y) (by simp)) (by simp)
        | some u =>
          rcases only b with n | ⟨ob, xs, y⟩
          · rw [hb] at n; cases n
          · obtain ⟨e1, _⟩ := hok b _ y
            obtain ⟨e2, _⟩ := hok' b _ (un.frzs b ob _ y)
            rw [z] at e1
            cases e1
            exact e2
  cases hk : K.lookup a with
  | some o =>
    have z := inK a o hk
    rw [obj] at z
    cases z
    exact main (fun _ => none) (fun _ => .inl rfl) (.inr ⟨_, vs.toArray, _, hk, rfl, rfl, rfl, by rw [List.size_toArray, many]; exact short, by simpa using rel⟩) (fun b u y => nomatch (show (none : Option HO) = some u from y)) (fun b y => absurd rfl y) (fun y => absurd rfl y)
  | none =>
    refine main (fun b => if b = a then some (.frz { cls := .type "list", data := .seq vs.toArray } (.lst (ns.map V.int))) else none) ?_ (.inl (.inr ⟨{ cls := .type "list", data := .seq vs.toArray }, if_pos rfl⟩)) ?_ ?_ (fun _ => hk)
    · intro b
      by_cases q : b = a
      · exact Or.inr ⟨_, _, if_pos q⟩
      · exact Or.inl (if_neg q)
    · intro b u y
      by_cases q : b = a
      · subst q
        have y1 := (if_pos rfl).symm.trans y
        cases y1
        exact ⟨obj, by rw [List.length_map]; exact short, vs, _, rel, obj⟩
      · have y1 := (if_neg q).symm.trans y
        cases y1
    · intro b y
      by_cases q : b = a
      · exact q
      · exact absurd (if_neg q) y

theorem walkG {l : PySem.W.OpenLaw} {n k : Nat} {q : Program} {loose : List Str} {XP : (Str → Option Value) → Heap → Prop} {YP : World → Heap → Prop} {d : DefRec} {K : Params → PySem.W.Frag} {sp : World → Sp} {x : Str}
    (hn : l.most = some n) (hn2 : n ≤ sizeLine) (hdf : d.params.defaults = []) (room : Room k callerA) (inK : ∀ (w : World) (h : Heap), YP w h → (K w.params).In h)
    (F : ∀ (w : World) (mg : Str → Option Value) (fa : Addr) (h : Heap), (K w.params).In h → h.Ns mainGlobals mg → mg d.name = some (.ref fa) →
      ∃ fd : FuncData, (∀ (s : Shared) (u : Value), BindsTo s fd ⟨[u], []⟩ [(x, u)]) ∧ ∀ base : Heap, (K w.params).In base → base.Ns mainGlobals mg → FnG l.prog w (K w.params) mg base k fa fd [x] (sp w))
    (keeps : ∀ (w : World) (H : Hp) (a : Addr) (ns : List Int), ns.length ≤ n → (∀ z ∈ ns, Builtin.Int.intBits z ≤ 1048576) → Only H → SqL (K w.params) H a (ns.map V.int) → sp w [.ref a] H (fun v _ => v = .bl true) fun _ _ _ => False) :
    PySem.W.WalkO q loose XP YP l.row.toRowW d [] (fun f vs => PySem.call f vs) := by
  refine Att.attach_callB hn hdf ?_
  intro w s0 s1 mg mb fa o pm cd doc a vs ns G Y ho hd hcd hmg hobj hints hlen hbits hg
  obtain ⟨fd, hb, hF⟩ := F w mg fa _ (inK w _ Y) G.T.g hmg
  exact law_callG (inK w _ Y) G.T.g G.T.b G.T.builtins G.T.nolimit hg hobj hints (Nat.le_trans hlen hn2) room hF hb (fun H hO hS => keeps w H a ns hlen hbits hO hS)
end Tk

namespace Tk
open PySem PySem.Spec PyProof.Rows L2

theorem same_rd {H H' : Hp} {a : Addr} {u : HO} (e : Same H H') (h : Rd H a u) : Rd H' a u := by
  rcases h with h | ⟨o, h⟩
  · exact Or.inl (e a _ h)
  · exact Or.inr ⟨o, e a _ h⟩
theorem same_l {K : PySem.W.Frag} {H H' : Hp} {a : Addr} {xs : List V} (e : Same H H') (h : SqL K H a xs) : SqL K H' a xs := by
  rcases h with h | h
  · exact Or.inl (same_rd e h)
  · exact Or.inr h
theorem same_t {K : PySem.W.Frag} {H H' : Hp} {a : Addr} {xs : List V} (e : Same H H') (h : SqT K H a xs) : SqT K H' a xs := by
  rcases h with h | h
  · exact Or.inl (same_rd e h)
  · exact Or.inr h
theorem same_new {H : Hp} {p : Addr} {o : HO} (h : H p = none) : Same H (upd H p o) := by
  intro a u e
  rw [upd_ne (ne_of_none e h)]
  exact e
/-- what is new in a later heap may change -/
theorem same_mut {H H' : Hp} {p : Addr} {o : HO} (e : Same H H') (h : H p = none) : Same H (upd H' p o) := by
  intro a u ha
  rw [upd_ne (ne_of_none ha h)]
  exact e a u ha
theorem sl_of {K : PySem.W.Frag} {H : Hp} {a : Addr} {xs : List V} (h : H a = some (.lst xs)) : SqL K H a xs := Or.inl (Or.inl h)
theorem st_of {K : PySem.W.Frag} {H : Hp} {a : Addr} {xs : List V} (h : H a = some (.tup xs)) : SqT K H a xs := Or.inl (Or.inl h)
theorem szle {n : Nat} (h : n ≤ 100000) : n ≤ sizeLine := Nat.le_trans h (by decide)
theorem szlt {n : Nat} (h : n < 100000) : n < sizeLine := Nat.lt_of_lt_of_le h (by decide)

mutual
theorem dp_same {K : PySem.W.Frag} {H H' : Hp} (e : Same H H') : ∀ (d : PyData) (v : V), Dp K H v d → Dp K H' v d
  | .none, _, h => by cases h; exact .non
  | .bool b, _, h => by cases h; exact .bl b
  | .int i, _, h => by cases h; exact .int i
  | .str x, _, h => by cases h; exact .str x
  | .list ds, _, h => by
    cases h with
    | lst h1 h2 => exact .lst (same_l e h1) (dps_same e ds _ h2)
  | .tuple ds, _, h => by
    cases h with
    | tup h1 h2 => exact .tup (same_t e h1) (dps_same e ds _ h2)
  | .dict _, _, h => by cases h
theorem dps_same {K : PySem.W.Frag} {H H' : Hp} (e : Same H H') : ∀ (ds : List PyData) (vs : List V), DpAll K H vs ds → DpAll K H' vs ds
  | [], _, h => by cases h; exact .nil
  | d :: ds, _, h => by
    cases h with
    | cons h1 h2 => exact .cons (dp_same e d _ h1) (dps_same e ds _ h2)
end
theorem dp_s {K : PySem.W.Frag} {H H' : Hp} {d : PyData} {v : V} (h : Dp K H v d) (e : Same H H') : Dp K H' v d := dp_same e d v h
theorem dps_s {K : PySem.W.Frag} {H H' : Hp} {ds : List PyData} {vs : List V} (h : DpAll K H vs ds) (e : Same H H') : DpAll K H' vs ds := dps_same e ds vs h
theorem dps_len {K : PySem.W.Frag} {H : Hp} : ∀ {ds : List PyData} {vs : List V}, DpAll K H vs ds → vs.length = ds.length
  | [], _, h => by cases h; rfl
  | d :: ds, _, h => by
    cases h with
    | cons h1 h2 => simp [dps_len h2]
theorem dps_at {K : PySem.W.Frag} {H : Hp} : ∀ {ds : List PyData} {vs : List V}, DpAll K H vs ds → ∀ (i : Nat) (x : V), vs[i]? = some x → ∃ d, ds[i]? = some d ∧ Dp K H x d
  | [], _, h, i, x, hx => by cases h; simp at hx
  | d :: ds, _, h, i, x, hx => by
    cases h with
    | cons h1 h2 =>
      cases i with
      | zero => simp at hx; subst hx; exact ⟨d, by simp, h1⟩
      | succ i => simp at hx; simpa using dps_at h2 i x hx
theorem dps_app {K : PySem.W.Frag} {H : Hp} : ∀ {ds es : List PyData} {vs ws : List V}, DpAll K H vs ds → DpAll K H ws es → DpAll K H (vs ++ ws) (ds ++ es)
  | [], _, _, _, h, h' => by cases h; exact h'
  | d :: ds, _, _, _, h, h' => by
    cases h with
    | cons h1 h2 => exact .cons h1 (dps_app h2 h')
theorem dps_ints {K : PySem.W.Frag} {H : Hp} : ∀ (ns : List Int), DpAll K H (ns.map V.int) (ns.map PyData.int)
  | [] => .nil
  | n :: ns => .cons (.int n) (dps_ints ns)
theorem ints_dps {K : PySem.W.Frag} {H : Hp} : ∀ {ns : List Int} {vs : List V}, DpAll K H vs (ns.map PyData.int) → vs = ns.map V.int
  | [], _, h => by cases h; rfl
  | n :: ns, _, h => by
    cases h with
    | cons h1 h2 => cases h1; rw [ints_dps h2]; rfl
theorem dps_bls {K : PySem.W.Frag} {H : Hp} : ∀ (bs : List Bool), DpAll K H (bs.map V.bl) (bs.map PyData.bool)
  | [] => .nil
  | n :: ns => .cons (.bl n) (dps_bls ns)

/-- a pair of ints, as data -/
def dP (p : Int × Int) : PyData := .tuple [.int p.1, .int p.2]
/-- v is a list of pairs -/
abbrev PL (K : PySem.W.Frag) (H : Hp) (a : Addr) (ps : List (Int × Int)) : Prop := ∃ xs, SqL K H a xs ∧ DpAll K H xs (ps.map dP)
/-- v is a list of ints -/
abbrev IL (K : PySem.W.Frag) (H : Hp) (a : Addr) (ns : List Int) : Prop := SqL K H a (ns.map V.int)
theorem pl_s {K : PySem.W.Frag} {H H' : Hp} {a : Addr} {ps : List (Int × Int)} (h : PL K H a ps) (e : Same H H') : PL K H' a ps :=
  let ⟨xs, h1, h2⟩ := h; ⟨xs, same_l e h1, dps_s h2 e⟩
theorem dP_inv {K : PySem.W.Frag} {H : Hp} {v : V} {p : Int × Int} (h : Dp K H v (dP p)) : ∃ t, v = .ref t ∧ SqT K H t [.int p.1, .int p.2] := by
  unfold dP at h
  cases h with
  | @tup a xs _ h1 h2 =>
    cases h2 with
    | cons a1 a2 =>
      cases a1
      cases a2 with
      | cons b1 b2 =>
        cases b1
        cases b2
        exact ⟨a, rfl, h1⟩
theorem dP_mk {K : PySem.W.Frag} {H : Hp} {t : Addr} {i j : Int} (h : SqT K H t [.int i, .int j]) : Dp K H (.ref t) (dP (i, j)) := .tup h (.cons (.int i) (.cons (.int j) .nil))
theorem pl_at {K : PySem.W.Frag} {H : Hp} {xs : List V} {ps : List (Int × Int)} (h : DpAll K H xs (ps.map dP)) {i : Nat} {x : V} (hx : xs[i]? = some x) :
    ∃ p t, ps[i]? = some p ∧ x = .ref t ∧ SqT K H t [.int p.1, .int p.2] := by
  obtain ⟨d, hd, hp⟩ := dps_at h i x hx
  rw [List.getElem?_map] at hd
  cases e : ps[i]? with
  | none => rw [e] at hd; cases hd
  | some p =>
    rw [e] at hd
    cases hd
    obtain ⟨t, rfl, ht⟩ := dP_inv hp
    exact ⟨p, t, rfl, rfl, ht⟩
theorem int_at {ns : List Int} {i : Nat} {x : V} (h : (ns.map V.int)[i]? = some x) : ∃ n, ns[i]? = some n ∧ x = .int n := by
  rw [List.getElem?_map] at h
  cases e : ns[i]? with
  | none => rw [e] at h; cases h
  | some n => rw [e] at h; cases h; exact ⟨n, rfl, rfl⟩
theorem lt_of_at {α : Type} {l : List α} {i : Nat} {x : α} (h : l[i]? = some x) : i < l.length := (List.getElem?_eq_some_iff.mp h).1
theorem take_at {α : Type} {l : List α} {i : Nat} {x : α} (h : l[i]? = some x) : l.take (i + 1) = l.take i ++ [x] := by
  rw [List.take_add_one, h]; rfl

/-- a comprehension's list behind one more item -/
theorem lc_put {H1 H4 : Hp} {D : Addr} {acc : List V} {y : V} {Pv : Hp → Prop} (h : H4 D = some (.lst acc)) (hl : acc.length < 100000) (q : Pv (upd H4 D (.lst (acc ++ [y])))) :
    ∃ acc', H4 D = some (.lst acc') ∧ acc'.length < sizeLine ∧ Pv (upd H4 D (.lst (acc' ++ [y]))) := ⟨acc, h, szlt hl, q⟩

theorem tyx_t {K : PySem.W.Frag} {H : Hp} {a : Addr} {xs : List V} (h : SqT K H a xs) : TyX K H (.ref a) (.type "tuple") := by
  rcases h with (h | ⟨o, h⟩) | ⟨o, its, n, h1, h2, _⟩
  · exact .base (.tup h)
  · exact .fTuple h
  · exact .kTuple h1 h2
theorem tyx_l {K : PySem.W.Frag} {H : Hp} {a : Addr} {xs : List V} (h : SqL K H a xs) : TyX K H (.ref a) (.type "list") := by
  rcases h with (h | ⟨o, h⟩) | ⟨o, its, n, h1, h2, _⟩
  · exact .base (.lst h)
  · exact .base (.frz h)
  · exact .kList h1 h2
theorem kit_lt {K : PySem.W.Frag} : PySem.W.kitAny K (.type "list") [.type "list", .type "tuple"] = some true := by
  refine kitAny_cons (b := true) (kit_ty (by decide +kernel)) (fun z => nomatch z) (fun _ => rfl)
/-- what stands of a comprehension over a heap H1 whose list D holds acc -/
def LcP (H1 : Hp) (D : Addr) (out : Nat → List V) (i : Nat) (H : Hp) : Prop := Same H1 H ∧ H D = some (.lst (out i))
theorem lcp_0 {H1 : Hp} {D : Addr} {out : Nat → List V} (hD : H1 D = none) (h0 : out 0 = []) : LcP H1 D out 0 (upd H1 D (.lst [])) := ⟨same_new hD, by rw [upd_same, h0]⟩
/-- one more item -/
theorem lcp_put {H1 H4 : Hp} {D : Addr} {out : Nat → List V} {i : Nat} {y : V} (hD : H1 D = none) (h : LcP H1 D out i H4) (ho : out (i + 1) = out i ++ [y]) (hl : (out i).length < 100000) :
    ∃ acc, H4 D = some (.lst acc) ∧ acc.length < sizeLine ∧ LcP H1 D out (i + 1) (upd H4 D (.lst (acc ++ [y]))) :=
  ⟨out i, h.2, szlt hl, same_mut h.1 hD, by rw [upd_same, ho]⟩
theorem lcp_no {H1 H4 : Hp} {D : Addr} {out : Nat → List V} {i : Nat} (h : LcP H1 D out i H4) (ho : out (i + 1) = out i) : LcP H1 D out (i + 1) H4 := ⟨h.1, by rw [h.2, ho]⟩
theorem lcp_s {H1 H2 H4 : Hp} {D : Addr} {out : Nat → List V} {i : Nat} (h : LcP H1 D out i H2) (e : Same H2 H4) : LcP H1 D out i H4 := ⟨h.1.trans e, e _ _ h.2⟩

section
variable {X : Cx}
/-- len of a set of tuples -/
theorem call_lenSetT : CallR X (.builtin "len") (fun xs H Q => ∃ a L, xs = [.ref a] ∧ H a = some (SetTO X.prog X.w a L) ∧ (∀ p ∈ L, SqT X.K H p.1 (p.2.map V.int)) ∧ ((L.map (·.2)).Nodup → Q (.int L.length) H)) := by
  intro pins s σ H xs us Q I r h
  obtain ⟨a, L, rfl, ha, ht, q⟩ := h
  rw [Vals.ref1 r]
  have R0 : SetT0 X.prog X.w s.heap a L := (I.hok a _ ha).1
  obtain ⟨es, ep, t, R⟩ := R0.full fun p hp => I.isT (ht p hp)
  obtain ⟨o, ho, hex, hd⟩ := R.ob
  have hs := R.size
  have hf := R.few
  refine call_len_set ho hex hd R.fits (by omega) ⟨.int L.length, H, (I.tok _), ⟨_, by rw [hs]⟩, q R.nd⟩

variable {k n : Nat} {f : Addr} {fd : FuncData} {ps ks : List Str} {sp : Sp} {x : Str} {p pos : Pos} {kws : List Keyword} {tk : TA} {g : List Value → List Value → List Value} {gV : List V → List V → List V} {CX : CXT} {E : XK}
end
end Tk

namespace Tk
open PySem PySem.Spec PyProof.Rows L2
/-! ## lists and tuples alike -/
abbrev SqA (K : PySem.W.Frag) (H : Hp) (a : Addr) (xs : List V) : Prop := SqL K H a xs ∨ SqT K H a xs
theorem same_a {K : PySem.W.Frag} {H H' : Hp} {a : Addr} {xs : List V} (e : Same H H') (h : SqA K H a xs) : SqA K H' a xs := h.elim (fun h => .inl (same_l e h)) (fun h => .inr (same_t e h))
/-- a sequence of pairs -/
abbrev PA2 (K : PySem.W.Frag) (H : Hp) (a : Addr) (ps : List (Int × Int)) : Prop := ∃ xs, SqA K H a xs ∧ DpAll K H xs (ps.map dP)
theorem pa2_s {K : PySem.W.Frag} {H H' : Hp} {a : Addr} {ps : List (Int × Int)} (h : PA2 K H a ps) (e : Same H H') : PA2 K H' a ps :=
  let ⟨xs, h1, h2⟩ := h; ⟨xs, same_a e h1, dps_s h2 e⟩
theorem pl_pa2 {K : PySem.W.Frag} {H : Hp} {a : Addr} {ps : List (Int × Int)} (h : PL K H a ps) : PA2 K H a ps := let ⟨xs, h1, h2⟩ := h; ⟨xs, .inl h1, h2⟩
/-- it walks the sequence at a -/
def IsSq (K : PySem.W.Frag) (H : Hp) (a : Addr) (xs : List V) (it : It) : Prop := (it = Itl K a ∧ SqL K H a xs) ∨ (it = Itt K a ∧ SqT K H a xs)
def iSq (K : PySem.W.Frag) (tl : TE) : TI := fun σ H R => tl σ H fun x H1 => ∃ a xs, x = .ref a ∧ SqA K H1 a xs ∧ ∀ it, IsSq K H1 a xs it → R it H1
section
variable {X : Cx} {tg : Expr}
theorem pi_sq {l : Expr} {tl : TE} (hl : PE X l tl) : PI X tg l (iSq X.K tl) := by
  constructor
  intro pins s σ H R I h
  refine thn (hl.run pins s σ H _ I h) ?_
  rintro v s1 ⟨x, H1, J, rv, a, xs, rfl, hc, q⟩
  cases rv
  have own : ∀ b ∈ [s1.heap.objs.size], FpOk X pins H1 b := fun b hb => by
    rw [List.mem_singleton.mp hb]
    exact J.fpOk (Nat.le_refl _) (J.hok.fresh (Nat.le_refl _))
  rcases hc with hq | hq
  · obtain ⟨its, _, pl, _⟩ := J.list hq
    exact wpAny_pyIter_list pl.isList ⟨_, _, _, _, _, rfl, J.kept (t' := s1.toks) (fun b o e => Heap.get?_push_of_some _ e), turn_list a _, ⟨_, Heap.get?_push_size _ rfl, rfl, rfl⟩, own, q _ (.inl ⟨rfl, hq⟩)⟩
  · obtain ⟨its, _, pt, _⟩ := J.tuple hq
    exact wpAny_pyIter_tuple (show s1.heap.IsTuple a its.toArray from pt) ⟨_, _, _, _, _, rfl, J.kept (t' := s1.toks) (fun b o e => Heap.get?_push_of_some _ e), turn_tuple a _, ⟨_, Heap.get?_push_size _ rfl, rfl, rfl⟩, own, q _ (.inr ⟨rfl, hq⟩)⟩
/-- either of two rules for a call -/
theorem cr_or {f : Value} {r1 r2 : List V → Hp → VK → Prop} (c1 : CallR X f r1) (c2 : CallR X f r2) : CallR X f (fun xs H Q => r1 xs H Q ∨ r2 xs H Q) :=
  fun pins s σ H xs us Q I r h => h.elim (c1 pins s σ H xs us Q I r) (c2 pins s σ H xs us Q I r)
end
theorem lc_sq {K : PySem.W.Frag} {a : Addr} {xs : List V} {it : It} {H0 : Hp} {g : TG} {tt : TT} {te : TE} {vs : List Nat} {σ : L2.St} {H1 : Hp} {D : Addr} {Qd : Hp → Prop} (hit : IsSq K H0 a xs it) (Pv : Nat → Hp → Prop) (h0 : Pv 0 (upd H1 D (.lst [])))
    (hl : ∀ i H, i ≤ xs.length → Pv i H → Same H0 H)
    (hs : ∀ i x H, xs[i]? = some x → Pv i H → g x (wipe σ vs) H fun σ2 H2 => wipe σ2 vs = wipe σ vs ∧ tt σ2 H2 fun b H3 =>
      if b = true then te σ2 H3 fun y H4 => ∃ acc, H4 D = some (.lst acc) ∧ acc.length < sizeLine ∧ Pv (i + 1) (upd H4 D (.lst (acc ++ [y]))) else Pv (i + 1) H3)
    (hd : ∀ H, Pv xs.length H → Qd H) :
    ∃ W : Nat → Nat → Hp → Prop, (∃ m, W 0 m (upd H1 D (.lst []))) ∧ ∀ i m H, W i m H →
      (it.stop i H ∧ Qd H) ∨ (it.go i H ∧ ∃ Nx : Hp → Prop, (∀ H', Nx H' → ∃ m', m' < m ∧ W (i + 1) m' H') ∧ ∀ x H', it.yld i H x H' → g x (wipe σ vs) H' fun σ2 H2 => wipe σ2 vs = wipe σ vs ∧ tt σ2 H2 fun b H3 =>
        if b = true then te σ2 H3 fun y H4 => ∃ acc, H4 D = some (.lst acc) ∧ acc.length < sizeLine ∧ Nx (upd H4 D (.lst (acc ++ [y]))) else Nx H3) := by
  rcases hit with ⟨rfl, h⟩ | ⟨rfl, h⟩
  · exact lc_list Pv h0 (fun i H hi p => same_l (hl i H hi p) h) hs hd
  · exact lc_tup Pv h0 (fun i H hi p => same_t (hl i H hi p) h) hs hd
theorem for_sq {K : PySem.W.Frag} {a : Addr} {xs : List V} {it : It} {H0 : Hp} {g : TG} {tb : TS} {D : Ends} {σ : L2.St} {H : Hp} (hit : IsSq K H0 a xs it) (Pv : Nat → L2.St → Hp → Prop) (h0 : Pv 0 σ H) (hl : ∀ i σ H, i ≤ xs.length → Pv i σ H → Same H0 H)
    (hs : ∀ i x σ H, xs[i]? = some x → Pv i σ H → g x σ H fun σ2 H2 => tb { nx := Pv (i + 1), rt := D.rt, bk := D.nx, ct := Pv (i + 1) } σ2 H2) (hd : ∀ σ H, Pv xs.length σ H → D.nx σ H) :
    ∃ W : Nat → Nat → L2.St → Hp → Prop, (∃ m, W 0 m σ H) ∧ ∀ i m σ H, W i m σ H →
      (it.stop i H ∧ D.nx σ H) ∨ (it.go i H ∧ ∃ N : L2.St → Hp → Prop, (∀ σ' H', N σ' H' → ∃ m', m' < m ∧ W (i + 1) m' σ' H') ∧ ∀ x H', it.yld i H x H' → g x σ H' fun σ2 H2 => tb { nx := N, rt := D.rt, bk := D.nx, ct := N } σ2 H2) := by
  rcases hit with ⟨rfl, h⟩ | ⟨rfl, h⟩
  · exact for_list Pv h0 (fun i σ H hi p => same_l (hl i σ H hi p) h) hs hd
  · exact for_tup Pv h0 (fun i σ H hi p => same_t (hl i σ H hi p) h) hs hd
end Tk
/-! ## how many unlike ints -/
namespace Tk
theorem dup_erase {α : Type} [DecidableEq α] : ∀ {l : List α}, ¬ l.Nodup → ∃ x ∈ l, ∀ y ∈ l, y ∈ l.erase x
  | [], h => absurd List.nodup_nil h
  | a :: l, h => by
    by_cases c : a ∈ l
    · refine ⟨a, List.mem_cons_self .., fun y hy => ?_⟩
      rw [List.erase_cons_head]
      rcases List.mem_cons.mp hy with e | e
      · exact e ▸ c
      · exact e
    · have hl : ¬ l.Nodup := fun n => h (List.nodup_cons.mpr ⟨c, n⟩)
      obtain ⟨x, hx, hy⟩ := dup_erase hl
      have ne : ¬ a = x := fun e => c (e ▸ hx)
      refine ⟨x, List.mem_cons_of_mem _ hx, fun y m => ?_⟩
      rw [List.erase_cons_tail (by simpa using ne)]
      rcases List.mem_cons.mp m with e | e
      · exact e ▸ List.mem_cons_self ..
      · exact List.mem_cons_of_mem _ (hy y e)
end Tk

namespace Tk
open PySem PySem.Spec PyProof.Rows L2
/-! ## set(t), t a tuple of tuples of ints -/
def oSet (w : World) : Obj := { cls := .type "set", dict := none, data := .set #[] 0 (.fresh 0 0 (!w.params.followText "set-order")) }
section
variable {P : Program} {w : World} {A : Around} {E : Value → Shared → Prop} {s : Shared}
theorem two_new {h : Heap} {l : Addr} (z : l < h.objs.size) (o : Obj) : l ≠ (h.push o).objs.size ∧ h.objs.size ∉ [(h.push o).objs.size, l] := by
  rw [Heap.size_push]
  refine ⟨Nat.ne_of_lt (Nat.lt_succ_of_lt z), ?_⟩
  simp only [List.mem_cons, List.not_mem_nil, or_false]
  rintro (e | e)
  · exact absurd e (Nat.ne_of_lt (Nat.lt_succ_self _))
  · exact absurd e.symm (Nat.ne_of_lt z)
set_option maxHeartbeats 8000000 in
theorem wp_setTT {l : Addr} {us : Array Value} {ks : List (Addr × List Int)} {Q : Value → Shared → Prop} (calm : A.handled = none) (ht : s.heap.IsTuple l us) (eu : us.toList = ks.map fun p => Value.ref p.1)
    (each : ∀ p ∈ ks, IsT P w s.heap p.2 p.1) (few : ks.length < 64) (room : A.units + 3 < cLine)
    (fin : ∀ (h' : Heap) (tk : Nat) L es ep t, SetTR P w h' s.heap.objs.size L es ep t → Got ks ks.length L → (∀ b o, s.heap.get? b = some o → h'.get? b = some o) → Q (.ref s.heap.objs.size) { s with heap := h', toks := tk }) :
    wpAny (model P w) A (call (.type "set") [.ref l]) Q E s := by
  have many : us.size = ks.length := by
    rw [← Array.length_toList, eu, List.length_map]
  obtain ⟨m1, m2, mro1⟩ := F.called_set.mro
  have made1 := F.called_set.made
  have sub1 := F.called_set.sub
  apply wpAny_call
  apply codeAny_of_tree
  show wpAny (model P w) _ (callAny (.type "set") _) _ E s
  apply wpAny_pure
  refine ⟨Code.quiet_builtin _ (by decide +kernel), ?_⟩
  apply codeAny_builtin F.entry_type_call
  rw [Around.under_plain (weight_type_call_type "set" [Value.ref l] []) (by rfl)]
  have no1 := F.called_set.notType
  have can1 := F.called_set.canCreate
  have tc1 := F.typeCall_set_1 (Value.ref l)
  repeat any_goals (first | assumption | wp_step)
  refine codeAny_mono (code_set_led1 (Value.ref l) (E := E) (Q₁ := fun x z => x = Value.ref s.heap.objs.size ∧ z = { s with heap := s.heap.push (oSet w) }) ⟨rfl, rfl⟩) ?_
  intro res z hz
  cases res with
  | error e => exact hz
  | ok fl =>
  cases fl with
  | next => exact hz.elim
  | brk => exact hz.elim
  | cont => exact hz.elim
  | ret x =>
  obtain ⟨rfl, rfl⟩ := hz
  have atS : (s.heap.push (oSet w)).get? s.heap.objs.size = some (oSet w) := Heap.get?_push_size _ rfl
  have isS : Shared.TypeIs { s with heap := s.heap.push (oSet w) } (Value.ref s.heap.objs.size) "set" := ⟨_, atS, rfl⟩
  have look1 := F.called_set.init.lookup
  have bind1 := F.called_set.init.bind (Value.ref s.heap.objs.size)
  repeat any_goals (first | assumption | wp_step)
  refine codeAny_mono (codeAny_call_builtin (R := wants (fun r z => r = Value.none ∧ ∃ h' tk L es ep t, z = { s with heap := h', toks := tk } ∧ SetTR P w h' s.heap.objs.size L es ep t ∧ Got ks ks.length L ∧
      (∀ b o, s.heap.get? b = some o → h'.get? b = some o)) E) F.called_set.init.plain F.entry_set_init (check_set_init_1 isS ?_)) ?_
  · obtain ⟨⟨oc, od, odat, osl⟩, atL, ec, nl, ed⟩ := ht
    simp only at ec ed
    subst ec ed
    have atL1 : (s.heap.push (oSet w)).get? l = some { cls := .type "tuple", dict := od, data := .seq us nl, slots := osl } := Heap.get?_push_of_some _ atL
    have y1 := F.sub_tuple_set
    have y2 := F.sub_tuple_frozenset
    have y3 : (Value.type "tuple" == Value.type "dict") = false := by decide
    have isT1 : (s.heap.push (oSet w)).IsTuple l us := ⟨_, atL1, rfl, nl, rfl⟩
    unfold Builtin.«set.__init__» noKeywords Builtin.Frozenset.updateFrom
    generalize hIt : pyIter = IT
    wp_walk
    subst hIt
    apply wpAny_pyIter_tuple isT1
    apply wpAny_bind
    apply wpAny_runValue
    obtain ⟨ne1, ne2⟩ := two_new (Heap.lt_size atL) (oSet w)
    have free : ∀ b, s.heap.objs.size ≤ b → s.heap.get? b = none := by
      intro b hb
      cases q : s.heap.get? b with
      | none => rfl
      | some o => exact absurd (Heap.lt_size q) (Nat.not_lt.mpr hb)
    have item : ∀ (i : Nat) (v : Value), us[i]? = some v → ∃ p, ks[i]? = some p ∧ v = Value.ref p.1 := by
      intro i v hv
      rw [← Array.getElem?_toList, eu, List.getElem?_map] at hv
      cases hq : ks[i]? with
      | none => rw [hq] at hv; cases hv
      | some p => rw [hq] at hv; exact ⟨p, rfl, (Option.some.inj hv).symm⟩
    have at2 : ((s.heap.push (oSet w)).push { cls := .type "tuple_iterator", data := .fields #[.ref l, .int 0 0] }).get? s.heap.objs.size = some (oSet w) := Heap.get?_push_of_some _ atS
    refine set_update_tups ((Walks.tuple (by simp [calm]) _ l ne1 us).toS) s.heap.objs.size ne2 ks many few item s.heap each (free _ (Nat.le_refl _)) ?_ room (us.size - 0) 0 _ (by omega) (Nat.zero_le _)
      ⟨⟨_, Heap.get?_push_size _ rfl, rfl, rfl⟩, isT1.push _⟩ (fun b o e => Heap.get?_push_of_some _ (Heap.get?_push_of_some _ e)) ⟨[], #[], 0, _, setTR_fresh at2, Got.zero ks⟩ ?_
    · intro b hb
      refine free b ?_
      rw [List.mem_singleton.mp hb, Heap.size_push]
      omega
    · rintro ⟨h', g', d', tk', os'⟩ L es ep t mv R1 got kp
      obtain rfl : g' = s.gens := mv.gens
      obtain rfl : d' = s.drawn := mv.drawn
      obtain rfl : os' = s.os := mv.os
      show wpAny _ _ _ _ _ _
      apply wpAny_pure
      show wpAny _ _ (ret Value.none) _ _ _
      rw [many] at got
      exact wpAny_pure ⟨rfl, h', tk', L, es, ep, t, rfl, R1, got, kp⟩
  · intro r2 z2 hz2
    cases r2 with
    | error e => exact hz2
    | ok f2 =>
    cases f2 with
    | next => exact hz2.elim
    | brk => exact hz2.elim
    | cont => exact hz2.elim
    | ret v =>
    obtain ⟨rfl, h', tk, L, es, ep, t, rfl, R1, got, kp⟩ := hz2
    repeat any_goals (first | assumption | wp_step)
    exact fin _ _ _ _ _ _ R1 got kp
end
section
variable {X : Cx}
def rSetTT (K : PySem.W.Frag) (P : Program) (w : World) : List V → Hp → VK → Prop := fun xs H Q => ∃ (l : Addr) (ks : List (Addr × List Int)), xs = [V.ref l] ∧ SqT K H l (ks.map fun p => V.ref p.1) ∧ (∀ p ∈ ks, SqT K H p.1 (p.2.map V.int)) ∧ ks.length < 64 ∧
  ∀ a L, H a = none → (∀ p ∈ L, p ∈ ks) → (∀ p ∈ ks, p.2 ∈ L.map (·.2)) → Q (.ref a) (upd H a (SetTO P w a L))
theorem cr_setTT (hc : X.calm = true) (hu : X.A.units + 64 < cLine) : CallR X (.type "set") (rSetTT X.K X.prog X.w) := by
  rintro pins s σ H xs us Q I r ⟨l, ks, rfl, hl, hk, hf, q⟩
  rw [Vals.ref1 r]
  obtain ⟨its, rv, pt, _⟩ := I.tuple hl
  refine wp_setTT (P := X.prog) (w := X.w) (I.ok.hd hc) (show s.heap.IsTuple l its.toArray from pt) (by simpa using refs_of_vals rv) (fun p hp => I.isT (hk p hp)) hf (by omega) ?_
  intro h' tk L es ep t R g k
  refine ⟨.ref s.heap.objs.size, _, I.laid (t' := tk) k (Nat.le_refl _) (setTO_new R.t0), rfl, q _ L (I.hok.fresh (Nat.le_refl _)) (fun p hp => List.mem_of_mem_take (g.sub p hp)) fun p hp => g.all p ?_⟩
  rw [List.take_length]
  exact hp
/-! ## set(xs) of ints, and how many -/
def SetN (a : Addr) (n : Nat) : HO := .ext fun h => ∃ o es ep t, h.get? a = some o ∧ o.ExactSet ∧ o.data = .set es ep t ∧ t.fits es.size = true ∧ es.size = n ∧ n < 1000
theorem setN_new {w : World} {P : Program} {H : Hp} {h : Heap} {a : Addr} {n : Nat} {o : Obj} {es : Array (Int × Value)} {ep : Nat} {t : SetTable} (ho : h.get? a = some o) (hx : o.ExactSet) (hd : o.data = .set es ep t) (hf : t.fits es.size = true) (hn : es.size = n) (n1 : n < 1000) : ObjOk P w H h a (SetN a n) :=
  ⟨⟨o, es, ep, t, ho, hx, hd, hf, hn, n1⟩, ⟨o, ho⟩, fun h1 h2 ⟨o, es, ep, t, ho, r⟩ k => ⟨o, es, ep, t, k o ho, r⟩⟩
theorem firstMet_nd (f : Nat → Int) : ∀ i, (firstMet f i).Nodup
  | 0 => by rw [firstMet_zero]; exact List.nodup_nil
  | i + 1 => by
    rw [firstMet_succ]
    unfold step_dedup
    split
    · exact firstMet_nd f i
    · next c =>
      rw [List.nodup_append]
      refine ⟨firstMet_nd f i, by simp, fun a ha b hb e => c ?_⟩
      rw [List.mem_singleton.mp hb] at e
      exact List.any_eq_true.mpr ⟨a, ha, by rw [e]; exact beq_self_eq_true _⟩
theorem firstMet_mem (ns : List Int) (k : Int) : k ∈ firstMet (fun i => ns.getD i 0) ns.length ↔ k ∈ ns := by
  have a := firstMet_any (fun i => ns.getD i 0) ns.length k
  have e : (List.range ns.length).map (fun i => ns.getD i 0) = ns := by
    refine List.ext_getElem? fun i => ?_
    rw [List.getElem?_map]
    by_cases c : i < ns.length
    · rw [List.getElem?_range c]
      simp [List.getD_eq_getElem?_getD, List.getElem?_eq_getElem c]
    · rw [List.getElem?_eq_none (by simpa using c), List.getElem?_eq_none (by simpa using c)]; rfl
  rw [e] at a
  have b : ∀ l : List Int, l.any (· == k) = true ↔ k ∈ l := fun l => by simp
  rw [← b, a, b]
def rSetIA (K : PySem.W.Frag) : List V → Hp → VK → Prop := fun xs H Q => ∃ (l : Addr) (ns : List Int), xs = [V.ref l] ∧ SqA K H l (ns.map V.int) ∧ ns.length < 64 ∧
  ∀ (p : Addr) (L : List Int), H p = none → L.Nodup → (∀ k, k ∈ L ↔ k ∈ ns) → Q (.ref p) (upd H p (SetN p L.length))
theorem cr_setIA (hc : X.calm = true) : CallR X (.type "set") (rSetIA X.K) := by
  rintro pins s σ H xs us Q I r ⟨l, ns, rfl, hl, hf, q⟩
  rw [Vals.ref1 r]
  rcases hl with hl | hl
  · obtain ⟨its, rv, pl, hz⟩ := I.list hl
    have el : its.toArray.size = ns.length := by rw [List.size_toArray, ← rv.length, List.length_map]
    refine call_set_list (I.ok.hd hc) pl.isList (ns := ns) (by simpa using rv.ints) (by unfold scanBound; omega) ?_
    intro h' tk R k
    rw [el] at R
    have nd := firstMet_nd (fun i => ns.getD i 0) ns.length
    have mm := firstMet_mem ns
    have le := firstMet_length_le (fun i => ns.getD i 0) ns.length
    generalize firstMet (fun i => ns.getD i 0) ns.length = L at R nd mm le
    obtain ⟨o, es, ep, t, ho, hx, hd, _, _, _, hft, hn⟩ := R
    exact ⟨.ref s.heap.objs.size, _, I.laid (t' := tk) (fun b o e => k b o (Heap.lt_size e) e) (Nat.le_refl _) (setN_new ho hx hd hft hn (by omega)), rfl, q _ L (I.hok.fresh (Nat.le_refl _)) nd mm⟩
  · obtain ⟨its, rv, pt, _⟩ := I.tuple hl
    refine call_set_tupI ns (I.ok.hd hc) (show s.heap.IsTuple l its.toArray from pt) (by simpa using rv.ints) (by unfold scanBound; omega) ?_
    rintro h' tk c ⟨o, es, ep, t, ho, hx, hd, _, nd, mm, _, hft, hn, _⟩ lc k
    have q' := q _ (es.toList.map keyOf) (I.hok.fresh (Nat.le_refl _)) nd (fun z => by rw [← mm z]; simp)
    rw [List.length_map, Array.length_toList, hn] at q'
    exact ⟨.ref s.heap.objs.size, _, I.laid (t' := tk) k (Nat.le_refl _) (setN_new ho hx hd hft hn (by omega)), rfl, q'⟩
theorem cr_lenN : CallR X (.builtin "len") (fun xs H Q => ∃ (a : Addr) (n : Nat), xs = [V.ref a] ∧ H a = some (SetN a n) ∧ Q (.int n) H) := by
  rintro pins s σ H xs us Q I r ⟨a, n, rfl, ha, q⟩
  rw [Vals.ref1 r]
  obtain ⟨o, es, ep, t, ho, hx, hd, hf, hn, n1⟩ := (I.hok a _ ha).1
  exact call_len_set ho hx hd hf (by omega) ⟨.int n, H, I.tok _, ⟨_, by rw [hn]⟩, q⟩
/-! ## sorted(xs), xs a list or tuple of ints -/
theorem collect_tup {prog : Program} {w : World} {A : Around} {E : Value → Shared → Prop} {s : Shared} {l : Addr} {vs : List Value} {Q : List Value → Shared → Prop} (ht : s.heap.IsTuple l vs.toArray) (hz : vs.length ≤ sizeLine)
    (fin : Q vs { s with heap := (s.heap.push (seqObj "list" #[] 0)).update s.heap.objs.size (Obj.mapSeq (· ++ vs.toArray)) }) : wpAny (model prog w) A (collect (.ref l)) Q E s := by
  obtain ⟨o, at1, cl1, n, d1⟩ := id ht
  have at2 : (s.heap.push (seqObj "list" #[] 0)).get? l = some o := Heap.get?_push_of_some _ at1
  have new2 : (s.heap.push (seqObj "list" #[] 0)).get? s.heap.objs.size = some (seqObj "list" #[] 0) := Heap.get?_push_size _ rfl
  unfold collect
  apply wpAny_bind; apply wpAny_runValue; apply codeAny_builtin entry_proto_collect'
  show wpAny (model prog w) _ (do again (.builtin "list.__iadd__" ⟨[← newList [], .ref l], []⟩)) _ _ s
  refine wpAny_bind (wpAny_newList ?_); apply wpAny_pure
  refine ⟨Code.quiet_builtin _ (by decide +kernel), ?_⟩
  apply codeAny_builtin entry_list_iadd'
  show wpAny (model prog w) _ (Builtin.List.listExtendWith (.ref s.heap.objs.size) (.ref l) (.ref s.heap.objs.size)) _ _ { s with heap := s.heap.push (seqObj "list" #[] 0) }
  unfold Builtin.List.listExtendWith
  apply wpAny_bind
  refine wpAny_typeOf (v := Value.ref l) (T := "tuple") ⟨o, at2, cl1⟩ ?_
  rw [if_pos (by
    have e : (Value.type "tuple" == Value.type "tuple") = true := by rfl
    rw [e]; simp)]
  apply wpAny_bind; apply listItems_at at2 d1
  apply wpAny_bind; apply listItems_at (xs := #[]) (n := 0) new2 rfl
  rw [if_neg (by simp)]
  apply wpAny_bind
  refine listUpdate_at (xs := #[]) (n := 0) new2 rfl ?_ (Nat.zero_le _) (by simp; omega)
  apply wpAny_pure
  show wpAny (model prog w) A (load s.heap.objs.size >>= _) Q E { s with heap := (s.heap.push (seqObj "list" #[] 0)).update s.heap.objs.size (Obj.mapSeq (· ++ vs.toArray)) }
  apply wpAny_bind
  refine wpAny_load (get?_update_seq new2 _) ?_
  have e3 : ((#[] : Array Value) ++ vs.toArray).toList = vs := by simp
  show wpAny (model prog w) A (pure ((#[] : Array Value) ++ vs.toArray).toList) Q E _
  rw [e3]
  exact wpAny_pure fin
end
end Tk
namespace Tk
open PySem PySem.Spec PyProof.Rows L2
section
variable {prog : Program} {w : World} {A : Around} {E : Value → Shared → Prop} {s : Shared}
theorem sorted_tup {l : Addr} {vs : List Value} {ltv : Value → Value → Bool} {Q : Value → Shared → Prop} (O : SrtO.Swo ltv) (ht : s.heap.IsTuple l vs.toArray) (hz : vs.length ≤ sizeLine)
    (able : 2 ≤ vs.length → ∀ (h1 : Heap) (a : Addr), h1.get? a = some (seqObj "list" vs.toArray 0) → (∀ b o, s.heap.get? b = some o → b ≠ a ∧ h1.get? b = some o) → SrtO.SortableO prog w A.in1.in1 { s with heap := h1 } a vs ltv)
    (fin : ∀ out : List Value, SrtO.Srtd ltv out → SrtO.Stb ltv out vs → Q (.ref (s.heap.objs.size + 1)) { s with heap := sortedAll s.heap vs out.toArray }) :
    wpAny (model prog w) A (call (.builtin "sorted") [.ref l]) Q E s := by
  apply Calls.call_function_entry kind_sorted plain_sorted entry_sorted (args_sorted1 _)
  unfold Builtin.«sorted»
  apply wpAny_bind (m := checkCount "sorted" 1 1 _)
  apply wpAny_pure; apply wpAny_bind
  apply collect_tup ht hz; apply wpAny_bind
  refine wpAny_newList ?_ hz
  generalize hcp : (s.heap.push (seqObj "list" #[] 0)).update s.heap.objs.size (Obj.mapSeq (· ++ vs.toArray)) = h1
  have z1 : h1.objs.size = s.heap.objs.size + 1 := by rw [← hcp, Heap.size_update, Heap.size_push]
  have new2 : (h1.push (seqObj "list" vs.toArray 0)).get? (s.heap.objs.size + 1) = some (seqObj "list" vs.toArray 0) := by rw [← z1]; exact Heap.get?_push_size _ rfl
  have old : ∀ b o, s.heap.get? b = some o → b ≠ s.heap.objs.size + 1 ∧ (h1.push (seqObj "list" vs.toArray 0)).get? b = some o := by
    intro b o e
    have lt := Heap.lt_size e
    refine ⟨Nat.ne_of_lt (Nat.lt_succ_of_lt lt), Heap.get?_push_of_some _ ?_⟩
    rw [← hcp, Heap.get?_update_ne _ _ _ _ (Nat.ne_of_lt lt)]
    exact Heap.get?_push_of_some _ e
  show wpAny _ _ _ _ _ { s with heap := h1.push (seqObj "list" vs.toArray 0) }
  rw [z1]
  refine wpAny_bind (wpAny_holding (wpAny_call_entry slot_list_sort ⟨_, new2, rfl⟩ entry_list_sort (SrtO.list_sort_ord O new2 hz (fun m => able m _ _ new2 old) fun out a b => ⟨_, rfl, ?_⟩) (args_list_sort _)))
  subst hcp
  exact wpAny_pure ⟨_, rfl, fin out a b⟩
end
section
variable {X : Cx}
def rSortedIA (K : PySem.W.Frag) : List V → Hp → VK → Prop := fun vs H Q => ∃ (a : Addr) (ns : List Int), vs = [V.ref a] ∧ SqA K H a (ns.map V.int) ∧
  ∀ (ns' : List Int) (p : Addr), ns'.Perm ns → ns'.Pairwise (· ≤ ·) → H p = none → Q (.ref p) (upd H p (.lst (ns'.map V.int)))
theorem cr_sortedIA : CallR X (.builtin "sorted") (rSortedIA X.K) := by
  rintro pins s σ H vs us Q I r ⟨a, ns, rfl, hs, q⟩
  rcases hs with hs | hs
  · exact cr_sortedI pins s σ H _ us Q I r ⟨a, ns, rfl, hs, q⟩
  · rw [Vals.ref1 r]
    obtain ⟨its, rv, pt, _⟩ := I.tuple hs
    have hi := rv.ints
    have il : its.length = ns.length := by rw [← rv.length, List.length_map]
    have hz : ns.length ≤ sizeLine := by
      have := (I.tuple hs)
      obtain ⟨its2, rv2, _, z2⟩ := this
      rw [List.length_map] at z2
      exact z2
    refine sorted_tup SrtO.swo_int (show s.heap.IsTuple a its.toArray from pt) (by omega) (fun m h1 a' _ _ => SrtO.ints_sortable hi m) fun out h1 h2 => ?_
    obtain ⟨k1, k2, k3⟩ := SrtO.ints_out hi h1 h2
    obtain ⟨ep, he⟩ := PyProof.Rows.sortedAll_at s.heap its out.toArray
    have hl : ((out.map SrtO.iv).map V.int).length ≤ sizeLine := by rw [List.length_map, k2.length_eq]; exact hz
    exact ⟨.ref (s.heap.objs.size + 1), upd H (s.heap.objs.size + 1) (.lst ((out.map SrtO.iv).map V.int)), I.laid (t' := s.toks) (fun _ _ => PyProof.Rows.sortedAll_old) (Nat.le_succ _) ⟨hl, out, ep, vals_of_ints k1, he⟩, rfl, q _ _ k2 k3 (I.hok.fresh (Nat.le_succ _))⟩
end
end Tk

namespace Tk
open PySem PySem.Spec PyProof.Rows L2
section
variable {X : Cx}
def rSetTA (K : PySem.W.Frag) (P : Program) (w : World) : List V → Hp → VK → Prop := fun xs H Q => ∃ (l : Addr) (ks : List (Addr × List Int)), xs = [V.ref l] ∧ SqA K H l (ks.map fun p => V.ref p.1) ∧ (∀ p ∈ ks, SqT K H p.1 (p.2.map V.int)) ∧ ks.length < 64 ∧
  ∀ a L, H a = none → (∀ p ∈ L, p ∈ ks) → (∀ p ∈ ks, p.2 ∈ L.map (·.2)) → Q (.ref a) (upd H a (SetTO P w a L))
theorem cr_setTA (hc : X.calm = true) (hu : X.A.units + 64 < cLine) : CallR X (.type "set") (rSetTA X.K X.prog X.w) := by
  rintro pins s σ H xs us Q I r ⟨l, ks, rfl, hl, hk, hf, q⟩
  rcases hl with hl | hl
  · exact cr_setOfT hc hu pins s σ H _ us Q I r ⟨l, ks, rfl, hl, hk, hf, q⟩
  · exact cr_setTT hc hu pins s σ H _ us Q I r ⟨l, ks, rfl, hl, hk, hf, q⟩
end
end Tk

namespace Tk
open PySem PySem.Spec PyProof.Rows L2
def top (i : Nat) : Stmt := PySem.Challenge.pw_toldpushes_k11_ratios_reckoned.main.body.getD i (.Pass ⟨0, 0, 0, 0⟩)
abbrev sIsInt : Stmt := top 2
abbrev sIsCnt : Stmt := top 3
abbrev sIsLst : Stmt := top 4
abbrev sPot : Stmt := top 14
abbrev sDraw : Stmt := top 15
abbrev sPick : Stmt := top 16
abbrev sOneRight : Stmt := top 27
abbrev sRight : Stmt := top 29
abbrev sLaw : Stmt := top 30

/-- a def of the text under its own name -/
structure Df (K : PySem.W.Frag) (mg : Str → Option Value) (nm : Str) (st : Stmt) (ps : List Str) (f : Addr) (fd : FuncData) : Prop where
  F : Fun K nm nm st f fd
  g : mg nm = some (.ref f)
  b : Binds K fd ps []
/-- the built-in names still mean what they mean -/
structure Bl (mg : Str → Option Value) : Prop where
  isi : mg "isinstance" = none
  int : mg "int" = none
  bool : mg "bool" = none
  list : mg "list" = none
  tuple : mg "tuple" = none
  len : mg "len" = none
  all : mg "all" = none
  any : mg "any" = none
  set : mg "set" = none
  range : mg "range" = none
  sorted : mg "sorted" = none
  sum : mg "sum" = none
  abs : mg "abs" = none
  max : mg "max" = none
  min : mg "min" = none
  divmod : mg "divmod" = none
  repr : mg "repr" = none
  enumerate : mg "enumerate" = none
  zip : mg "zip" = none

/-! ## kinds of values -/
inductive IntV (K : PySem.W.Frag) (H : Hp) : V → Option Int → Prop
  | int (i : Int) : IntV K H (.int i) (some i)
  | bl (b : Bool) : IntV K H (.bl b) none
  | oth {v : V} {ty : String} (h : TyX K H v (.type ty)) (k : kitB ty "int" = some false) : IntV K H v none
inductive SqV (K : PySem.W.Frag) (H : Hp) : V → Option (List V) → Prop
  | sq {a : Addr} {xs : List V} (h : SqA K H a xs) : SqV K H (.ref a) (some xs)
  | no {v : V} {ty : String} (h : TyX K H v (.type ty)) (k : kitB ty "list" = some false) (k2 : kitB ty "tuple" = some false) : SqV K H v none
theorem tyx_s {K : PySem.W.Frag} {H H' : Hp} {v t : _} (h : TyX K H v t) (e : Same H H') : TyX K H' v t := by
  cases h with
  | base b =>
    refine .base ?_
    cases b with
    | non => exact .non
    | bl x => exact .bl x
    | int i => exact .int i
    | str x => exact .str x
    | flt x => exact .flt x
    | lst q => exact .lst (e _ _ q)
    | frz q => exact .frz (e _ _ q)
    | tup q => exact .tup (e _ _ q)
    | dK q => exact .dK (e _ _ q)
    | dT q => exact .dT (e _ _ q)
    | ins q a1 a2 a3 a4 a5 => exact .ins (e _ _ q) a1 a2 a3 a4 a5
  | byt b => exact .byt b
  | set q => exact .set (e _ _ q)
  | kList q c => exact .kList q c
  | kTuple q c => exact .kTuple q c
  | kDict q c => exact .kDict q c
  | fTuple q => exact .fTuple (e _ _ q)
  | fDict q => exact .fDict (e _ _ q)
theorem intv_s {K : PySem.W.Frag} {H H' : Hp} {v : V} {o : Option Int} (h : IntV K H v o) (e : Same H H') : IntV K H' v o := by
  cases h with
  | int i => exact .int i
  | bl b => exact .bl b
  | oth h k => exact .oth (tyx_s h e) k
theorem sqv_s {K : PySem.W.Frag} {H H' : Hp} {v : V} {o : Option (List V)} (h : SqV K H v o) (e : Same H H') : SqV K H' v o := by
  cases h with
  | sq h => exact .sq (same_a e h)
  | no h k k2 => exact .no (tyx_s h e) k k2
def cntO : Option Int → Bool
  | some i => decide (0 ≤ i)
  | none => false
def thgO (n : Int) : Option Int → Bool
  | some i => decide (0 ≤ i) && decide (i < n)
  | none => false
/-! ## promises -/
def spIsInt (K : PySem.W.Frag) : Sp := fun vs H Q _ => ∃ (v : V) (o : Option Int), vs = [v] ∧ IntV K H v o ∧ Q (.bl o.isSome) H
def spIsCnt (K : PySem.W.Frag) : Sp := fun vs H Q _ => ∃ (v : V) (o : Option Int), vs = [v] ∧ IntV K H v o ∧ Q (.bl (cntO o)) H
def spIsThg (K : PySem.W.Frag) : Sp := fun vs H Q _ => ∃ (n : Int) (v : V) (o : Option Int), vs = [.int n, v] ∧ IntV K H v o ∧ Q (.bl (thgO n o)) H
def spIsLst (K : PySem.W.Frag) : Sp := fun vs H Q _ => ∃ (v : V) (o : Option (List V)), vs = [v] ∧ SqV K H v o ∧ ∀ H', Same H H' → Q (.bl o.isSome) H'

section
variable {P : Program} {w : World} {K : PySem.W.Frag} {mg : Str → Option Value} {base : Heap}
theorem sc_isInt : FnScope ["value"] ["value"] (defScope sIsInt) := ⟨rfl, rfl, rfl, by decide +kernel, rfl, by decide +kernel, by decide +kernel⟩
theorem ok_isInt {f : Addr} {fd : FuncData} (F : Fun K "is_integer" "is_integer" sIsInt f fd) (B : Bl mg) : FnOk P w K mg base CX0 1 f fd ["value"] (spIsInt K) := by
  refine F.ok sc_isInt (fun vs H Q E h => ?_) (fun cdv A outer s H vs Q E hr h => ?_)
  · obtain ⟨i, _, rfl, _⟩ := h
    rfl
  · obtain ⟨v, o, rfl, hv, q⟩ := h
    refine ⟨_, pss_one (ps_ret (pe_and
      (pe_callB call_isi (by rfl) B.isi PyProof.Rows.boot_isinstance (pa_cons (pv 0) (pa_cons (pe_bltn (v := .ty "int") (by rfl) B.int PyProof.Rows.boot_int rfl) pa_nil)))
      (pe_one (pe_not (pe_callB call_isi (by rfl) B.isi PyProof.Rows.boot_isinstance (pa_cons (pv 0) (pa_cons (pe_bltn (v := .ty "bool") (by rfl) B.bool PyProof.Rows.boot_bool rfl) pa_nil))))))), ?_⟩
    cases hv with
    | int i =>
      refine ⟨_, rfl, _, _, _, _, true, rfl, .ty _, .base (.int i), kit_ty (by decide +kernel), true, rfl, iteT ?_⟩
      exact ⟨_, rfl, _, _, _, _, false, rfl, .ty _, .base (.int i), kit_ty (by decide +kernel), false, rfl, q⟩
    | bl b =>
      refine ⟨_, rfl, _, _, _, _, true, rfl, .ty _, .base (.bl b), kit_ty (by decide +kernel), true, rfl, iteT ?_⟩
      exact ⟨_, rfl, _, _, _, _, true, rfl, .ty _, .base (.bl b), kit_ty (by decide +kernel), true, rfl, q⟩
    | oth h k =>
      exact ⟨_, rfl, _, _, _, _, false, rfl, .ty _, h, kit_ty k, false, rfl, iteF q⟩

theorem sc_isCnt : FnScope ["value"] ["value"] (defScope sIsCnt) := ⟨rfl, rfl, rfl, by decide +kernel, rfl, by decide +kernel, by decide +kernel⟩
theorem ok_isCnt {f f1 : Addr} {fd fd1 : FuncData} (F : Fun K "is_count" "is_count" sIsCnt f fd) (D1 : Df K mg "is_integer" sIsInt ["value"] f1 fd1) (B : Bl mg) : FnOk P w K mg base CX0 2 f fd ["value"] (spIsCnt K) := by
  have G1 : FnOk P w K mg base CX0 1 f1 fd1 ["value"] (spIsInt K) := ok_isInt D1.F B
  refine F.ok sc_isCnt (fun vs H Q E h => ?_) (fun cdv A outer s H vs Q E hr h => ?_)
  · obtain ⟨i, _, rfl, _⟩ := h
    rfl
  · obtain ⟨v, o, rfl, hv, q⟩ := h
    refine ⟨_, pss_one (ps_ret (pe_and (pe_call G1 hr rfl D1.g D1.F.kp D1.b .nil pass0 (pa_cons (pv 0) pa_nil)) (pe_one (pe_cmpR op_ge (pv 0) pe_int (nomark _))))), ?_⟩
    refine ⟨_, rfl, v, o, rfl, hv, o.isSome, rfl, ?_⟩
    cases hv with
    | int i => exact iteT ⟨_, rfl, _, _, rfl, rfl, q⟩
    | bl b => exact iteF q
    | oth h k => exact iteF q

theorem sc_isLst : FnScope ["value"] ["value"] (defScope sIsLst) := ⟨rfl, rfl, rfl, by decide +kernel, rfl, by decide +kernel, by decide +kernel⟩
theorem kit_any2 {t : String} {b : Bool} (h : kitB t "list" = some false) (h2 : kitB t "tuple" = some b) : PySem.W.kitAny K (.type t) [.type "list", .type "tuple"] = some b := by
  refine kitAny_cons (b := false) (kit_ty h) (fun _ => ?_) (fun z => nomatch z)
  cases b with
  | true => exact kitAny_cons (b := true) (kit_ty h2) (fun z => nomatch z) (fun _ => rfl)
  | false => exact kitAny_cons (b := false) (kit_ty h2) (fun _ => rfl) (fun z => nomatch z)
theorem ok_isLst {f : Addr} {fd : FuncData} (F : Fun K "is_list" "is_list" sIsLst f fd) (B : Bl mg) : FnOk P w K mg base CX0 1 f fd ["value"] (spIsLst K) := by
  refine F.ok sc_isLst (fun vs H Q E h => ?_) (fun cdv A outer s H vs Q E hr h => ?_)
  · obtain ⟨i, _, rfl, _⟩ := h
    rfl
  · obtain ⟨v, o, rfl, hv, q⟩ := h
    refine ⟨_, pss_one (ps_ret (pe_callB call_isiT (by rfl) B.isi PyProof.Rows.boot_isinstance (pa_cons (pv 0) (pa_cons
      (pe_tup (pa_cons (pe_bltn (v := .ty "list") (by rfl) B.list PyProof.Rows.boot_list rfl) (pa_cons (pe_bltn (v := .ty "tuple") (by rfl) B.tuple PySem.Pv.boot_tuple rfl) pa_nil))) pa_nil)))), ?_⟩
    refine ⟨_, rfl, szle (by decide), fun p hp => ?_⟩
    have hv' := sqv_s hv (same_new (o := .tup [.ty "list", .ty "tuple"]) hp)
    cases hv' with
    | sq h =>
      rcases h with h | h
      · exact ⟨_, p, [.ty "list", .ty "tuple"], _, [.type "list", .type "tuple"], true, rfl, upd_same, .cons (.ty _) (.cons (.ty _) .nil), tyx_l h, kit_lt, q _ (same_new hp)⟩
      · exact ⟨_, p, [.ty "list", .ty "tuple"], _, [.type "list", .type "tuple"], true, rfl, upd_same, .cons (.ty _) (.cons (.ty _) .nil), tyx_t h, kit_any2 (by decide +kernel) (by decide +kernel), q _ (same_new hp)⟩
    | no h k k2 => exact ⟨_, p, [.ty "list", .ty "tuple"], _, [.type "list", .type "tuple"], false, rfl, upd_same, .cons (.ty _) (.cons (.ty _) .nil), h, kit_any2 k k2, q _ (same_new hp)⟩
end
end Tk

namespace NeO
open PySem PySem.W PySem.Spec PyProof.Rows
section
variable {prog : Program} {w : World} {A : Around} {E : Value → Shared → Prop} {s : Shared} {K : Frag} {x C f : Addr} {ox : Obj} {od : Option Obj} {name : Str} {h₀ : Heap}
theorem bind_ne (self : Value) : bindSpecial (.builtin "object.__ne__") self = pure (.builtin "object.__ne__", [self]) := PySem.F.slot_enumerate_ne.bind self
theorem ifBound_B {M : Model} {id : String} {args : List Value} {Q : Option Value → Shared → Prop} (X : K.In s.heap) (I : InstAt s.heap x ox C od) (hs : findIn K (.ref C) name = some (some (.builtin id))) (hb : ∀ self, bindSpecial (.builtin id) self = pure (.builtin id, [self]))
    (h : wpAny M A (call (.builtin id) (.ref x :: args)) (fun v => Q (some v)) E s) : wpAny M A (callSpecialIfBound? (.ref x) name args) Q E s := by
  simp only [callSpecialIfBound?, bindSpecialIfBound?]
  refine wpAny_holding (wpAny_bind (wpAny_bind (wpAny_bind (I.type.here ((looks_findIn X hs).here ?_)))))
  refine wpAny_bind (wpAny_askSetting (wpAny_ite ?_))
  have fin : wpAny M A (call (.builtin id) ([.ref x] ++ args) >>= fun v => pure (some v)) Q E s := wpAny_bind (wpAny_mono h (fun v s' h' => wpAny_pure h') fun _ _ h' => h')
  simp only [hb]
  split
  · exact wpAny_bind (wpAny_pure (wpAny_pure fin))
  · exact wpAny_tryCatch (wpAny_bind (wpAny_pure (wpAny_pure fin)))
theorem ne_body {y : Value} {Q : Fin → Shared → Prop} (X : K.In s.heap) (I : InstAt s.heap x ox C od) (hs : findIn K (.ref C) "__eq__" = some (some (.ref f))) (hf : isFn K (.ref f) = true) (hu : A.units < cLine)
    (hcall : wpAny (model prog w) A (call (.ref f) [.ref x, y]) (fun v s' => ∃ b, v = .bool b ∧ Q (.done (.ret (.bool (!b)))) s') E s) :
    wpAny (model prog w) A (Builtin.«object.__ne__» ⟨[.ref x, y], []⟩) Q E s := by
  unfold Builtin.«object.__ne__»
  repeat (first
    | with_reducible refine wpAny_cRoomFor hu ?_
    | (refine wpAny_bind (m := callSpecialIfBound? (.ref x) (Str.ofString "__eq__") [y])
        (ifBound_K X I hs hf (wpAny_mono hcall (fun r s' hr => by
          obtain ⟨b, rfl, hq⟩ := hr
          repeat (first | exact hq | exact wpAny_pure hq | exact wpAny_truthy_bool hq | (refine wpAny_bind (m := truthy (.bool _)) (wpAny_truthy_bool ?_)) | wp_step)) fun _ _ e => e)))
    | wp_step)
end
end NeO
namespace NeO
open PySem PySem.Spec PyProof.Rows L2
/-- a != b of two instances of a class with its own ==, == keeping sp -/
def rNeI (C : Addr) (sp : Sp) : R2 := fun x y H Q => ∃ (a b : Addr) (dx dy : Addr) (fs gs : List (Str × V)), x = .ref a ∧ y = .ref b ∧ H a = some (.ins C dx fs) ∧ H b = some (.ins C dy gs) ∧
  sp [.ref a, .ref b] H (fun v H' => ∃ c : Bool, v = .bl c ∧ Q (.bl (!c)) H') fun _ _ _ => False
/-- what the class gives for it -/
structure NeC (K : PySem.W.Frag) (C f : Addr) : Prop where
  eq : PySem.W.findIn K (.ref C) "__eq__" = some (some (.ref f))
  fn : PySem.W.isFn K (.ref f) = true
  ne : PySem.W.findIn K (.ref C) "__ne__" = some (some (.builtin "object.__ne__"))
  ob : PySem.W.mroIn K C (.type "object") = some true
section
variable {X : Cx} {k : Nat} {C f : Addr} {fd : FuncData} {ps : List Str} {sp : Sp}
theorem op_neI (Z : NeC X.K C f) (F : FnOk X.prog X.w X.K X.mg X.base CX0 k f fd ps sp) (hr : Room (k + 1) X.A) (hb : Binds X.K fd ps []) : OpR X (compareOp .NotEq) (rNeI C sp) := by
  intro pins s σ H x y v u Q I rx ry hq
  obtain ⟨a, b, dx, dy, fs, gs, rfl, rfl, ha, hb', q⟩ := hq
  cases rx
  cases ry
  obtain ⟨mA, J, _⟩ := ins_get I.hok ha
  obtain ⟨mB, J', _⟩ := ins_get I.hok hb'
  obtain ⟨od, J, _⟩ := J.look
  obtain ⟨od', J', _⟩ := J'.look
  have hu : X.A.units + 1 < cLine := by have := hr.un; omega
  have hu0 : X.A.units < cLine := by omega
  have hr1 : Room k X.A.in1 := hr.in1
  show wpAny (model X.prog X.w) X.A (richCompare .NotEq (.ref a) (.ref b)) (EP X pins σ Q) X.xe s
  have sub : PySem.W.Looks (model X.prog X.w) s.heap (isInstance (.ref a) (.type "object")) true := J.type.andThen (PySem.W.looks_mroIn I.kIn Z.ob)
  have run : wpAny (model X.prog X.w) X.A.in1 (call (.ref f) [.ref a, .ref b]) (fun v s' => ∃ b : Bool, v = .bool b ∧ EP X pins σ Q (.bool (!b)) s') X.xe s := by
    have e0 : Env0 X.prog X.w X.K X.mg X.base X.A.in1 X.stack s H := by
      have e := I.env0
      exact ⟨e.frames, e.mod, e.bs, e.bsz, e.funs, e.frf, e.hok, e.bare⟩
    have hl := F.len _ _ _ _ q
    have r2 : Vals [V.ref a, V.ref b] [Value.ref a, Value.ref b] := .cons rfl (.cons rfl .nil)
    refine wpAny_call (codeAny_mono (F.run X.A.in1 X.stack s H ⟨[.ref a, .ref b], []⟩ [.ref a, .ref b] [.ref a, .ref b] _ _ hr1 e0 (by
      have := hb s [.ref a, .ref b] I.kIn (by simpa using hl)
      simpa using this) r2 q) fun r s' hq => ?_)
    cases r with
    | error e => exact pass0 pins σ H s e s' I hq
    | ok fl =>
      cases fl with
      | ret w' =>
        obtain ⟨z, H', I', rz, c, ez, qz⟩ := I.after hq
        subst ez
        cases rz
        exact ⟨c, rfl, .bl (!c), H', I', rfl, qz⟩
      | next => exact False.elim hq
      | brk => exact False.elim hq
      | cont => exact False.elim hq
  have one : wpAny (model X.prog X.w) X.A (tryCompare (.ref a) "__ne__" (.ref b)) (fun r s' => ∃ v, r = some v ∧ EP X pins σ Q v s') X.xe s := by
    unfold tryCompare
    refine wpAny_bind (ifBound_B I.kIn J Z.ne bind_ne (wpAny_call (codeAny_call_builtin PySem.F.cmp_object.ne.plain PySem.F.cmpEntry_ne
      (PySem.W.check_slot PySem.F.cmpKind_ne PySem.F.cmpSplit_ne sub (PySem.F.cmpArgs_ne _ _) (ne_body I.kIn J Z.eq Z.fn (by show X.A.units + 1 < cLine; exact hu) (wpAny_mono run (fun v s' hv => ?_) fun _ _ e => e))))))
    obtain ⟨c, rfl, hq⟩ := hv
    first | exact ⟨c, rfl, wpAny_pure ⟨_, rfl, hq⟩⟩ | exact ⟨c, rfl, _, rfl, hq⟩
  unfold richCompare
  simp only [oneThing_ref]
  refine wpAny_holding (wpAny_bind (wpAny_cRoomFor hu0 ?_))
  rw [cmpInfo_NotEq]
  dsimp only
  refine wpAny_bind (J.type.here (wpAny_bind (J'.type.here ?_)))
  rw [show (Value.ref C != Value.ref C) = false from by simp]
  simp only [Bool.false_eq_true, if_false]
  refine wpAny_bind (wpAny_pure ?_)
  simp only [Bool.false_eq_true, if_false]
  refine wpAny_bind (wpAny_mono one (fun r s' z => ?_) fun _ _ e => e)
  obtain ⟨v, rfl, hq⟩ := z
  exact wpAny_pure hq
end
end NeO

namespace NeO
open PySem PySem.Spec PyProof.Rows L2
section
variable {X : Cx} {k : Nat} {C f : Addr} {fd : FuncData} {ps : List Str} {sp : Sp} {pins : List (Addr × Obj)} {σ : L2.St} {H : Hp} {s : Shared}
/-- a def called with these values, at a place with the frames of X -/
theorem run_own {A : Around} {us : List Value} {vs : List V} {Q : VK} (F : FnOk X.prog X.w X.K X.mg X.base CX0 k f fd ps sp) (hr : Room k A) (hfr : A.frames = X.A.frames) (hb : Binds X.K fd ps []) (I : Inv X pins σ H s) (r : Vals vs us) (q : sp vs H Q fun _ _ _ => False) :
    wpAny (model X.prog X.w) A (call (.ref f) us) (EP X pins σ Q) X.xe s := by
  have e0 : Env0 X.prog X.w X.K X.mg X.base A X.stack s H := by
    have e := I.env0
    exact ⟨by rw [hfr]; exact e.frames, e.mod, e.bs, e.bsz, e.funs, e.frf, e.hok, e.bare⟩
  have hl : us.length = ps.length := by rw [← r.length]; exact F.len _ _ _ _ q
  refine wpAny_call (codeAny_mono (F.run A X.stack s H ⟨us, []⟩ us vs _ _ hr e0 (by
    have := hb s us I.kIn (by simpa using hl)
    simpa using this) r q) fun r s' hq => ?_)
  cases r with
  | error e => exact pass0 pins σ H s e s' I hq
  | ok fl =>
    cases fl with
    | ret w' => exact I.after hq
    | next => exact False.elim hq
    | brk => exact False.elim hq
    | cont => exact False.elim hq
/-- a == b of two instances of a class with its own == -/
def rEqI (C : Addr) (sp : Sp) : R2 := fun x y H Q => ∃ (a b : Addr) (dx dy : Addr) (fs gs : List (Str × V)), x = .ref a ∧ y = .ref b ∧ H a = some (.ins C dx fs) ∧ H b = some (.ins C dy gs) ∧
  sp [.ref a, .ref b] H (fun v H' => ∃ c : Bool, v = .bl c ∧ Q (.bl c) H') fun _ _ _ => False
theorem op_eqI (h1 : PySem.W.findIn X.K (.ref C) "__eq__" = some (some (.ref f))) (h2 : PySem.W.isFn X.K (.ref f) = true) (F : FnOk X.prog X.w X.K X.mg X.base CX0 k f fd ps sp) (hr : Room k X.A) (hb : Binds X.K fd ps []) : OpR X (compareOp .Eq) (rEqI C sp) := by
  intro pins s σ H x y v u Q I rx ry hq
  obtain ⟨a, b, dx, dy, fs, gs, rfl, rfl, ha, hb', q⟩ := hq
  cases rx
  cases ry
  obtain ⟨mA, J, _⟩ := ins_get I.hok ha
  obtain ⟨mB, J', _⟩ := ins_get I.hok hb'
  obtain ⟨od, J, _⟩ := J.look
  obtain ⟨od', J', _⟩ := J'.look
  obtain ⟨m, hF⟩ := I.fr
  show wpAny (model X.prog X.w) X.A (richCompare .Eq (.ref a) (.ref b)) (EP X pins σ Q) X.xe s
  refine PySem.W.cmp_K (op := .Eq) (tb := .ref C) hr.units0 hF I.ok.mod.kin J J'.type (by simp [PySem.W.notFirst]) h1 h2 ?_
  refine wpAny_mono (run_own (vs := [V.ref a, V.ref b]) F hr rfl hb I (.cons rfl (.cons rfl .nil)) q) (fun v s' hv => ?_) fun _ _ e => e
  obtain ⟨z, H', I', rz, c, ez, qz⟩ := hv
  subst ez
  cases rz
  exact ⟨.bl c, H', I', rfl, qz⟩
/-- a + b (- *) of two instances of a class with its own __add__ (..), which makes an object -/
def rBinI (C : Addr) (sp : Sp) : R2 := fun x y H Q => ∃ (a b : Addr) (dx dy : Addr) (fs gs : List (Str × V)), x = .ref a ∧ y = .ref b ∧ H a = some (.ins C dx fs) ∧ H b = some (.ins C dy gs) ∧
  sp [.ref a, .ref b] H (fun v H' => ∃ p : Addr, v = .ref p ∧ Q (.ref p) H') fun _ _ _ => False
theorem op_binI {op : Operator} (h0 : PySem.W.selfFirst X.K C = true) (h1 : PySem.W.findIn X.K (.ref C) (PySem.dunder op.info.2) = some (some (.ref f))) (h2 : PySem.W.isFn X.K (.ref f) = true) (F : FnOk X.prog X.w X.K X.mg X.base CX0 k f fd ps sp) (hr : Room k X.A) (hb : Binds X.K fd ps []) : OpR X (binaryOp op) (rBinI C sp) := by
  intro pins s σ H x y v u Q I rx ry hq
  obtain ⟨a, b, dx, dy, fs, gs, rfl, rfl, ha, hb', q⟩ := hq
  cases rx
  cases ry
  obtain ⟨mA, J, _⟩ := ins_get I.hok ha
  obtain ⟨mB, J', _⟩ := ins_get I.hok hb'
  obtain ⟨od, J, _⟩ := J.look
  obtain ⟨od', J', _⟩ := J'.look
  obtain ⟨m, hF⟩ := I.fr
  refine PySem.W.binop_K hF I.ok.mod.kin J J'.type h0 h1 h2 ?_
  refine wpAny_mono (run_own (vs := [V.ref a, V.ref b]) F hr rfl hb I (.cons rfl (.cons rfl .nil)) q) (fun v s' hv => ?_) fun _ _ e => e
  obtain ⟨z, H', I', rz, p, ez, qz⟩ := hv
  subst ez
  cases rz
  exact ⟨.ref p, H', I', rfl, qz⟩
/-- repr(a) by an own __repr__ -/
def rReprI (C : Addr) (sp : Sp) : List V → Hp → VK → Prop := fun xs H Q => ∃ (a dx : Addr) (fs : List (Str × V)), xs = [.ref a] ∧ H a = some (.ins C dx fs) ∧ sp [.ref a] H (fun v H' => ∃ t : Str, v = .str t ∧ Q (.str t) H') fun _ _ _ => False
theorem call_reprI (h1 : PySem.W.findIn X.K (.ref C) "__repr__" = some (some (.ref f))) (h2 : PySem.W.isFn X.K (.ref f) = true) (F : FnOk X.prog X.w X.K X.mg X.base CX0 k f fd ps sp) (hr : Room (k + 1) X.A) (hb : Binds X.K fd ps []) : CallR X (.builtin "repr") (rReprI C sp) := by
  intro pins s σ H xs us Q I r hq
  obtain ⟨a, dx, fs, rfl, ha, q⟩ := hq
  obtain rfl : us = [Value.ref a] := Vals.ref1 r
  obtain ⟨mA, J, _⟩ := ins_get I.hok ha
  obtain ⟨od, J, _⟩ := J.look
  obtain ⟨m, hF⟩ := I.fr
  have hr1 : Room k X.A.in1 := hr.in1
  refine PySem.W.repr_K hr1.units0 hF I.ok.mod.kin J h1 h2 ?_
  refine wpAny_mono (run_own (A := X.A.in1) (vs := [V.ref a]) F hr1 rfl hb I (.cons rfl .nil) q) (fun v s' hv => ?_) fun _ _ e => e
  obtain ⟨z, H', I', rz, t, ez, qz⟩ := hv
  subst ez
  obtain ⟨tk, rfl⟩ := rz
  exact ⟨.str t, H', I', ⟨tk, rfl⟩, qz⟩
end
end NeO

namespace NeO
open PySem PySem.Spec PyProof.Rows L2
section
variable {X : Cx} {k : Nat} {C f : Addr} {fd : FuncData} {ps : List Str} {sp : Sp} {pins : List (Addr × Obj)} {σ : L2.St} {H : Hp} {s : Shared}
/-- a == y of an instance of a class with its own == and any value of known type -/
def rEqV (K : PySem.W.Frag) (C : Addr) (sp : Sp) : R2 := fun x y H Q => ∃ (a dx : Addr) (fs : List (Str × V)) (t : Value), x = .ref a ∧ H a = some (.ins C dx fs) ∧ TyX K H y t ∧ PySem.W.notFirst K C t = true ∧
  sp [.ref a, y] H (fun v H' => ∃ c : Bool, v = .bl c ∧ Q (.bl c) H') fun _ _ _ => False
theorem op_eqV (h1 : PySem.W.findIn X.K (.ref C) "__eq__" = some (some (.ref f))) (h2 : PySem.W.isFn X.K (.ref f) = true) (F : FnOk X.prog X.w X.K X.mg X.base CX0 k f fd ps sp) (hr : Room k X.A) (hb : Binds X.K fd ps []) : OpR X (compareOp .Eq) (rEqV X.K C sp) := by
  intro pins s σ H x y v u Q I rx ry hq
  obtain ⟨a, dx, fs, t, rfl, ha, ty, nf, q⟩ := hq
  cases rx
  obtain ⟨mA, J, _⟩ := ins_get I.hok ha
  obtain ⟨od, J, _⟩ := J.look
  obtain ⟨m, hF⟩ := I.fr
  obtain ⟨P, Z, p, hx⟩ := kit_of I ry ty
  show wpAny (model X.prog X.w) X.A (richCompare .Eq (.ref a) u) (EP X pins σ Q) X.xe s
  refine PySem.W.cmp_K (op := .Eq) (tb := t) hr.units0 hF I.ok.mod.kin J (Z.ty _ _ I.kIn p) nf h1 h2 ?_
  refine wpAny_mono (run_own (vs := [V.ref a, y]) F hr rfl hb I (.cons rfl (.cons ry .nil)) q) (fun v s' hv => ?_) fun _ _ e => e
  obtain ⟨z, H', I', rz, c, ez, qz⟩ := hv
  subst ez
  cases rz
  exact ⟨.bl c, H', I', rfl, qz⟩
end
end NeO

namespace Tk
open PySem PySem.Spec PyProof.Rows L2
/-- what the rule of repr asks of data -/
structure RepOk (d : PyData) : Prop where
  sh : d.showable = true
  nd : d.hasDict = false
  dp : d.depth ≤ 50
  sz : d.shown.length ≤ sizeLine
theorem log2_lt {k : Nat} (h : k < 10 ^ 12) : k.log2 < 40 := by
  by_cases h0 : k = 0
  · subst h0; decide
  · have := (Nat.log2_lt h0 (k := 40)).mpr (Nat.lt_of_lt_of_le h (by decide))
    exact this
theorem ints_facts : ∀ {ns : List Int}, (∀ n ∈ ns, n.natAbs < 10 ^ 12) → PyData.showableAll (ns.map .int) = true ∧ PyData.hasDictAll (ns.map .int) = false ∧ PyData.depthAll (ns.map .int) = 0 ∧ PyData.canLayAll0 (ns.map .int) = true ∧ PyData.weightAll (ns.map .int) ≤ 42 * ns.length
  | [], _ => ⟨by simp [PyData.showableAll], by simp [PyData.hasDictAll], by simp [PyData.depthAll], by simp [PyData.canLayAll0], by simp [PyData.weightAll]⟩
  | n :: ns, h => by
    obtain ⟨a, b, c, d, e⟩ := ints_facts (ns := ns) fun m hm => h m (List.mem_cons_of_mem _ hm)
    have hn := log2_lt (h n (List.mem_cons_self ..))
    refine ⟨?_, ?_, ?_, ?_, ?_⟩
    · simp only [List.map_cons, PyData.showableAll, PyData.showable, a, Bool.and_true, decide_eq_true_eq]; omega
    · simp only [List.map_cons, PyData.hasDictAll, PyData.hasDict, b, Bool.or_false]
    · simp only [List.map_cons, PyData.depthAll, PyData.depth, c, Nat.max_self]
    · simp only [List.map_cons, PyData.canLayAll0, PyData.canLay0, d, Bool.and_true]
    · simp only [List.map_cons, PyData.weightAll, PyData.weight, List.length_cons]
      split <;> omega
theorem rep_ints {ns : List Int} (h : ∀ n ∈ ns, n.natAbs < 10 ^ 12) (hl : ns.length ≤ 1000) : RepOk (.list (ns.map .int)) := by
  obtain ⟨a, b, c, d, e⟩ := ints_facts h
  refine ⟨by simp only [PyData.showable]; exact a, by simp only [PyData.hasDict]; exact b, by simp only [PyData.depth]; omega, ?_⟩
  refine PyData.shown_fits (B := 13) (by decide) (by decide) ?_ ?_
  · simp only [PyData.leavesShort]
    exact PyData.leavesShortAll_of_canLay0 13 _ d (PyData.intsShortAll_ints ns h)
  · simp only [PyData.weight]; omega
theorem bools_facts : ∀ (bs : List Bool), PyData.showableAll (bs.map .bool) = true ∧ PyData.hasDictAll (bs.map .bool) = false ∧ PyData.depthAll (bs.map .bool) = 0 ∧ PyData.canLayAll0 (bs.map .bool) = true ∧ PyData.weightAll (bs.map .bool) ≤ 42 * bs.length
  | [] => ⟨by simp [PyData.showableAll], by simp [PyData.hasDictAll], by simp [PyData.depthAll], by simp [PyData.canLayAll0], by simp [PyData.weightAll]⟩
  | n :: ns => by
    obtain ⟨a, b, c, d, e⟩ := bools_facts ns
    refine ⟨?_, ?_, ?_, ?_, ?_⟩
    · simp only [List.map_cons, PyData.showableAll, PyData.showable, a, Bool.and_true]
    · simp only [List.map_cons, PyData.hasDictAll, PyData.hasDict, b, Bool.or_false]
    · simp only [List.map_cons, PyData.depthAll, PyData.depth, c, Nat.max_self]
    · simp only [List.map_cons, PyData.canLayAll0, PyData.canLay0, d, Bool.and_true]
    · simp only [List.map_cons, PyData.weightAll, PyData.weight, List.length_cons]
      omega
theorem rep_bools {bs : List Bool} (hl : bs.length ≤ 1000) : RepOk (.list (bs.map .bool)) := by
  obtain ⟨a, b, c, d, e⟩ := bools_facts bs
  refine ⟨by simp only [PyData.showable]; exact a, by simp only [PyData.hasDict]; exact b, by simp only [PyData.depth]; omega, ?_⟩
  refine PyData.shown_fits (B := 13) (by decide) (by decide) ?_ ?_
  · simp only [PyData.leavesShort]
    exact PyData.leavesShortAll_of_canLay0 13 _ d (PyData.intsShortAll_bools 13 bs)
  · simp only [PyData.weight]; omega

/-! ## calls with keywords alone, named in the parameters' order from behind -/
def tKwR (m : Nat) (sp : Sp) (t : L2.TA) : TE := fun σ H Q => t σ H fun zs H1 => zs.length = m ∧ sp zs.reverse H1 Q E0
section
variable {X : Cx} {k : Nat} {f : Addr} {fd : FuncData} {ps ks : List Str} {sp : Sp} {x : Str} {p pos : Pos} {kws : List Keyword} {t : L2.TA}
theorem vals_app {xs ys : List V} {us ws : List Value} (h : Vals xs us) (g : Vals ys ws) : Vals (xs ++ ys) (us ++ ws) := h.append g
theorem vals_rev : ∀ {xs : List V} {us : List Value}, Vals xs us → Vals xs.reverse us.reverse
  | _, _, .nil => .nil
  | _, _, .cons r t => by
    rw [List.reverse_cons, List.reverse_cons]
    exact (vals_rev t).append (.cons r .nil)
theorem pe_kwR (F : FnOk X.prog X.w X.K X.mg X.base CX0 k f fd ps sp) (hr : Room k X.A) (hg : Gl X x) (hm : X.mg x = some (.ref f)) (hk : PySem.W.keepIn X.K (.ref f) = true)
    (hb : ∀ (s : Shared) (ws : List Value), ws.length = ks.length → BindsTo s fd ⟨[], ks.zip ws⟩ (ps.zip ws.reverse))
    (hkw : PK X kws t) (hall : (backToKw pos (keywordEach kws X.env)).all (·.1.isSome) = true := by rfl) (hks : (backToKw pos (keywordEach kws X.env)).filterMap (·.1) = ks := by rfl) (hdb : (x == ("__debug__" : Str)) = false := by decide)
    (hpl : ((backTo pos (starEach [] X.env)).any (·.1) || (backToKw pos (keywordEach kws X.env)).any (·.1.isNone)) = false := by rfl) :
    PE X (.Call (.Name x p) [] kws pos) (tKwR ks.length sp t) := by
  constructor
  intro pins s σ H Q I h
  apply wpAny_Call_Name_kw
  apply ld_glob I hg hm _ hdb
  refine PySem.W.callWith_KW0 (h₀ := X.base) I.ok.mod.kin hk hall (thn (hkw.run pos pins s σ H _ I h) ?_) hpl
  rintro ws s1 ⟨zs, H1, I1, rv, lz, q⟩
  refine ⟨I1.kIn, ?_⟩
  rw [hks]
  have lw : ws.length = ks.length := by rw [← rv.length]; exact lz
  apply wpAny_call
  refine codeAny_mono (F.run X.A X.stack s1 H1 ⟨[], ks.zip ws⟩ ws.reverse zs.reverse Q E0 hr I1.env0 (hb s1 ws lw) (vals_rev rv) q) ?_
  intro r s' hq
  cases r with
  | error er => exact hq.elim
  | ok fl =>
    cases fl with
    | ret u => exact I1.after hq
    | next => exact hq.elim
    | brk => exact hq.elim
    | cont => exact hq.elim
end
end Tk
namespace Tk
open PySem
structure GoodD (d : PyData) (k W : Nat) : Prop where
  sh : d.showable = true
  nd : d.hasDict = false
  dp : d.depth ≤ k
  cl : d.canLay0 = true
  ish : d.intsShort 13 = true
  wt : d.weight ≤ W
structure GoodA (ds : List PyData) (k W : Nat) : Prop where
  sh : PyData.showableAll ds = true
  nd : PyData.hasDictAll ds = false
  dp : PyData.depthAll ds ≤ k
  cl : PyData.canLayAll0 ds = true
  ish : PyData.intsShortAll 13 ds = true
  wt : PyData.weightAll ds ≤ W
theorem goodA_ints {ns : List Int} (h : ∀ n ∈ ns, n.natAbs < 10 ^ 12) : GoodA (ns.map .int) 0 (42 * ns.length) := by
  obtain ⟨a, b, c, d, e⟩ := ints_facts h
  exact ⟨a, b, by omega, d, PyData.intsShortAll_ints ns h, e⟩
theorem goodD_list {ds : List PyData} {k W : Nat} (g : GoodA ds k W) : GoodD (.list ds) (k + 1) (W + 64) := by
  refine ⟨by simp only [PyData.showable]; exact g.sh, by simp only [PyData.hasDict]; exact g.nd, ?_, by simp only [PyData.canLay0]; exact g.cl, by simp only [PyData.intsShort]; exact g.ish, ?_⟩
  · have := g.dp
    simp only [PyData.depth]; omega
  · have := g.wt
    simp only [PyData.weight]; omega
theorem goodA_nil {k : Nat} : GoodA [] k 64 := ⟨by simp [PyData.showableAll], by simp [PyData.hasDictAll], by simp [PyData.depthAll], by simp [PyData.canLayAll0], by simp [PyData.intsShortAll], by simp [PyData.weightAll]⟩
theorem goodA_cons {d : PyData} {ds : List PyData} {k W1 W2 : Nat} (g : GoodD d k W1) (h : GoodA ds k W2) : GoodA (d :: ds) k (W1 + W2 + 64) := by
  refine ⟨?_, ?_, ?_, ?_, ?_, ?_⟩
  · simp only [PyData.showableAll, g.sh, h.sh]; rfl
  · simp only [PyData.hasDictAll, g.nd, h.nd]; rfl
  · have a := g.dp
    have b := h.dp
    simp only [PyData.depthAll]; omega
  · simp only [PyData.canLayAll0, g.cl, h.cl]; rfl
  · simp only [PyData.intsShortAll, g.ish, h.ish]; rfl
  · have a := g.wt
    have b := h.wt
    simp only [PyData.weightAll]; omega
theorem goodD_rep {d : PyData} {k W : Nat} (g : GoodD d k W) (hk : k ≤ 50) (hW : W ≤ 100000) : RepOk d :=
  ⟨g.sh, g.nd, Nat.le_trans g.dp hk, PyData.shown_fits (B := 13) (by decide) (by decide) (PyData.leavesShort_of_canLay0 13 d g.cl g.ish) (by have := g.wt; omega)⟩
theorem goodD_mono {d : PyData} {k W W' : Nat} (g : GoodD d k W) (h : W ≤ W') : GoodD d k W' := ⟨g.sh, g.nd, g.dp, g.cl, g.ish, Nat.le_trans g.wt h⟩
/-- short lists of small ints -/
theorem goodA_rows : ∀ {os : List (List Int)}, (∀ o ∈ os, o.length ≤ 6 ∧ ∀ x ∈ o, x.natAbs < 10 ^ 12) → GoodA (os.map fun o => PyData.list (o.map .int)) 1 (400 * os.length + 64)
  | [], _ => goodA_nil
  | o :: os, h => by
    have ho := h o (List.mem_cons_self ..)
    have g1 : GoodD (.list (o.map .int)) 1 316 := goodD_mono (goodD_list (goodA_ints ho.2)) (by have := ho.1; omega)
    have g2 := goodA_rows (os := os) fun p hp => h p (List.mem_cons_of_mem _ hp)
    have g := goodA_cons g1 g2
    refine ⟨g.sh, g.nd, g.dp, g.cl, g.ish, Nat.le_trans g.wt ?_⟩
    rw [List.length_cons]
    omega
theorem rows_rep {os : List (List Int)} (h : ∀ o ∈ os, o.length ≤ 6 ∧ ∀ x ∈ o, x.natAbs < 10 ^ 12) (hl : os.length ≤ 6) : GoodD (.list (os.map fun o => PyData.list (o.map .int))) 2 3000 := goodD_mono (goodD_list (goodA_rows h)) (by omega)
end Tk

namespace NeO
open PySem PySem.Spec PyProof.Rows L2
section
variable {X : Cx} {k : Nat} {C f : Addr} {fd : FuncData} {ps : List Str} {sp : Sp} {pins : List (Addr × Obj)} {σ : L2.St} {H : Hp} {s : Shared}
/-- a + i (- *), a of a class with its own __add__ (..), i an int -/
def rBinT (C : Addr) (sp : Sp) : R2 := fun x y H Q => ∃ (a dx : Addr) (fs : List (Str × V)) (i : Int), x = .ref a ∧ y = .int i ∧ H a = some (.ins C dx fs) ∧
  sp [.ref a, .int i] H (fun v H' => ∃ p : Addr, v = .ref p ∧ Q (.ref p) H') fun _ _ _ => False
/-- what class and type give for it -/
structure BinT (K : PySem.W.Frag) (C f : Addr) (nm : String) : Prop where
  first : PySem.W.selfFirst K C = true
  own : PySem.W.findIn K (.ref C) (PySem.dunder nm) = some (some (.ref f))
  fn : PySem.W.isFn K (.ref f) = true
  back : ∃ rc, PySem.W.findIn K (.ref C) (dunderR nm) = some rc ∧ (rc = none ∨ ∃ g : Addr, rc = some (.ref g))
  tf : ∃ fo, PySem.W.findIn K (.type "int") (PySem.dunder nm) = some fo
  tr : ∃ ro, PySem.W.findIn K (.type "int") (dunderR nm) = some ro
  sub : PySem.W.subIn K (.type "int") (.ref C) = some false
theorem op_binT {op : Operator} (Z : BinT X.K C f op.info.2) (F : FnOk X.prog X.w X.K X.mg X.base CX0 k f fd ps sp) (hr : Room k X.A) (hb : Binds X.K fd ps []) : OpR X (binaryOp op) (rBinT C sp) := by
  intro pins s σ H x y v u Q I rx ry hq
  obtain ⟨a, dx, fs, i, rfl, rfl, ha, q⟩ := hq
  cases rx
  obtain ⟨ti, rfl⟩ := ry
  obtain ⟨mA, J, _⟩ := ins_get I.hok ha
  obtain ⟨od, J, _⟩ := J.look
  obtain ⟨m, hF⟩ := I.fr
  obtain ⟨rc, h3, h4⟩ := Z.back
  obtain ⟨fo, h5⟩ := Z.tf
  obtain ⟨ro, h6⟩ := Z.tr
  refine PySem.W.ksp_binT (T := "int") hF I.ok.mod.kin J rfl Z.first Z.own Z.fn h3 h4 h5 h6 Z.sub ?_
  refine wpAny_mono (run_own (vs := [V.ref a, V.int i]) F hr rfl hb I (.cons rfl (.cons ⟨ti, rfl⟩ .nil)) q) (fun v s' hv => ?_) fun _ _ e => e
  obtain ⟨z, H', I', rz, p, ez, qz⟩ := hv
  subst ez
  cases rz
  exact ⟨.ref p, H', I', rfl, qz⟩
/-- -a by an own __neg__ -/
theorem neg_own {pins : List (Addr × Obj)} {a dx : Addr} {fs : List (Str × V)} {Q : VK} (h1 : PySem.W.findIn X.K (.ref C) "__neg__" = some (some (.ref f))) (h2 : PySem.W.isFn X.K (.ref f) = true) (F : FnOk X.prog X.w X.K X.mg X.base CX0 k f fd ps sp) (hr : Room k X.A) (hb : Binds X.K fd ps [])
    (I : Inv X pins σ H s) (ha : H a = some (.ins C dx fs)) (q : sp [.ref a] H Q fun _ _ _ => False) : wpAny (model X.prog X.w) X.A (unaryOp .USub (.ref a)) (EP X pins σ Q) X.xe s := by
  obtain ⟨mA, J, _⟩ := ins_get I.hok ha
  obtain ⟨od, J, _⟩ := J.look
  obtain ⟨m, hF⟩ := I.fr
  exact PySem.W.ksp_neg hF I.ok.mod.kin J h1 h2 (run_own (vs := [V.ref a]) F hr rfl hb I (.cons rfl .nil) q)
end
end NeO
namespace NeO
open PySem PySem.W PySem.Spec PyProof.Rows
section
variable {M : Model} {prog : Program} {w : World} {A : Around} {E : Value → Shared → Prop} {s : Shared} {K : Frag}
/-- int's own method declines an instance -/
theorem int_declines {nm : String} {f : Int → Int → Sem Fin} {i : Int} {t : Tok} {b C dx : Addr} {Q : Fin → Shared → Prop} (hx : s.heap.get? b = some (instObj C dx)) (h : Q (.done (.ret .notImplemented)) s) :
    wpAny M A (Builtin.Int.intBinary nm f false ⟨[.int i t, .ref b], []⟩) Q E s := by
  unfold Builtin.Int.intBinary Builtin.Int.intOfSelf asInt?
  repeat (first | (with_reducible refine wpAny_load_at hx ?_) | wp_step)
  exact h
/-- what int has for the operator -/
structure IntSlot (nm : String) : Prop where
  ex : ∃ (id : String) (name : String) (f : Int → Int → Sem Fin), Slot "int" (dunder nm) id ∧ entryFor table id = some (Builtin.Int.intBinary name f false) ∧ ∀ a b : Value, argsOk id ⟨[a, b], []⟩
  fills : fillsNumberSlot (.type "int") nm = pure true
theorem int_add : IntSlot "add" := ⟨⟨_, _, _, PySem.F.slot_int_add, PySem.F.entry_int_add, fun a b => PySem.F.args_int_add_2 a b⟩, PySem.F.fills_int_add⟩
theorem int_sub : IntSlot "sub" := ⟨⟨_, _, _, PySem.F.slot_int_sub, PySem.F.entry_int_sub, fun a b => PySem.F.args_int_sub_2 a b⟩, PySem.F.fills_int_sub⟩
theorem int_mul : IntSlot "mul" := ⟨⟨_, _, _, PySem.F.slot_int_mul, PySem.F.entry_int_mul, fun a b => PySem.F.args_int_mul_2 a b⟩, PySem.F.fills_int_mul⟩
theorem rbin_K {op : Operator} {i : Int} {t : Tok} {b C dx f f' : Addr} {od : Option Obj} {Q : Value → Shared → Prop} (Z : IntSlot op.info.2) (X : K.In s.heap) (hx : s.heap.get? b = some (instObj C dx)) (I : InstAt s.heap b (instObj C dx) C od)
    (hc : selfFirst K C = true) (hs : findIn K (.ref C) (PySem.dunder op.info.2) = some (some (.ref f'))) (hr : findIn K (.ref C) (dunderR op.info.2) = some (some (.ref f))) (hf : isFn K (.ref f) = true) (hsub : subIn K (.ref C) (.type "int") = some false)
    (h : wpAny (model prog w) A (call (.ref f) [.ref b, .int i t]) (PySem.W.CmpBack Q) E s) : wpAny (model prog w) A (binaryOp op (.int i t) (.ref b)) Q E s := by
  obtain ⟨cd, rest, hcd, hm⟩ := ksp_first hc
  obtain ⟨⟨id, name, g, sl, en, ar⟩, fl⟩ := Z
  rcases hi : op.info with ⟨sym, nm'⟩
  rw [hi] at hs hr sl fl
  dsimp only at hs hr sl fl
  have one := ksp_try (M := model prog w) X I hr hf h
  have L2 : Looks (model prog w) s.heap (typeOf (.ref b)) (.ref C) := I.type
  have L3 : Looks (model prog w) s.heap (fillsNumberSlot (.ref C) nm') true := fills_K X hcd hm hs
  have L5 : Looks (model prog w) s.heap (isSubtype (.ref C) (.type "int")) false := looks_subIn X hsub
  have hne : (Value.type "int" == Value.ref C) = false := Bool.eq_false_iff.mpr fun q => by cases beq_iff_eq.mp q
  have hpy : numberSlotInPython (.type "int") nm' = pure false := rfl
  simp only [binaryOp, hi]
  refine wpAny_holding (wpAny_bind ?_)
  simp only [binaryOp1]
  refine wpAny_bind (wpAny_typeOf (typeIs_int s i t) (wpAny_bind (L2.at (wpAny_bind (wpAny_of_eq fl ?_)))))
  simp only [hne, Bool.false_eq_true, if_false]
  refine wpAny_bind (L3.at ?_)
  simp only [Bool.and_self, if_true]
  refine wpAny_bind (L5.at ?_)
  simp only [Bool.false_eq_true, if_false, pure_bind, Bool.not_false, Bool.and_self, if_true, hpy]
  refine wpAny_bind (wpAny_tryMethod_declines (typeIs_int s i t) sl (wpAny_call_entry sl (typeIs_int s i t) en (int_declines hx ⟨_, rfl, rfl, ?_⟩) (ar _ _)))
  simp only []
  refine wpAny_bind (wpAny_mono one (fun r s' hr' => ?_) fun _ _ e => e)
  obtain ⟨v, rfl, hq⟩ := hr'
  repeat (first | exact hq | wp_step)
end
end NeO
namespace NeO
open PySem PySem.Spec PyProof.Rows L2
section
variable {X : Cx} {k : Nat} {C f : Addr} {fd : FuncData} {ps : List Str} {sp : Sp} {pins : List (Addr × Obj)} {σ : L2.St} {H : Hp} {s : Shared}
/-- i + b (- *), i an int, b of a class with its own __radd__ (..) -/
def rBinR (C : Addr) (sp : Sp) : R2 := fun x y H Q => ∃ (b dx : Addr) (fs : List (Str × V)) (i : Int), x = .int i ∧ y = .ref b ∧ H b = some (.ins C dx fs) ∧
  sp [.ref b, .int i] H (fun v H' => ∃ p : Addr, v = .ref p ∧ Q (.ref p) H') fun _ _ _ => False
structure BinR (K : PySem.W.Frag) (C f : Addr) (nm : String) : Prop where
  first : PySem.W.selfFirst K C = true
  own : ∃ g : Addr, PySem.W.findIn K (.ref C) (PySem.dunder nm) = some (some (.ref g))
  back : PySem.W.findIn K (.ref C) (dunderR nm) = some (some (.ref f))
  fn : PySem.W.isFn K (.ref f) = true
  sub : PySem.W.subIn K (.ref C) (.type "int") = some false
theorem op_binR {op : Operator} (N : IntSlot op.info.2) (Z : BinR X.K C f op.info.2) (F : FnOk X.prog X.w X.K X.mg X.base CX0 k f fd ps sp) (hr : Room k X.A) (hb : Binds X.K fd ps []) : OpR X (binaryOp op) (rBinR C sp) := by
  intro pins s σ H x y v u Q I rx ry hq
  obtain ⟨b, dx, fs, i, rfl, rfl, hb', q⟩ := hq
  cases ry
  obtain ⟨ti, rfl⟩ := rx
  obtain ⟨mB, J, _⟩ := ins_get I.hok hb'
  obtain ⟨od, J, _⟩ := J.look
  obtain ⟨_, _, _, hx, _⟩ := (show ObjOk X.prog X.w H s.heap b (.ins C dx fs) from I.hok b _ hb')
  obtain ⟨g, hg⟩ := Z.own
  refine rbin_K N I.kIn hx J Z.first hg Z.back Z.fn Z.sub ?_
  refine wpAny_mono (run_own (vs := [V.ref b, V.int i]) F hr rfl hb I (.cons rfl (.cons ⟨ti, rfl⟩ .nil)) q) (fun v s' hv => ?_) fun _ _ e => e
  obtain ⟨z, H', I', rz, p, ez, qz⟩ := hv
  subst ez
  cases rz
  exact ⟨.ref p, H', I', rfl, qz⟩
end
end NeO
namespace NeO
open PySem PySem.Spec PyProof.Rows L2
section
variable {X : Cx} {CXV : CXT} {k i : Nat} {f C : Addr} {fd : FuncData} {ps : List Str} {sp : Sp} {ds : List Value} {dvs : List V} {E : XK} {x : Str} {p pos : Pos} {e : Expr} {es : List Expr} {t : L2.TA}
/-- c(..), the local c (slot i) holding the class at C -/
def tMakeL (i : Nat) (C : Addr) (sp : Sp) (dvs : List V) (E : XK) (t : L2.TA) : TE := fun σ H Q => σ[i]? = some (some (.ref C)) ∧ t σ H fun vs H1 => ∀ x dx, H1 x = none → H1 dx = none → dx ≠ x →
  sp (.ref x :: (vs ++ dvs)) (upd (upd H1 dx (.own x)) x (.ins C dx [])) (fun v H2 => v = .non ∧ Q (.ref x) H2) E
theorem pe_makeL (M : Mk X.K C f) (F : FnOk X.prog X.w X.K X.mg X.base CXV k f fd ps sp) (hr : Room (k + 1) X.A) (hN : X.N[i]? = some x) (hv : Vis X.env.scope x) (hb : Binds X.K fd ps ds) (hd : Vals dvs ds) (hx : Passes CXV X E) (ha : PA X (e :: es) t)
    (hdb : (x == ("__debug__" : Str)) = false := by decide) (hcd : (x == ("__classdict__" : Str)) = false := by decide)
    (he : starEach (e :: es) X.env = (false, eval e X.env) :: starEach es X.env := by rfl) (hpl : (backTo pos (starEach es X.env)).any (·.1) = false := by rfl) : PE X (.Call (.Name x p) (e :: es) [] pos) (tMakeL i C sp dvs E t) := by
  refine ⟨fun pins s σ H Q I h => ?_⟩
  obtain ⟨hs, ht⟩ := h
  refine wpAny_Call_Name_kw (thn ((pe_var (pos := p) hN hv hdb hcd).run pins s σ H (fun v H1 => v = .ref C ∧ H1 = H) I ⟨.ref C, hs, rfl, rfl⟩) fun u s1 ⟨v, H1, I1, r1, q1⟩ => ?_)
  obtain ⟨rfl, rfl⟩ := q1
  cases r1
  refine PySem.W.callWith_K (h₀ := X.base) I.ok.mod.kin M.kp (thn (ha.run pos pins s1 σ _ _ I1 ht) fun us s2 ⟨vs, H2, I2, r, q⟩ => ⟨I2.kIn, ?_⟩) he hpl
  exact run_make M F hr hb hd hx I2 r q
end
end NeO
/-! ## further rules for a class with own operators -/
namespace NeO
open PySem PySem.Spec PyProof.Rows L2
section
variable {X : Cx} {k : Nat} {C f : Addr} {fd : FuncData} {ps : List Str} {sp : Sp} {pins : List (Addr × Obj)} {σ : L2.St} {H : Hp} {s : Shared}
/-- -e by an own __neg__ -/
def tNegI (C : Addr) (sp : Sp) (te : TE) : TE := fun σ H Q => te σ H fun x H1 => ∃ (a dx : Addr) (fs : List (Str × V)), x = .ref a ∧ H1 a = some (.ins C dx fs) ∧ sp [.ref a] H1 Q fun _ _ _ => False
theorem un_negI (h1 : PySem.W.findIn X.K (.ref C) "__neg__" = some (some (.ref f))) (h2 : PySem.W.isFn X.K (.ref f) = true) (F : FnOk X.prog X.w X.K X.mg X.base CX0 k f fd ps sp) (hr : Room k X.A) (hb : Binds X.K fd ps []) : UnR X (unaryOp .USub) (fun x H Q => ∃ (a dx : Addr) (fs : List (Str × V)), x = .ref a ∧ H a = some (.ins C dx fs) ∧ sp [.ref a] H Q fun _ _ _ => False) := by
  intro pins s σ H x v Q I rx hq
  obtain ⟨a, dx, fs, rfl, ha, q⟩ := hq
  cases rx
  exact neg_own h1 h2 F hr hb I ha q
/-- str(a) by an own __str__ -/
theorem call_strI (h1 : PySem.W.findIn X.K (.ref C) "__str__" = some (some (.ref f))) (h2 : PySem.W.isFn X.K (.ref f) = true) (F : FnOk X.prog X.w X.K X.mg X.base CX0 k f fd ps sp) (hr : Room (k + 2) X.A) (hb : Binds X.K fd ps []) : CallR X (.type "str") (rReprI C sp) := by
  intro pins s σ H xs us Q I r hq
  obtain ⟨a, dx, fs, rfl, ha, q⟩ := hq
  obtain rfl : us = [Value.ref a] := Vals.ref1 r
  obtain ⟨mA, J, _⟩ := ins_get I.hok ha
  obtain ⟨od, J, _⟩ := J.look
  have hr2 : Room k X.A.in1.in1 := hr.in1.in1
  refine PySem.W.kso_call hr2.units0 I.kIn J h1 h2 ?_
  refine wpAny_mono (run_own (A := X.A.in1.in1) (vs := [V.ref a]) F hr2 rfl hb I (.cons rfl .nil) q) (fun v s' hv => ?_) fun _ _ e => e
  obtain ⟨z, H', I', rz, t, ez, qz⟩ := hv
  subst ez
  obtain ⟨tk, rfl⟩ := rz
  exact ⟨.str t, H', I', ⟨tk, rfl⟩, qz⟩
end
end NeO

namespace NeO
open PySem PySem.W PySem.Spec PyProof.Rows
section
variable {M : Model} {prog : Program} {w : World} {A : Around} {E : Value → Shared → Prop} {s : Shared} {K : Frag}
/-- int's own == declines an instance -/
theorem eq_declines {i : Int} {t : Tok} {b C dx : Addr} {Q : Fin → Shared → Prop} (hx : s.heap.get? b = some (instObj C dx)) (h : Q (.done (.ret .notImplemented)) s) :
    wpAny M A (Builtin.«int.__eq__» ⟨[.int i t, .ref b], []⟩) Q E s := by
  refine int_declines (nm := "__eq__") (f := _) hx h
/-- i == b, i an int, b of a class with its own == -/
theorem eqR_K {i : Int} {t : Tok} {b C dx f : Addr} {od : Option Obj} {Q : Value → Shared → Prop} (hu : A.units < cLine) (X : K.In s.heap) (hx : s.heap.get? b = some (instObj C dx)) (I : InstAt s.heap b (instObj C dx) C od)
    (hs : findIn K (.ref C) "__eq__" = some (some (.ref f))) (hf : isFn K (.ref f) = true) (hsub : subIn K (.ref C) (.type "int") = some false)
    (h : wpAny (model prog w) A (call (.ref f) [.ref b, .int i t]) (PySem.W.CmpBack Q) E s) : wpAny (model prog w) A (richCompare .Eq (.int i t) (.ref b)) Q E s := by
  have one : wpAny (model prog w) A (tryCompare (.ref b) "__eq__" (.int i t)) (fun r s' => ∃ v, r = some v ∧ Q v s') E s := by
    unfold tryCompare
    refine wpAny_bind (ifBound_K X I hs hf (wpAny_mono h (fun v s' hv => ?_) fun _ _ e => e))
    cases v <;> first | exact hv.elim | exact wpAny_pure ⟨_, rfl, hv⟩
  have hne : (Value.type "int" != Value.ref C) = true := by
    cases q : (Value.type "int" != Value.ref C) with
    | true => rfl
    | false =>
      have := bne_eq_false_iff_eq.mp q
      cases this
  have L5 : Looks (model prog w) s.heap (isSubtype (.ref C) (.type "int")) false := looks_subIn X hsub
  unfold richCompare
  have e1 : oneThing? .Eq (.int i t) (.ref b) = none := rfl
  simp only [e1]
  refine wpAny_holding (wpAny_bind (wpAny_cRoomFor hu ?_))
  refine wpAny_bind (wpAny_typeOf (typeIs_int s i t) (wpAny_bind (I.type.here ?_)))
  simp only [hne, if_true]
  refine wpAny_bind (L5.here ?_)
  simp only [Bool.false_eq_true, if_false]
  refine wpAny_bind (wpAny_tryCompare_declines (typeIs_int s i t) PySem.F.slot_int_eq (wpAny_call_entry PySem.F.slot_int_eq (typeIs_int s i t) PySem.F.entry_int_eq (eq_declines hx ⟨_, rfl, rfl, ?_⟩) (PySem.F.args_int_eq_2 _ _)))
  simp only [Bool.not_false, if_true]
  refine wpAny_bind (wpAny_mono one (fun r s' z => ?_) fun _ _ e => e)
  obtain ⟨v, rfl, hq⟩ := z
  exact wpAny_pure hq
end
end NeO
namespace NeO
open PySem PySem.Spec PyProof.Rows L2
section
variable {X : Cx} {k : Nat} {C f : Addr} {fd : FuncData} {ps ks : List Str} {sp : Sp} {pins : List (Addr × Obj)} {σ : L2.St} {H : Hp} {s : Shared}
/-- i == b -/
def rEqR (C : Addr) (sp : Sp) : R2 := fun x y H Q => ∃ (b dx : Addr) (fs : List (Str × V)) (i : Int), x = .int i ∧ y = .ref b ∧ H b = some (.ins C dx fs) ∧ sp [.ref b, .int i] H (fun v H' => ∃ c : Bool, v = .bl c ∧ Q (.bl c) H') fun _ _ _ => False
theorem op_eqR (h1 : PySem.W.findIn X.K (.ref C) "__eq__" = some (some (.ref f))) (h2 : PySem.W.isFn X.K (.ref f) = true) (h3 : PySem.W.subIn X.K (.ref C) (.type "int") = some false) (F : FnOk X.prog X.w X.K X.mg X.base CX0 k f fd ps sp) (hr : Room k X.A) (hb : Binds X.K fd ps []) : OpR X (compareOp .Eq) (rEqR C sp) := by
  intro pins s σ H x y v u Q I rx ry hq
  obtain ⟨b, dx, fs, i, rfl, rfl, hb', q⟩ := hq
  cases ry
  obtain ⟨ti, rfl⟩ := rx
  obtain ⟨mB, J, _⟩ := ins_get I.hok hb'
  obtain ⟨od, J, _⟩ := J.look
  obtain ⟨_, _, _, hx, _⟩ := (show ObjOk X.prog X.w H s.heap b (.ins C dx fs) from I.hok b _ hb')
  show wpAny (model X.prog X.w) X.A (richCompare .Eq (.int i ti) (.ref b)) (EP X pins σ Q) X.xe s
  refine eqR_K hr.units0 I.kIn hx J h1 h2 h3 ?_
  refine wpAny_mono (run_own (vs := [V.ref b, V.int i]) F hr rfl hb I (.cons rfl (.cons ⟨ti, rfl⟩ .nil)) q) (fun v s' hv => ?_) fun _ _ e => e
  obtain ⟨z, H', I', rz, c, ez, qz⟩ := hv
  subst ez
  cases rz
  exact ⟨.bl c, H', I', rfl, qz⟩
/-- o.m(k = v, ..), the keywords in the parameters' order behind the first one -/
def tMethK (C : Addr) (m : Str) (n : Nat) (sp : Sp) (ta : TE) (t : L2.TA) : TE := fun σ H Q => ta σ H fun x H1 => ∃ a dx fs, x = .ref a ∧ H1 a = some (.ins C dx fs) ∧ fs.lookup m = none ∧ t σ H1 fun zs H2 => zs.length = n ∧ sp (x :: zs) H2 Q E0
theorem pe_methK {o : Expr} {m : Str} {ta : TE} {t : L2.TA} {apos pos : Pos} {kws : List Keyword} {pl : Sem Bool} (he : PE X o ta) (c : Cls X.K C) (hm : Meth X.K C m f) (F : FnOk X.prog X.w X.K X.mg X.base CX0 k f fd ps sp) (hr : Room k X.A)
    (hb : ∀ (s : Shared) (u : Value) (ws : List Value), ws.length = ks.length → BindsTo s fd ⟨[u], ks.zip ws⟩ (ps.zip (u :: ws)))
    (hkw : PK X kws t) (hall : (backToKw pos (keywordEach kws X.env)).all (·.1.isSome) = true := by rfl) (hks : (backToKw pos (keywordEach kws X.env)).filterMap (·.1) = ks := by rfl)
    (hpl : ((backTo pos (starEach [] X.env)).any (·.1) || (backToKw pos (keywordEach kws X.env)).any (·.1.isNone)) = false := by rfl)
    (ht : eval (.Call (.Attribute o m apos) [] kws pos) X.env = (do
      let ov ← eval o X.env
      standAt apos.atName
      let (f, first) ← holding [ov] (getMethod ov m pl)
      callWith pos f first (backTo pos (starEach [] X.env)) (backToKw pos (keywordEach kws X.env))) := by rfl) :
    PE X (.Call (.Attribute o m apos) [] kws pos) (tMethK C m ks.length sp ta t) := by
  refine ⟨fun pins s σ H Q I h => ?_⟩
  refine PySem.W.methodCall_KW (pl := pl) (thn (he.run pins s σ H _ I h) fun u s1 ⟨x, H1, I1, rx, a, dx, fs, ex, ea, l, q⟩ => ?_) ht
  subst ex
  obtain rfl : u = Value.ref a := rx
  refine getmeth_ok I1 ea c hm l ?_
  refine PySem.W.callWith_KW0 (first := [.ref a]) (h₀ := X.base) I1.ok.mod.kin hm.kp hall (thn (hkw.run pos pins s1 σ H1 _ I1 q) fun ws s2 ⟨zs, H2, I2, rz, lz, q2⟩ => ⟨I2.kIn, ?_⟩) hpl
  rw [hks]
  have lw : ws.length = ks.length := by rw [← rz.length]; exact lz
  apply wpAny_call
  refine codeAny_mono (F.run X.A X.stack s2 H2 ⟨[.ref a], ks.zip ws⟩ (.ref a :: ws) (.ref a :: zs) Q E0 hr I2.env0 (hb s2 (.ref a) ws lw) (.cons rfl rz) q2) ?_
  intro r s' hq
  cases r with
  | error er => exact hq.elim
  | ok fl =>
    cases fl with
    | ret u => exact I2.after hq
    | next => exact hq.elim
    | brk => exact hq.elim
    | cont => exact hq.elim
end
end NeO

namespace Tk
open PySem PySem.Spec PyProof.Rows L2
abbrev sRInit : Stmt := inClass (top 12) 0
abbrev sRTop : Stmt := inClass (top 12) 1
abbrev sRBot : Stmt := inClass (top 12) 2
abbrev sRSign : Stmt := inClass (top 12) 3
abbrev sRWhole : Stmt := inClass (top 12) 4
abbrev sRAdd : Stmt := inClass (top 12) 5
abbrev sRRadd : Stmt := inClass (top 12) 6
abbrev sRSub : Stmt := inClass (top 12) 7
abbrev sRRsub : Stmt := inClass (top 12) 8
abbrev sRMul : Stmt := inClass (top 12) 9
abbrev sRRmul : Stmt := inClass (top 12) 10
abbrev sRNeg : Stmt := inClass (top 12) 11
abbrev sROver : Stmt := inClass (top 12) 12
abbrev sRSize : Stmt := inClass (top 12) 13
abbrev sRBelow : Stmt := inClass (top 12) 14
abbrev sRMost : Stmt := inClass (top 12) 15
abbrev sREq : Stmt := inClass (top 12) 16
abbrev sRTotal : Stmt := inClass (top 12) 17
abbrev sRStr : Stmt := inClass (top 12) 18
abbrev sRRepr : Stmt := inClass (top 12) 19
abbrev sAsRat : Stmt := top 11
abbrev sIsNum : Stmt := top 10
/-! ## Ratio -/
theorem k_bt : ¬ (("_bottom" : Str) = "_top") := by decide +kernel
theorem k_tb : ¬ (("_top" : Str) = "_bottom") := by decide +kernel
def rf (t b : Int) : List (Str × V) := putF "_bottom" (.int b) (putF "_top" (.int t) [])
theorem rf_top (t b : Int) : (rf t b).lookup ("_top" : Str) = some (.int t) := by
  unfold rf
  rw [lookup_putF, if_neg k_tb, lookup_putF, if_pos rfl]
theorem rf_bot (t b : Int) : (rf t b).lookup ("_bottom" : Str) = some (.int b) := by
  unfold rf
  rw [lookup_putF, if_pos rfl]
theorem rf_no (t b : Int) {m : Str} (h1 : ¬ m = "_top") (h2 : ¬ m = "_bottom") : (rf t b).lookup m = none := by
  unfold rf
  rw [lookup_putF, if_neg h2, lookup_putF, if_neg h1]
  rfl
theorem putF_lenR (f : Str) (v : V) : ∀ fs : List (Str × V), (putF f v fs).length ≤ fs.length + 1
  | [] => by simp [putF]
  | (g, x) :: r => by
    unfold putF
    split
    · simp
    · have := putF_lenR f v r
      simp; omega
/-- facts of the class -/
structure RtC (K : PySem.W.Frag) (mg : Str → Option Value) (C : Addr) : Prop where
  cl : Cls K C
  nT : NoAttr K C "_top"
  nB : NoAttr K C "_bottom"
  mgC : mg "Ratio" = some (.ref C)
  gcd : mg "gcd" = some (.builtin "math.gcd")
/-- // by any divisor but 0 -/
def CDivWN (_ j : Int) : Prop := j ≠ 0 ∧ j.natAbs.log2 < 9000
theorem op_fdivWN {X : Cx} : OpR X (binaryOp .FloorDiv) (rI CDivWN fun i j => .int (i.fdiv j)) := opI fun i j _ _ _ _ _ hc q => floordiv_int hc.1 q (.inl (PyProof.noPylong_of_log2 hc.2))
/-- the divisor that brings them to lowest terms, the bottom above 0 -/
def comQ (t b : Int) : Int := if 0 < b then ((Nat.gcd t.natAbs b.natAbs : Nat) : Int) else -((Nat.gcd t.natAbs b.natAbs : Nat) : Int)
def lowQ (t b : Int) : Int × Int := (t.fdiv (comQ t b), b.fdiv (comQ t b))
theorem com_ne {t b : Int} (h : b ≠ 0) : comQ t b ≠ 0 := by
  have g0 : 0 < Nat.gcd t.natAbs b.natAbs := Nat.gcd_pos_of_pos_right _ (by omega)
  unfold comQ
  split <;> omega
theorem com_abs (t b : Int) : (comQ t b).natAbs = Nat.gcd t.natAbs b.natAbs := by
  unfold comQ
  split <;> simp
def RatAt (C : Addr) (H : Hp) (p : Addr) (q : Int × Int) : Prop := ∃ dx, H p = some (.ins C dx (rf q.1 q.2))
theorem rat_s {C : Addr} {H H' : Hp} {p : Addr} {q : Int × Int} (h : RatAt C H p q) (e : Same H H') : RatAt C H' p q := let ⟨dx, h⟩ := h; ⟨dx, e _ _ h⟩
def spRInit (C : Addr) : Sp := fun vs H Q _ => ∃ (p dx : Addr) (t b : Int), vs = [.ref p, .int t, .int b] ∧ H p = some (.ins C dx []) ∧ b ≠ 0 ∧ b.natAbs.log2 < 9000 ∧
  ∀ H', (∀ c o, c ≠ p → H c = some o → H' c = some o) → RatAt C H' p (lowQ t b) → Q .non H'
theorem log2_monoR {a b : Nat} (h : a ≤ b) (hb : b.log2 < 9000) : a.log2 < 9000 := by
  by_cases h0 : a = 0
  · subst h0; simp
  · have h1 : b < 2 ^ 9000 := (Nat.log2_lt (by omega)).mp hb
    exact (Nat.log2_lt h0).mpr (Nat.lt_of_le_of_lt h h1)
section
variable {P : Program} {w : World} {K : PySem.W.Frag} {mg : Str → Option Value} {base : Heap}
abbrev nRI : List Str := ["self", "top", "bottom", "value", "common"]
theorem sc_rinit : FnScope nRI ["self", "top", "bottom"] (defScope sRInit) := ⟨rfl, rfl, rfl, by decide +kernel, rfl, by decide +kernel, by decide +kernel⟩
theorem okD {x qual : Str} {st : Stmt} {dvs : List V} {kws : List (Str × V)} {f : Addr} {fd : FuncData} {N ps : List Str} {k : Nat} {sp : Sp} (F : FunD K x qual (defArgs st) (defBody st) (defScope st) dvs kws f fd) (S : FnScope N ps (defScope st)) (len : ∀ vs H Q E, sp vs H Q E → vs.length = ps.length)
    (hbody : ∀ (cdv : Value) (A : Around) (outer : List Env) (s : Shared) (H : Hp) (vs : List V) (Q : VK) (E : XK), Room k (A.deeper (envOfC qual (defScope st) s.heap.objs.size f cdv)) → sp vs H Q E →
      ∃ t, PSs (cxOf CX0 P w K mg base N qual (defScope st) f cdv A outer s H E).nox (defBody st) t ∧ t { nx := fun _ H' => Q .non H', rt := Q } (start N vs) H) : FnOk P w K mg base CX0 (k + 1) f fd ps sp :=
  F.ok S len fun cdv A outer s H vs Q E hr h => let ⟨t, h1, h2⟩ := hbody cdv A outer s H vs Q E hr h; ⟨t, h1.nox, h2⟩
/-- how __init__ is bound -/
theorem rinit_b {f : Addr} {fd : FuncData} (F : FunD K "__init__" "Ratio.__init__" (defArgs sRInit) (defBody sRInit) (defScope sRInit) [.int 1] [] f fd) : Binds K fd ["self", "top", "bottom"] [] := by
  obtain ⟨ds, v, b⟩ := F.binds1 (ps := ["self", "top", "bottom"]) 3 1 (by simp) (by simp) (fun T kV doc pm an cdv ct us its l1 l2 => match us, its, l1, l2 with | [_, _, _], [_], _, _ => ⟨_, rfl, rfl⟩)
  cases v
  exact b
theorem rinit_b1 {f : Addr} {fd : FuncData} (F : FunD K "__init__" "Ratio.__init__" (defArgs sRInit) (defBody sRInit) (defScope sRInit) [.int 1] [] f fd) : ∃ tk : Tok, Binds K fd ["self", "top", "bottom"] [.int 1 tk] := by
  obtain ⟨ds, v, b⟩ := F.binds1 (ps := ["self", "top", "bottom"]) 2 0 (by simp) (by simp) (fun T kV doc pm an cdv ct us its l1 l2 => match us, its, l1, l2 with | [_, _], [_], _, _ => ⟨_, rfl, rfl⟩)
  obtain ⟨u, rfl, ru⟩ := v.one
  obtain ⟨tk, rfl⟩ := ru
  exact ⟨tk, b⟩
theorem rinit_k {f : Addr} {fd : FuncData} (F : FunD K "__init__" "Ratio.__init__" (defArgs sRInit) (defBody sRInit) (defScope sRInit) [.int 1] [] f fd) : KBn K fd ["self", "top", "bottom"] 1 ["top", "bottom"] (fun us ws => us ++ ws) (fun vs zs => vs ++ zs) := by
  obtain ⟨oc, od, dV, kV, doc, pm, an, cdv, ct, osl, rfl, lk, hcd, hD, _⟩ := F.ex
  rcases hD with ⟨e, _⟩ | ⟨_, T, o, its, m, rfl, lT, oT, rT⟩
  · cases e
  · refine ⟨fun s us ws X l1 l2 => BindsTo.of_looks fun M => ?_, fun r1 r2 => r1.append r2⟩
    obtain ⟨u, rfl, _⟩ := rT.one
    match us, ws, l1, l2 with
    | [_], [_, _], _, _ => exact looks_items X lT oT (.of_pure rfl)
theorem ok_rinit {f f1 C : Addr} {fd fd1 : FuncData} (F : FunD K "__init__" "Ratio.__init__" (defArgs sRInit) (defBody sRInit) (defScope sRInit) [.int 1] [] f fd) (T : RtC K mg C) (D1 : Df K mg "is_integer" sIsInt ["value"] f1 fd1) (B : Bl mg) : FnOk P w K mg base CX0 2 f fd ["self", "top", "bottom"] (spRInit C) := by
  have G1 : FnOk P w K mg base CX0 1 f1 fd1 ["value"] (spIsInt K) := ok_isInt D1.F B
  refine okD F sc_rinit (fun vs H Q E h => ?_) (fun cdv A outer s H vs Q E hr h => ?_)
  · obtain ⟨p, dx, t, b, rfl, _⟩ := h
    rfl
  · obtain ⟨p, dx, t, b, rfl, hp, b0, bl, q⟩ := h
    refine ⟨_, pss_cons (ps_for PassesOwn.never rfl (pi_tup (pe_tup (pa_cons (pv 1) (pa_cons (pv 2) pa_nil)))) (pg_name (i := 3) sc_rinit.nd rfl (Or.inl rfl))
        (pss_one (ps_if (pt_not (pt_val (pe_call G1 hr rfl D1.g D1.F.kp D1.b .nil pass0 (pa_cons (pv 3) pa_nil)))) pss_never pss_nil)))
      (pss_cons (ps_if (pt_cmpR op_eq (pv 2) pe_int (nomark _)) pss_never pss_nil)
      (pss_cons (ps_set (i := 4) sc_rinit.nd rfl (Or.inl rfl) (pe_ifExp (pt_cmpR op_gt (pv 2) pe_int (nomark _)) (pe_callBfun cr_gcd (by rfl) T.gcd (pa_cons (pv 1) (pa_cons (pv 2) pa_nil))) (pe_un un_neg (pe_callBfun cr_gcd (by rfl) T.gcd (pa_cons (pv 1) (pa_cons (pv 2) pa_nil))))))
      (pss_cons (ps_fld (pv 0) (pe_op op_fdivWN (pv 1) (pv 4)) rfl)
      (pss_one (ps_fld (pv 0) (pe_op op_fdivWN (pv 2) (pv 4)) rfl))))), ?_⟩
    refine ⟨_, rfl, _, rfl, szle (by show 2 ≤ 100000; decide), fun u hu => ?_⟩
    have s1 : Same H (upd H u (.tup [V.int t, V.int b])) := same_new hu
    have hu1 : (upd H u (.tup [V.int t, V.int b])) u = some (.tup [V.int t, V.int b]) := upd_same
    generalize upd H u (.tup [V.int t, V.int b]) = H1 at s1 hu1
    refine ⟨u, rfl, ⟨_, st_of hu1⟩, for_tup (K := K) (a := u) (xs := [V.int t, V.int b]) (fun i σ G => ∃ v3 : Option V, σ = [some (V.ref p), some (V.int t), some (V.int b), v3, none] ∧ G = H1) ⟨none, rfl, rfl⟩ (fun i σ G _ z => by obtain ⟨_, _, z⟩ := z; rw [z]; exact st_of hu1) ?_ ?_⟩
    · rintro i x σ G hx ⟨v3, rfl, rfl⟩
      obtain ⟨m, rfl⟩ : ∃ m, x = V.int m := by
        match i, hx with
        | 0, hx => exact ⟨t, (Option.some.inj hx).symm⟩
        | 1, hx => exact ⟨b, (Option.some.inj hx).symm⟩
      exact ⟨_, rfl, V.int m, some m, rfl, .int m, true, rfl, iteF ⟨_, rfl, rfl⟩⟩
    · rintro σ G ⟨v3, rfl, rfl⟩
      have hp1 := s1 _ _ hp
      have gl : (comQ t b).natAbs.log2 < 9000 := by
        rw [com_abs]
        exact log2_monoR (Nat.le_of_dvd (by omega) (Nat.gcd_dvd_right _ _)) bl
      have cd : ∀ x : Int, CDivWN x (comQ t b) := fun x => ⟨com_ne b0, gl⟩
      refine ⟨_, rfl, rfl, _, rfl, ?_⟩
      rw [show decide (V.int b = V.int 0) = false from decide_eq_false (fun e => by have := V.int.inj e; omega)]
      refine iteF ?_
      refine ⟨_, rfl, _, _, rfl, rfl, _, rfl, ?_⟩
      refine ite2 (fun c => ?_) (fun c => ?_)
      · have ec : ((Nat.gcd t.natAbs b.natAbs : Nat) : Int) = comQ t b := by unfold comQ; rw [if_pos (of_decide_eq_true c)]
        refine ⟨_, rfl, _, rfl, t, b, rfl, ?_⟩
        rw [ec]
        refine ⟨_, rfl, _, rfl, _, _, rfl, rfl, cd t, _, rfl, p, C, dx, [], rfl, hp1, T.cl, T.nT, (by show 0 < 1000; decide), ?_⟩
        refine ⟨_, rfl, _, rfl, _, _, rfl, rfl, cd b, _, rfl, p, C, dx, putF "_top" (.int (t.fdiv (comQ t b))) [], rfl, upd_same, T.cl, T.nB, (by have := putF_lenR "_top" (.int (t.fdiv (comQ t b))) []; simp at this; omega), ?_⟩
        refine q _ (fun c o hc e => ?_) ⟨dx, upd_same⟩
        rw [upd_ne hc, upd_ne hc]
        exact s1 _ _ e
      · have ec : -((Nat.gcd t.natAbs b.natAbs : Nat) : Int) = comQ t b := by unfold comQ; rw [if_neg (fun z => c (decide_eq_true z))]
        refine ⟨_, rfl, _, rfl, t, b, rfl, _, rfl, ?_⟩
        dsimp only
        rw [ec]
        refine ⟨_, rfl, _, rfl, _, _, rfl, rfl, cd t, _, rfl, p, C, dx, [], rfl, hp1, T.cl, T.nT, (by show 0 < 1000; decide), ?_⟩
        refine ⟨_, rfl, _, rfl, _, _, rfl, rfl, cd b, _, rfl, p, C, dx, putF "_top" (.int (t.fdiv (comQ t b))) [], rfl, upd_same, T.cl, T.nB, (by have := putF_lenR "_top" (.int (t.fdiv (comQ t b))) []; simp at this; omega), ?_⟩
        refine q _ (fun c o hc e => ?_) ⟨dx, upd_same⟩
        rw [upd_ne hc, upd_ne hc]
        exact s1 _ _ e
end
end Tk

namespace Tk
open PySem PySem.Spec PyProof.Rows L2
theorem callR_or {X : Cx} {f : Value} {r1 r2 : List V → Hp → VK → Prop} (h1 : CallR X f r1) (h2 : CallR X f r2) : CallR X f (fun xs H Q => r1 xs H Q ∨ r2 xs H Q) := by
  intro pins s σ H xs us Q I r h
  rcases h with h | h
  · exact h1 pins s σ H xs us Q I r h
  · exact h2 pins s σ H xs us Q I r h
theorem opR_or {X : Cx} {f : Value → Value → Sem Value} {r1 r2 : R2} (h1 : OpR X f r1) (h2 : OpR X f r2) : OpR X f (fun x y H Q => r1 x y H Q ∨ r2 x y H Q) := by
  intro pins s σ H x y v u Q I rx ry h
  rcases h with h | h
  · exact h1 pins s σ H x y v u Q I rx ry h
  · exact h2 pins s σ H x y v u Q I rx ry h
/-- a NUMBER that is worth q -/
def NumAt (C : Addr) (H : Hp) (v : V) (q : Int × Int) : Prop := (∃ p, v = .ref p ∧ RatAt C H p q) ∨ ∃ i : Int, v = .int i ∧ q = (i, 1)
theorem num_s {C : Addr} {H H' : Hp} {v : V} {q : Int × Int} (h : NumAt C H v q) (e : Same H H') : NumAt C H' v q := by
  rcases h with ⟨p, rfl, h⟩ | h
  · exact .inl ⟨p, rfl, rat_s h e⟩
  · exact .inr h
def spAsR (C : Addr) : Sp := fun vs H Q _ => ∃ (v : V) (q : Int × Int), vs = [v] ∧ NumAt C H v q ∧ ∀ H' p, Same H H' → RatAt C H' p q → Q (.ref p) H'
theorem com_one (i : Int) : comQ i 1 = 1 := by
  unfold comQ
  rw [if_pos (by decide)]
  simp
theorem low_one (i : Int) : lowQ i 1 = (i, 1) := by
  unfold lowQ
  rw [com_one]
  simp
/-- what is asked of the class, further -/
structure RtM (K : PySem.W.Frag) (mg : Str → Option Value) (C fI : Addr) (dI : FuncData) : Prop where
  c : RtC K mg C
  ins : C8.InsC K C
  kI : PySem.W.kitOne K (.type "int") (.ref C) = some false
  kR : PySem.W.kitOne K (.ref C) (.type "int") = some false
  mkr : Mk K C fI
  FI : FunD K "__init__" "Ratio.__init__" (defArgs sRInit) (defBody sRInit) (defScope sRInit) [.int 1] [] fI dI
  bI : Binds K dI ["self", "top", "bottom"] []
  bI1 : ∃ tk : Tok, Binds K dI ["self", "top", "bottom"] [.int 1 tk]
/-- is_integer, .. of a Ratio -/
def spNoInt (C : Addr) : Sp := fun vs H Q _ => ∃ (p : Addr) (q : Int × Int), vs = [.ref p] ∧ RatAt C H p q ∧ Q (.bl false) H
def spIsNumR (C : Addr) : Sp := fun vs H Q _ => ∃ (p : Addr) (q : Int × Int), vs = [.ref p] ∧ RatAt C H p q ∧ Q (.bl true) H
/-- is_number of a value that is no Ratio -/
def spIsNumV (K : PySem.W.Frag) (C : Addr) : Sp := fun vs H Q _ => ∃ (v : V) (o : Option Int) (t : Value), vs = [v] ∧ IntV K H v o ∧ TyX K H v t ∧ PySem.W.kitOne K t (.ref C) = some false ∧ Q (.bl o.isSome) H
section
variable {P : Program} {w : World} {K : PySem.W.Frag} {mg : Str → Option Value} {base : Heap}
theorem sc_asr : FnScope ["number"] ["number"] (defScope sAsRat) := ⟨rfl, rfl, rfl, by decide +kernel, rfl, by decide +kernel, by decide +kernel⟩
theorem ok_asr {f f1 fI C : Addr} {fd fd1 dI : FuncData} (F : Fun K "as_ratio" "as_ratio" sAsRat f fd) (M : RtM K mg C fI dI) (D1 : Df K mg "is_integer" sIsInt ["value"] f1 fd1) (B : Bl mg) : FnOk P w K mg base CX0 4 f fd ["number"] (spAsR C) := by
  have GI : FnOk P w K mg base CX0 2 fI dI ["self", "top", "bottom"] (spRInit C) := ok_rinit M.FI M.c D1 B
  obtain ⟨tk, b1⟩ := M.bI1
  refine F.ok sc_asr (fun vs H Q E h => ?_) (fun cdv A outer s H vs Q E hr h => ?_)
  · obtain ⟨v, q, rfl, _⟩ := h
    rfl
  · obtain ⟨v, z, rfl, hn, q⟩ := h
    refine ⟨_, pss_cons (ps_if (pt_val (pe_callB (callR_or (C8.call_isC M.ins) call_isi) (by rfl) B.isi PyProof.Rows.boot_isinstance (pa_cons (pv 0) (pa_cons (pe_glob (v := .ref C) rfl M.c.mgC rfl) pa_nil)))) (pss_one (ps_ret (pv 0))) pss_nil)
      (pss_one (ps_ret (pe_make M.mkr GI hr rfl M.c.mgC b1 (dvs := [V.int 1]) (.cons ⟨tk, rfl⟩ .nil) pass0 (pa_cons (pv 0) pa_nil)))), ?_⟩
    rcases hn with ⟨p, rfl, dx, hp⟩ | ⟨i, rfl, rfl⟩
    · refine ⟨_, rfl, .inl ⟨p, dx, _, rfl, hp, true, rfl, iteT ?_⟩⟩
      exact ⟨_, rfl, q H p (fun _ _ h => h) ⟨dx, hp⟩⟩
    · refine ⟨_, rfl, .inr ⟨_, _, _, _, false, rfl, .own C, .base (.int i), M.kI, false, rfl, iteF ?_⟩⟩
      refine ⟨_, rfl, fun x dx nx ndx nex => ?_⟩
      have sm : Same H (upd (upd H dx (.own x)) x (.ins C dx [])) := fun b o e => by
        rw [upd_ne (ne_of_none e nx), upd_ne (ne_of_none e ndx)]
        exact e
      refine ⟨x, dx, i, 1, rfl, upd_same, by decide, by decide, fun H' keep hr' => ⟨rfl, ?_⟩⟩
      rw [low_one] at hr'
      exact q H' x (fun b o e => keep b o (ne_of_none e nx) (sm b o e)) hr'
/-- is_integer of a Ratio -/
theorem ok_noInt {f fI C : Addr} {fd dI : FuncData} (F : Fun K "is_integer" "is_integer" sIsInt f fd) (M : RtM K mg C fI dI) (B : Bl mg) : FnOk P w K mg base CX0 1 f fd ["value"] (spNoInt C) := by
  refine F.ok sc_isInt (fun vs H Q E h => ?_) (fun cdv A outer s H vs Q E hr h => ?_)
  · obtain ⟨p, q, rfl, _⟩ := h
    rfl
  · obtain ⟨p, z, rfl, ⟨dx, hp⟩, q⟩ := h
    refine ⟨_, pss_one (ps_ret (pe_and
      (pe_callB call_isi (by rfl) B.isi PyProof.Rows.boot_isinstance (pa_cons (pv 0) (pa_cons (pe_bltn (v := .ty "int") (by rfl) B.int PyProof.Rows.boot_int rfl) pa_nil)))
      (pe_one (pe_not (pe_callB call_isi (by rfl) B.isi PyProof.Rows.boot_isinstance (pa_cons (pv 0) (pa_cons (pe_bltn (v := .ty "bool") (by rfl) B.bool PyProof.Rows.boot_bool rfl) pa_nil))))))), ?_⟩
    exact ⟨_, rfl, _, _, _, _, false, rfl, .ty _, .base (TyOf.ins hp M.ins.cl M.ins.ha M.ins.hn M.ins.htk M.ins.hm), M.kR, false, rfl, iteF q⟩
theorem ok_noCnt {f f1 fI C : Addr} {fd fd1 dI : FuncData} (F : Fun K "is_count" "is_count" sIsCnt f fd) (M : RtM K mg C fI dI) (D1 : Df K mg "is_integer" sIsInt ["value"] f1 fd1) (B : Bl mg) : FnOk P w K mg base CX0 2 f fd ["value"] (spNoInt C) := by
  have G1 : FnOk P w K mg base CX0 1 f1 fd1 ["value"] (spNoInt C) := ok_noInt D1.F M B
  refine F.ok sc_isCnt (fun vs H Q E h => ?_) (fun cdv A outer s H vs Q E hr h => ?_)
  · obtain ⟨p, q, rfl, _⟩ := h
    rfl
  · obtain ⟨p, z, rfl, hp, q⟩ := h
    refine ⟨_, pss_one (ps_ret (pe_and (pe_call G1 hr rfl D1.g D1.F.kp D1.b .nil pass0 (pa_cons (pv 0) pa_nil)) (pe_one (pe_cmpR op_ge (pv 0) pe_int (nomark _))))), ?_⟩
    exact ⟨_, rfl, p, z, rfl, hp, false, rfl, iteF q⟩
theorem sc_isNum : FnScope ["value"] ["value"] (defScope sIsNum) := ⟨rfl, rfl, rfl, by decide +kernel, rfl, by decide +kernel, by decide +kernel⟩
theorem ok_isNumR {f f1 fI C : Addr} {fd fd1 dI : FuncData} (F : Fun K "is_number" "is_number" sIsNum f fd) (M : RtM K mg C fI dI) (D1 : Df K mg "is_integer" sIsInt ["value"] f1 fd1) (B : Bl mg) : FnOk P w K mg base CX0 2 f fd ["value"] (spIsNumR C) := by
  have G1 : FnOk P w K mg base CX0 1 f1 fd1 ["value"] (spNoInt C) := ok_noInt D1.F M B
  refine F.ok sc_isNum (fun vs H Q E h => ?_) (fun cdv A outer s H vs Q E hr h => ?_)
  · obtain ⟨p, q, rfl, _⟩ := h
    rfl
  · obtain ⟨p, z, rfl, hp, q⟩ := h
    refine ⟨_, pss_one (ps_ret (pe_or (pe_call G1 hr rfl D1.g D1.F.kp D1.b .nil pass0 (pa_cons (pv 0) pa_nil)) (pe_one (pe_callB (C8.call_isC M.ins) (by rfl) B.isi PyProof.Rows.boot_isinstance (pa_cons (pv 0) (pa_cons (pe_glob (v := .ref C) rfl M.c.mgC rfl) pa_nil)))))), ?_⟩
    obtain ⟨dx, hp'⟩ := id hp
    exact ⟨_, rfl, p, z, rfl, hp, false, rfl, iteF ⟨_, rfl, p, dx, _, rfl, hp', q⟩⟩
theorem ok_isNumV {f f1 fI C : Addr} {fd fd1 dI : FuncData} (F : Fun K "is_number" "is_number" sIsNum f fd) (M : RtM K mg C fI dI) (D1 : Df K mg "is_integer" sIsInt ["value"] f1 fd1) (B : Bl mg) : FnOk P w K mg base CX0 2 f fd ["value"] (spIsNumV K C) := by
  have G1 : FnOk P w K mg base CX0 1 f1 fd1 ["value"] (spIsInt K) := ok_isInt D1.F B
  refine F.ok sc_isNum (fun vs H Q E h => ?_) (fun cdv A outer s H vs Q E hr h => ?_)
  · obtain ⟨v, o, t, rfl, _⟩ := h
    rfl
  · obtain ⟨v, o, t, rfl, hv, ty, kt, q⟩ := h
    refine ⟨_, pss_one (ps_ret (pe_or (pe_call G1 hr rfl D1.g D1.F.kp D1.b .nil pass0 (pa_cons (pv 0) pa_nil)) (pe_one (pe_callB call_isi (by rfl) B.isi PyProof.Rows.boot_isinstance (pa_cons (pv 0) (pa_cons (pe_glob (v := .ref C) rfl M.c.mgC rfl) pa_nil)))))), ?_⟩
    refine ⟨_, rfl, v, o, rfl, hv, o.isSome, rfl, ?_⟩
    cases o with
    | some i => exact iteT q
    | none => exact iteF ⟨_, rfl, _, _, _, _, false, rfl, .own C, ty, kt, q⟩
end
end Tk

namespace Tk
open PySem PySem.Spec PyProof.Rows L2
structure RtP (K : PySem.W.Frag) (C pT gT pB gB : Addr) (dT dB : FuncData) : Prop where
  pt : PropOf K C "top" pT gT
  FT : Fun K "top" "Ratio.top" sRTop gT dT
  bT : Binds K dT ["self"] []
  pb : PropOf K C "bottom" pB gB
  FB : Fun K "bottom" "Ratio.bottom" sRBot gB dB
  bB : Binds K dB ["self"] []
/-- numbers that stay far below what an int may be here -/
structure Small (q : Int × Int) : Prop where
  pos : 0 < q.2
  bot : q.2.natAbs.log2 < 4000
  top : q.1.natAbs.log2 < 100000
def addQ (x y : Int × Int) : Int × Int := lowQ (x.1 * y.2 + y.1 * x.2) (x.2 * y.2)
def subQ (x y : Int × Int) : Int × Int := lowQ (x.1 * y.2 - y.1 * x.2) (x.2 * y.2)
def mulQ (x y : Int × Int) : Int × Int := lowQ (x.1 * y.1) (x.2 * y.2)
def spBin (C : Addr) (g : Int × Int → Int × Int → Int × Int) : Sp := fun vs H Q _ => ∃ (p : Addr) (v : V) (x y : Int × Int), vs = [.ref p, v] ∧ RatAt C H p x ∧ NumAt C H v y ∧ Small x ∧ Small y ∧
  ∀ H' r, Same H H' → H r = none → RatAt C H' r (g x y) → Q (.ref r) H'
theorem log2_mulR {a b k l : Nat} (ha : a.log2 < k) (hb : b.log2 < l) : (a * b).log2 < k + l := by
  by_cases h0 : a * b = 0
  · rw [h0]; simp; omega
  · have a0 : a ≠ 0 := fun e => h0 (by rw [e, Nat.zero_mul])
    have b0 : b ≠ 0 := fun e => h0 (by rw [e, Nat.mul_zero])
    have h1 := (Nat.log2_lt a0).mp ha
    have h2 := (Nat.log2_lt b0).mp hb
    refine (Nat.log2_lt h0).mpr ?_
    rw [Nat.pow_add]
    exact Nat.mul_lt_mul'' h1 h2
theorem small_bot {x y : Int × Int} (hx : Small x) (hy : Small y) : 0 < x.2 * y.2 ∧ (x.2 * y.2).natAbs.log2 < 9000 := by
  refine ⟨Int.mul_pos hx.pos hy.pos, ?_⟩
  rw [Int.natAbs_mul]
  have := log2_mulR hx.bot hy.bot
  omega
section
variable {P : Program} {w : World} {K : PySem.W.Frag} {mg : Str → Option Value} {base : Heap}
theorem sc_rtop : FnScope ["self"] ["self"] (defScope sRTop) := ⟨rfl, rfl, rfl, by decide +kernel, rfl, by decide +kernel, by decide +kernel⟩
theorem ok_rtop {f C : Addr} {fd : FuncData} (F : Fun K "top" "Ratio.top" sRTop f fd) (T : RtC K mg C) : FnOk P w K mg base CX0 1 f fd ["self"] (getSp C "_top") := by
  refine F.ok sc_rtop (fun vs H Q E h => ?_) (fun cdv A outer s H vs Q E hr h => ?_)
  · obtain ⟨a, dx, fs, v, rfl, _⟩ := h
    rfl
  · obtain ⟨a, dx, fs, v, rfl, ha, hl, q⟩ := h
    refine ⟨_, pss_one (ps_ret (pe_fld (pv 0) rfl)), ?_⟩
    exact ⟨_, rfl, a, C, dx, fs, v, rfl, ha, T.cl, T.nT, hl, q⟩
theorem sc_rbot : FnScope ["self"] ["self"] (defScope sRBot) := ⟨rfl, rfl, rfl, by decide +kernel, rfl, by decide +kernel, by decide +kernel⟩
theorem ok_rbot {f C : Addr} {fd : FuncData} (F : Fun K "bottom" "Ratio.bottom" sRBot f fd) (T : RtC K mg C) : FnOk P w K mg base CX0 1 f fd ["self"] (getSp C "_bottom") := by
  refine F.ok sc_rbot (fun vs H Q E h => ?_) (fun cdv A outer s H vs Q E hr h => ?_)
  · obtain ⟨a, dx, fs, v, rfl, _⟩ := h
    rfl
  · obtain ⟨a, dx, fs, v, rfl, ha, hl, q⟩ := h
    refine ⟨_, pss_one (ps_ret (pe_fld (pv 0) rfl)), ?_⟩
    exact ⟨_, rfl, a, C, dx, fs, v, rfl, ha, T.cl, T.nB, hl, q⟩
abbrev nBin : List Str := ["self", "other", "right", "top"]
theorem sc_radd : FnScope nBin ["self", "other"] (defScope sRAdd) := ⟨rfl, rfl, rfl, by decide +kernel, rfl, by decide +kernel, by decide +kernel⟩
theorem ok_radd {f f1 fR fI C pT gT pB gB : Addr} {fd fd1 dR dI dT dB : FuncData} (F : Fun K "__add__" "Ratio.__add__" sRAdd f fd) (M : RtM K mg C fI dI) (Z : RtP K C pT gT pB gB dT dB) (D1 : Df K mg "is_integer" sIsInt ["value"] f1 fd1)
    (DR : Df K mg "as_ratio" sAsRat ["number"] fR dR) (B : Bl mg) : FnOk P w K mg base CX0 5 f fd ["self", "other"] (spBin C addQ) := by
  have GI : FnOk P w K mg base CX0 2 fI dI ["self", "top", "bottom"] (spRInit C) := ok_rinit M.FI M.c D1 B
  have GR : FnOk P w K mg base CX0 4 fR dR ["number"] (spAsR C) := ok_asr DR.F M D1 B
  have GT : FnOk P w K mg base CX0 1 gT dT ["self"] (getSp C "_top") := ok_rtop Z.FT M.c
  have GB : FnOk P w K mg base CX0 1 gB dB ["self"] (getSp C "_bottom") := ok_rbot Z.FB M.c
  refine F.ok sc_radd (fun vs H Q E h => ?_) (fun cdv A outer s H vs Q E hr h => ?_)
  · obtain ⟨p, v, x, y, rfl, _⟩ := h
    rfl
  · obtain ⟨p, v, x, y, rfl, ⟨dx, hp⟩, hv, sx, sy, q⟩ := h
    have hr2 : Room 2 _ := hr.mono (by decide)
    have hr3 : Room 3 _ := hr.mono (by decide)
    refine ⟨_, pss_cons (ps_set (i := 2) sc_radd.nd rfl (Or.inl rfl) (pe_call GR hr rfl DR.g DR.F.kp DR.b .nil pass0 (pa_cons (pv 1) pa_nil)))
      (pss_cons (ps_set (i := 3) sc_radd.nd rfl (Or.inl rfl) (pe_op op_add (pe_op op_mulW (pe_fld (pv 0) rfl) (pe_prop (pv 2) M.c.cl Z.pb GB hr2 Z.bB .nil pass0 rfl)) (pe_op op_mulW (pe_prop (pv 2) M.c.cl Z.pt GT hr2 Z.bT .nil pass0 rfl) (pe_fld (pv 0) rfl))))
      (pss_one (ps_ret (pe_make M.mkr GI hr3 rfl M.c.mgC M.bI .nil pass0 (pa_cons (pv 3) (pa_cons (pe_op op_mulW (pe_fld (pv 0) rfl) (pe_prop (pv 2) M.c.cl Z.pb GB hr2 Z.bB .nil pass0 rfl)) pa_nil)))))), ?_⟩
    refine ⟨_, rfl, v, y, rfl, hv, fun H1 r s1 ⟨dr, hr1⟩ => ?_⟩
    have hp1 := s1 _ _ hp
    obtain ⟨b0, bl⟩ := small_bot sx sy
    have e1 := sx.top
    have e2 := sy.top
    have e3 := sx.bot
    have e4 := sy.bot
    refine ⟨_, rfl, p, C, dx, _, _, rfl, hp1, M.c.cl, M.c.nT, rf_top _ _, _, rfl, r, dr, _, rfl, hr1, r, dr, _, _, rfl, hr1, rf_bot _ _, _, _, rfl, rfl, (by unfold CMulW; omega), _, rfl, r, dr, _, rfl, hr1, r, dr, _, _, rfl, hr1, rf_top _ _, _, rfl, p, C, dx, _, _, rfl, hp1, M.c.cl, M.c.nB, rf_bot _ _, _, _, rfl, rfl, (by unfold CMulW; omega), _, _, rfl, rfl, ?_⟩
    refine ⟨_, rfl, _, rfl, p, C, dx, _, _, rfl, hp1, M.c.cl, M.c.nB, rf_bot _ _, _, rfl, r, dr, _, rfl, hr1, r, dr, _, _, rfl, hr1, rf_bot _ _, _, _, rfl, rfl, (by unfold CMulW; omega), fun z dz nz ndz nez => ?_⟩
    have sm : Same H1 (upd (upd H1 dz (.own z)) z (.ins C dz [])) := fun b o e => by
      rw [upd_ne (ne_of_none e nz), upd_ne (ne_of_none e ndz)]
      exact e
    refine ⟨z, dz, x.1 * y.2 + y.1 * x.2, x.2 * y.2, rfl, upd_same, Int.ne_of_gt b0, bl, fun H' keep hr' => ⟨rfl, ?_⟩⟩
    exact q H' z (s1.trans fun b o e => keep b o (ne_of_none e nz) (sm b o e)) (s1.free nz) hr'
theorem sc_rsub : FnScope nBin ["self", "other"] (defScope sRSub) := ⟨rfl, rfl, rfl, by decide +kernel, rfl, by decide +kernel, by decide +kernel⟩
theorem ok_rsub {f f1 fR fI C pT gT pB gB : Addr} {fd fd1 dR dI dT dB : FuncData} (F : Fun K "__sub__" "Ratio.__sub__" sRSub f fd) (M : RtM K mg C fI dI) (Z : RtP K C pT gT pB gB dT dB) (D1 : Df K mg "is_integer" sIsInt ["value"] f1 fd1)
    (DR : Df K mg "as_ratio" sAsRat ["number"] fR dR) (B : Bl mg) : FnOk P w K mg base CX0 5 f fd ["self", "other"] (spBin C subQ) := by
  have GI : FnOk P w K mg base CX0 2 fI dI ["self", "top", "bottom"] (spRInit C) := ok_rinit M.FI M.c D1 B
  have GR : FnOk P w K mg base CX0 4 fR dR ["number"] (spAsR C) := ok_asr DR.F M D1 B
  have GT : FnOk P w K mg base CX0 1 gT dT ["self"] (getSp C "_top") := ok_rtop Z.FT M.c
  have GB : FnOk P w K mg base CX0 1 gB dB ["self"] (getSp C "_bottom") := ok_rbot Z.FB M.c
  refine F.ok sc_rsub (fun vs H Q E h => ?_) (fun cdv A outer s H vs Q E hr h => ?_)
  · obtain ⟨p, v, x, y, rfl, _⟩ := h
    rfl
  · obtain ⟨p, v, x, y, rfl, ⟨dx, hp⟩, hv, sx, sy, q⟩ := h
    have hr2 : Room 2 _ := hr.mono (by decide)
    have hr3 : Room 3 _ := hr.mono (by decide)
    refine ⟨_, pss_cons (ps_set (i := 2) sc_rsub.nd rfl (Or.inl rfl) (pe_call GR hr rfl DR.g DR.F.kp DR.b .nil pass0 (pa_cons (pv 1) pa_nil)))
      (pss_cons (ps_set (i := 3) sc_rsub.nd rfl (Or.inl rfl) (pe_op op_sub (pe_op op_mulW (pe_fld (pv 0) rfl) (pe_prop (pv 2) M.c.cl Z.pb GB hr2 Z.bB .nil pass0 rfl)) (pe_op op_mulW (pe_prop (pv 2) M.c.cl Z.pt GT hr2 Z.bT .nil pass0 rfl) (pe_fld (pv 0) rfl))))
      (pss_one (ps_ret (pe_make M.mkr GI hr3 rfl M.c.mgC M.bI .nil pass0 (pa_cons (pv 3) (pa_cons (pe_op op_mulW (pe_fld (pv 0) rfl) (pe_prop (pv 2) M.c.cl Z.pb GB hr2 Z.bB .nil pass0 rfl)) pa_nil)))))), ?_⟩
    refine ⟨_, rfl, v, y, rfl, hv, fun H1 r s1 ⟨dr, hr1⟩ => ?_⟩
    have hp1 := s1 _ _ hp
    obtain ⟨b0, bl⟩ := small_bot sx sy
    have e1 := sx.top
    have e2 := sy.top
    have e3 := sx.bot
    have e4 := sy.bot
    refine ⟨_, rfl, p, C, dx, _, _, rfl, hp1, M.c.cl, M.c.nT, rf_top _ _, _, rfl, r, dr, _, rfl, hr1, r, dr, _, _, rfl, hr1, rf_bot _ _, _, _, rfl, rfl, (by unfold CMulW; omega), _, rfl, r, dr, _, rfl, hr1, r, dr, _, _, rfl, hr1, rf_top _ _, _, rfl, p, C, dx, _, _, rfl, hp1, M.c.cl, M.c.nB, rf_bot _ _, _, _, rfl, rfl, (by unfold CMulW; omega), _, _, rfl, rfl, ?_⟩
    refine ⟨_, rfl, _, rfl, p, C, dx, _, _, rfl, hp1, M.c.cl, M.c.nB, rf_bot _ _, _, rfl, r, dr, _, rfl, hr1, r, dr, _, _, rfl, hr1, rf_bot _ _, _, _, rfl, rfl, (by unfold CMulW; omega), fun z dz nz ndz nez => ?_⟩
    have sm : Same H1 (upd (upd H1 dz (.own z)) z (.ins C dz [])) := fun b o e => by
      rw [upd_ne (ne_of_none e nz), upd_ne (ne_of_none e ndz)]
      exact e
    refine ⟨z, dz, x.1 * y.2 - y.1 * x.2, x.2 * y.2, rfl, upd_same, Int.ne_of_gt b0, bl, fun H' keep hr' => ⟨rfl, ?_⟩⟩
    exact q H' z (s1.trans fun b o e => keep b o (ne_of_none e nz) (sm b o e)) (s1.free nz) hr'
abbrev nBin3 : List Str := ["self", "other", "right"]
theorem sc_rmul : FnScope nBin3 ["self", "other"] (defScope sRMul) := ⟨rfl, rfl, rfl, by decide +kernel, rfl, by decide +kernel, by decide +kernel⟩
theorem ok_rmul {f f1 fR fI C pT gT pB gB : Addr} {fd fd1 dR dI dT dB : FuncData} (F : Fun K "__mul__" "Ratio.__mul__" sRMul f fd) (M : RtM K mg C fI dI) (Z : RtP K C pT gT pB gB dT dB) (D1 : Df K mg "is_integer" sIsInt ["value"] f1 fd1)
    (DR : Df K mg "as_ratio" sAsRat ["number"] fR dR) (B : Bl mg) : FnOk P w K mg base CX0 5 f fd ["self", "other"] (spBin C mulQ) := by
  have GI : FnOk P w K mg base CX0 2 fI dI ["self", "top", "bottom"] (spRInit C) := ok_rinit M.FI M.c D1 B
  have GR : FnOk P w K mg base CX0 4 fR dR ["number"] (spAsR C) := ok_asr DR.F M D1 B
  have GT : FnOk P w K mg base CX0 1 gT dT ["self"] (getSp C "_top") := ok_rtop Z.FT M.c
  have GB : FnOk P w K mg base CX0 1 gB dB ["self"] (getSp C "_bottom") := ok_rbot Z.FB M.c
  refine F.ok sc_rmul (fun vs H Q E h => ?_) (fun cdv A outer s H vs Q E hr h => ?_)
  · obtain ⟨p, v, x, y, rfl, _⟩ := h
    rfl
  · obtain ⟨p, v, x, y, rfl, ⟨dx, hp⟩, hv, sx, sy, q⟩ := h
    have hr2 : Room 2 _ := hr.mono (by decide)
    have hr3 : Room 3 _ := hr.mono (by decide)
    refine ⟨_, pss_cons (ps_set (i := 2) sc_rmul.nd rfl (Or.inl rfl) (pe_call GR hr rfl DR.g DR.F.kp DR.b .nil pass0 (pa_cons (pv 1) pa_nil)))
      (pss_one (ps_ret (pe_make M.mkr GI hr3 rfl M.c.mgC M.bI .nil pass0 (pa_cons (pe_op op_mulW (pe_fld (pv 0) rfl) (pe_prop (pv 2) M.c.cl Z.pt GT hr2 Z.bT .nil pass0 rfl)) (pa_cons (pe_op op_mulW (pe_fld (pv 0) rfl) (pe_prop (pv 2) M.c.cl Z.pb GB hr2 Z.bB .nil pass0 rfl)) pa_nil))))), ?_⟩
    refine ⟨_, rfl, v, y, rfl, hv, fun H1 r s1 ⟨dr, hr1⟩ => ?_⟩
    have hp1 := s1 _ _ hp
    obtain ⟨b0, bl⟩ := small_bot sx sy
    have e1 := sx.top
    have e2 := sy.top
    have e3 := sx.bot
    have e4 := sy.bot
    refine ⟨_, rfl, p, C, dx, _, _, rfl, hp1, M.c.cl, M.c.nT, rf_top _ _, _, rfl, r, dr, _, rfl, hr1, r, dr, _, _, rfl, hr1, rf_top _ _, _, _, rfl, rfl, (by unfold CMulW; omega), ?_⟩
    refine ⟨_, rfl, p, C, dx, _, _, rfl, hp1, M.c.cl, M.c.nB, rf_bot _ _, _, rfl, r, dr, _, rfl, hr1, r, dr, _, _, rfl, hr1, rf_bot _ _, _, _, rfl, rfl, (by unfold CMulW; omega), fun z dz nz ndz nez => ?_⟩
    have sm : Same H1 (upd (upd H1 dz (.own z)) z (.ins C dz [])) := fun b o e => by
      rw [upd_ne (ne_of_none e nz), upd_ne (ne_of_none e ndz)]
      exact e
    refine ⟨z, dz, x.1 * y.1, x.2 * y.2, rfl, upd_same, Int.ne_of_gt b0, bl, fun H' keep hr' => ⟨rfl, ?_⟩⟩
    exact q H' z (s1.trans fun b o e => keep b o (ne_of_none e nz) (sm b o e)) (s1.free nz) hr'
/-- other + self, .., by the instance's own way -/
def spRev (C : Addr) (g : Int × Int → Int × Int → Int × Int) : Sp := fun vs H Q _ => ∃ (p : Addr) (v : V) (x y : Int × Int), vs = [.ref p, v] ∧ RatAt C H p x ∧ NumAt C H v y ∧ Small x ∧ Small y ∧
  ∀ H' r, Same H H' → RatAt C H' r (g y x) → Q (.ref r) H'
theorem sc_rev : FnScope ["self", "other"] ["self", "other"] (defScope sRRadd) := ⟨rfl, rfl, rfl, by decide +kernel, rfl, by decide +kernel, by decide +kernel⟩
theorem sc_rradd : FnScope ["self", "other"] ["self", "other"] (defScope sRRadd) := ⟨rfl, rfl, rfl, by decide +kernel, rfl, by decide +kernel, by decide +kernel⟩
theorem ok_rradd {f f1 fA fR fI C : Addr} {fd fd1 dA dR dI : FuncData} (F : Fun K "__radd__" "Ratio.__radd__" sRRadd f fd) (M : RtM K mg C fI dI) (D1 : Df K mg "is_integer" sIsInt ["value"] f1 fd1) (DR : Df K mg "as_ratio" sAsRat ["number"] fR dR)
    (h0 : PySem.W.selfFirst K C = true) (h1 : PySem.W.findIn K (.ref C) "__add__" = some (some (.ref fA))) (h2 : PySem.W.isFn K (.ref fA) = true) (bA : Binds K dA ["self", "other"] []) (GA : FnOk P w K mg base CX0 5 fA dA ["self", "other"] (spBin C addQ)) (B : Bl mg) :
    FnOk P w K mg base CX0 6 f fd ["self", "other"] (spRev C addQ) := by
  have GR : FnOk P w K mg base CX0 4 fR dR ["number"] (spAsR C) := ok_asr DR.F M D1 B
  refine F.ok sc_rradd (fun vs H Q E h => ?_) (fun cdv A outer s H vs Q E hr h => ?_)
  · obtain ⟨p, v, x, y, rfl, _⟩ := h
    rfl
  · obtain ⟨p, v, x, y, rfl, hp, hv, sx, sy, q⟩ := h
    refine ⟨_, pss_one (ps_ret (pe_op (NeO.op_binI (op := .Add) h0 h1 h2 GA hr bA) (pe_call GR (hr.mono (by decide)) rfl DR.g DR.F.kp DR.b .nil pass0 (pa_cons (pv 1) pa_nil)) (pv 0))), ?_⟩
    refine ⟨_, rfl, v, y, rfl, hv, fun H1 r s1 hr1 => ?_⟩
    obtain ⟨dx, hp1⟩ := rat_s hp s1
    obtain ⟨dr, hr2⟩ := id hr1
    refine ⟨_, rfl, r, p, dr, dx, _, _, rfl, rfl, hr2, hp1, ?_⟩
    exact ⟨r, .ref p, y, x, rfl, hr1, .inl ⟨p, rfl, dx, hp1⟩, sy, sx, fun H' z s2 _ hz => ⟨z, rfl, q H' z (s1.trans s2) hz⟩⟩
theorem sc_rrsub : FnScope ["self", "other"] ["self", "other"] (defScope sRRsub) := ⟨rfl, rfl, rfl, by decide +kernel, rfl, by decide +kernel, by decide +kernel⟩
theorem ok_rrsub {f f1 fA fR fI C : Addr} {fd fd1 dA dR dI : FuncData} (F : Fun K "__rsub__" "Ratio.__rsub__" sRRsub f fd) (M : RtM K mg C fI dI) (D1 : Df K mg "is_integer" sIsInt ["value"] f1 fd1) (DR : Df K mg "as_ratio" sAsRat ["number"] fR dR)
    (h0 : PySem.W.selfFirst K C = true) (h1 : PySem.W.findIn K (.ref C) "__sub__" = some (some (.ref fA))) (h2 : PySem.W.isFn K (.ref fA) = true) (bA : Binds K dA ["self", "other"] []) (GA : FnOk P w K mg base CX0 5 fA dA ["self", "other"] (spBin C subQ)) (B : Bl mg) :
    FnOk P w K mg base CX0 6 f fd ["self", "other"] (spRev C subQ) := by
  have GR : FnOk P w K mg base CX0 4 fR dR ["number"] (spAsR C) := ok_asr DR.F M D1 B
  refine F.ok sc_rrsub (fun vs H Q E h => ?_) (fun cdv A outer s H vs Q E hr h => ?_)
  · obtain ⟨p, v, x, y, rfl, _⟩ := h
    rfl
  · obtain ⟨p, v, x, y, rfl, hp, hv, sx, sy, q⟩ := h
    refine ⟨_, pss_one (ps_ret (pe_op (NeO.op_binI (op := .Sub) h0 h1 h2 GA hr bA) (pe_call GR (hr.mono (by decide)) rfl DR.g DR.F.kp DR.b .nil pass0 (pa_cons (pv 1) pa_nil)) (pv 0))), ?_⟩
    refine ⟨_, rfl, v, y, rfl, hv, fun H1 r s1 hr1 => ?_⟩
    obtain ⟨dx, hp1⟩ := rat_s hp s1
    obtain ⟨dr, hr2⟩ := id hr1
    refine ⟨_, rfl, r, p, dr, dx, _, _, rfl, rfl, hr2, hp1, ?_⟩
    exact ⟨r, .ref p, y, x, rfl, hr1, .inl ⟨p, rfl, dx, hp1⟩, sy, sx, fun H' z s2 _ hz => ⟨z, rfl, q H' z (s1.trans s2) hz⟩⟩
theorem sc_rrmul : FnScope ["self", "other"] ["self", "other"] (defScope sRRmul) := ⟨rfl, rfl, rfl, by decide +kernel, rfl, by decide +kernel, by decide +kernel⟩
theorem ok_rrmul {f f1 fA fR fI C : Addr} {fd fd1 dA dR dI : FuncData} (F : Fun K "__rmul__" "Ratio.__rmul__" sRRmul f fd) (M : RtM K mg C fI dI) (D1 : Df K mg "is_integer" sIsInt ["value"] f1 fd1) (DR : Df K mg "as_ratio" sAsRat ["number"] fR dR)
    (h0 : PySem.W.selfFirst K C = true) (h1 : PySem.W.findIn K (.ref C) "__mul__" = some (some (.ref fA))) (h2 : PySem.W.isFn K (.ref fA) = true) (bA : Binds K dA ["self", "other"] []) (GA : FnOk P w K mg base CX0 5 fA dA ["self", "other"] (spBin C mulQ)) (B : Bl mg) :
    FnOk P w K mg base CX0 6 f fd ["self", "other"] (spRev C mulQ) := by
  have GR : FnOk P w K mg base CX0 4 fR dR ["number"] (spAsR C) := ok_asr DR.F M D1 B
  refine F.ok sc_rrmul (fun vs H Q E h => ?_) (fun cdv A outer s H vs Q E hr h => ?_)
  · obtain ⟨p, v, x, y, rfl, _⟩ := h
    rfl
  · obtain ⟨p, v, x, y, rfl, hp, hv, sx, sy, q⟩ := h
    refine ⟨_, pss_one (ps_ret (pe_op (NeO.op_binI (op := .Mult) h0 h1 h2 GA hr bA) (pe_call GR (hr.mono (by decide)) rfl DR.g DR.F.kp DR.b .nil pass0 (pa_cons (pv 1) pa_nil)) (pv 0))), ?_⟩
    refine ⟨_, rfl, v, y, rfl, hv, fun H1 r s1 hr1 => ?_⟩
    obtain ⟨dx, hp1⟩ := rat_s hp s1
    obtain ⟨dr, hr2⟩ := id hr1
    refine ⟨_, rfl, r, p, dr, dx, _, _, rfl, rfl, hr2, hp1, ?_⟩
    exact ⟨r, .ref p, y, x, rfl, hr1, .inl ⟨p, rfl, dx, hp1⟩, sy, sx, fun H' z s2 _ hz => ⟨z, rfl, q H' z (s1.trans s2) hz⟩⟩
end
end Tk

namespace Tk
open PySem PySem.Spec PyProof.Rows L2
def spREq (C : Addr) : Sp := fun vs H Q _ => ∃ (p r : Addr) (x y : Int × Int), vs = [.ref p, .ref r] ∧ RatAt C H p x ∧ RatAt C H r y ∧ Q (.bl (decide (x = y))) H
theorem dec_v {i j : Int} : V.bl (decide (V.int i = V.int j)) = V.bl (decide (i = j)) := by simp
section
variable {P : Program} {w : World} {K : PySem.W.Frag} {mg : Str → Option Value} {base : Heap}
theorem sc_req : FnScope ["self", "other"] ["self", "other"] (defScope sREq) := ⟨rfl, rfl, rfl, by decide +kernel, rfl, by decide +kernel, by decide +kernel⟩
theorem ok_req {f fI C : Addr} {fd dI : FuncData} (F : Fun K "__eq__" "Ratio.__eq__" sREq f fd) (M : RtM K mg C fI dI) (B : Bl mg) : FnOk P w K mg base CX0 1 f fd ["self", "other"] (spREq C) := by
  refine F.ok sc_req (fun vs H Q E h => ?_) (fun cdv A outer s H vs Q E hr h => ?_)
  · obtain ⟨p, r, x, y, rfl, _⟩ := h
    rfl
  · obtain ⟨p, r, x, y, rfl, ⟨dx, hp⟩, ⟨dr, hr'⟩, q⟩ := h
    refine ⟨_, pss_one (ps_ret (pe_and (pe_callB (C8.call_isC M.ins) (by rfl) B.isi PyProof.Rows.boot_isinstance (pa_cons (pv 1) (pa_cons (pe_glob (v := .ref C) rfl M.c.mgC rfl) pa_nil)))
      (pe_and (pe_cmpR op_eq (pe_fld (pv 0) rfl) (pe_fld (pv 1) rfl) (nomark _)) (pe_one (pe_cmpR op_eq (pe_fld (pv 0) rfl) (pe_fld (pv 1) rfl) (nomark _)))))), ?_⟩
    refine ⟨_, rfl, r, dr, _, rfl, hr', true, rfl, iteT ?_⟩
    refine ⟨_, rfl, p, C, dx, _, _, rfl, hp, M.c.cl, M.c.nT, rf_top _ _, _, rfl, r, C, dr, _, _, rfl, hr', M.c.cl, M.c.nT, rf_top _ _, rfl, decide (x.1 = y.1), dec_v, ?_⟩
    by_cases c : x.1 = y.1
    · rw [decide_eq_true c]
      refine iteT ⟨_, rfl, p, C, dx, _, _, rfl, hp, M.c.cl, M.c.nB, rf_bot _ _, _, rfl, r, C, dr, _, _, rfl, hr', M.c.cl, M.c.nB, rf_bot _ _, rfl, ?_⟩
      have e : decide (V.int x.2 = V.int y.2) = decide (x = y) := by
        obtain ⟨a, b⟩ := x
        obtain ⟨a', b'⟩ := y
        simp only at c
        subst c
        simp
      rw [e]
      exact q
    · rw [decide_eq_false c]
      refine iteF ?_
      have e : decide (x = y) = false := decide_eq_false fun e => c (congrArg Prod.fst e)
      rw [e] at q
      exact q
end
end Tk

namespace Tk
open PySem PySem.Spec PyProof.Rows L2
def sumQ (qs : List (Int × Int)) : Int × Int := qs.foldl addQ (0, 1)
def spTotal (K : PySem.W.Frag) (C : Addr) : Sp := fun vs H Q _ => ∃ (a : Addr) (xs : List V) (qs : List (Int × Int)), vs = [.ref C, .ref a] ∧ SqA K H a xs ∧ xs.length = qs.length ∧ (∀ (i : Nat) (x : V) (q : Int × Int), xs[i]? = some x → qs[i]? = some q → NumAt C H x q ∧ Small q) ∧
  (∀ i, i ≤ qs.length → Small (sumQ (qs.take i))) ∧ ∀ H' r, Same H H' → RatAt C H' r (sumQ qs) → Q (.ref r) H'
section
variable {P : Program} {w : World} {K : PySem.W.Frag} {mg : Str → Option Value} {base : Heap}
abbrev nTot : List Str := ["cls", "numbers", "found", "number"]
theorem sc_total : FnScope nTot ["cls", "numbers"] (defScope sRTotal) := ⟨rfl, rfl, rfl, by decide +kernel, rfl, by decide +kernel, by decide +kernel⟩
theorem ok_total {f f1 f5 fA fI C : Addr} {fd fd1 fd5 dA dI : FuncData} (F : Fun K "total" "Ratio.total" sRTotal f fd) (M : RtM K mg C fI dI) (D1 : Df K mg "is_integer" sIsInt ["value"] f1 fd1) (D5 : Df K mg "is_list" sIsLst ["value"] f5 fd5)
    (T : NeO.BinT K C fA "add") (bA : Binds K dA ["self", "other"] []) (GA : FnOk P w K mg base CX0 5 fA dA ["self", "other"] (spBin C addQ)) (B : Bl mg) :
    FnOk P w K mg base CX0 6 f fd ["cls", "numbers"] (spTotal K C) := by
  have G5 : FnOk P w K mg base CX0 1 f5 fd5 ["value"] (spIsLst K) := ok_isLst D5.F B
  have GI : FnOk P w K mg base CX0 2 fI dI ["self", "top", "bottom"] (spRInit C) := ok_rinit M.FI M.c D1 B
  obtain ⟨tk, b1⟩ := M.bI1
  refine F.ok sc_total (fun vs H Q E h => ?_) (fun cdv A outer s H vs Q E hr h => ?_)
  · obtain ⟨a, xs, qs, rfl, _⟩ := h
    rfl
  · obtain ⟨a, xs, qs, rfl, hxs, hl, hq, hs, q⟩ := h
    refine ⟨_, pss_cons (ps_if (pt_not (pt_val (pe_call G5 (hr.mono (by decide)) rfl D5.g D5.F.kp D5.b .nil pass0 (pa_cons (pv 1) pa_nil)))) pss_never pss_nil)
      (pss_cons (ps_set (i := 2) sc_total.nd rfl (Or.inl rfl) (NeO.pe_makeL (i := 0) M.mkr GI (hr.mono (by decide)) rfl (Or.inl rfl) b1 (dvs := [V.int 1]) (.cons ⟨tk, rfl⟩ .nil) pass0 (pa_cons pe_int pa_nil)))
      (pss_cons (ps_for PassesOwn.never rfl (pi_sq (pv 1)) (pg_name (i := 3) sc_total.nd rfl (Or.inl rfl))
        (pss_one (ps_set (i := 2) sc_total.nd rfl (Or.inl rfl) (pe_op (opR_or (NeO.op_binI (op := .Add) T.first T.own T.fn GA hr bA) (NeO.op_binT (op := .Add) T GA hr bA)) (pv 2) (pv 3)))))
      (pss_one (ps_ret (pv 2))))), ?_⟩
    refine ⟨_, rfl, _, some xs, rfl, .sq hxs, fun H1 s1 => ⟨true, rfl, iteF ?_⟩⟩
    refine ⟨rfl, fun x dx nx ndx nex => ?_⟩
    have sm : Same H1 (upd (upd H1 dx (.own x)) x (.ins C dx [])) := fun b o e => by
      rw [upd_ne (ne_of_none e nx), upd_ne (ne_of_none e ndx)]
      exact e
    refine ⟨x, dx, 0, 1, rfl, upd_same, by decide, by decide, fun H2 keep hr0 => ⟨rfl, ?_⟩⟩
    have s02 : Same H H2 := s1.trans fun b o e => keep b o (ne_of_none e nx) (sm b o e)
    rw [low_one] at hr0
    refine ⟨_, rfl, a, xs, rfl, same_a s02 hxs, fun it hit => for_sq hit (fun i σ G => ∃ (r : Addr) (v3 : Option V), σ = [some (V.ref C), some (V.ref a), some (V.ref r), v3] ∧ Same H G ∧ Same H2 G ∧ RatAt C G r (sumQ (qs.take i)))
      ⟨x, none, rfl, s02, (fun _ _ h => h), by simpa [sumQ] using hr0⟩ (fun i σ G _ z => by obtain ⟨_, _, _, _, z, _⟩ := z; exact z) ?_ ?_⟩
    · rintro i y σ G hy ⟨r, v3, rfl, sG, s2G, hG⟩
      have hi := lt_of_at hy
      obtain ⟨z, hz⟩ : ∃ z, qs[i]? = some z := ⟨qs[i]'(by omega), by simp [show i < qs.length by omega]⟩
      obtain ⟨hn, sz⟩ := hq i y z hy hz
      have es : sumQ (qs.take (i + 1)) = addQ (sumQ (qs.take i)) z := by
        unfold sumQ
        rw [take_at hz, List.foldl_append]
        rfl
      have sm1 := hs i (by omega)
      obtain ⟨dr, hr'⟩ := id hG
      rcases num_s hn sG with ⟨p, rfl, dp, hp⟩ | ⟨j, rfl, rfl⟩
      · refine ⟨_, rfl, _, rfl, .inl ⟨r, p, dr, dp, _, _, rfl, rfl, hr', hp, ?_⟩⟩
        exact ⟨r, .ref p, _, z, rfl, hG, .inl ⟨p, rfl, dp, hp⟩, sm1, sz, fun H' u s2 _ hu => ⟨u, rfl, u, _, rfl, sG.trans s2, s2G.trans s2, by rw [es]; exact hu⟩⟩
      · refine ⟨_, rfl, _, rfl, .inr ⟨r, dr, _, j, rfl, rfl, hr', ?_⟩⟩
        exact ⟨r, .int j, _, (j, 1), rfl, hG, .inr ⟨j, rfl, rfl⟩, sm1, sz, fun H' u s2 _ hu => ⟨u, rfl, u, _, rfl, sG.trans s2, s2G.trans s2, by rw [es]; exact hu⟩⟩
    · rintro σ G ⟨r, v3, rfl, sG, s2G, hG⟩
      rw [hl, List.take_length] at hG
      exact ⟨_, rfl, q G r sG hG⟩
end
end Tk

namespace Tk
open PySem PySem.Spec PyProof.Rows L2
/-! ## signs, quotients, comparisons, texts of Ratios -/
def sgnQ (x : Int) : Int := if x = 0 then 0 else if 0 < x then 1 else -1
def spSign (C : Addr) : Sp := fun vs H Q _ => ∃ (p : Addr) (x : Int × Int), vs = [.ref p] ∧ RatAt C H p x ∧ Q (.int (sgnQ x.1)) H
def spWhole (C : Addr) : Sp := fun vs H Q _ => ∃ (p : Addr) (x : Int × Int), vs = [.ref p] ∧ RatAt C H p x ∧ Q (.bl (decide (x.2 = 1))) H
def spNeg (C : Addr) : Sp := fun vs H Q _ => ∃ (p : Addr) (x : Int × Int), vs = [.ref p] ∧ RatAt C H p x ∧ Small x ∧ ∀ H' r, Same H H' → RatAt C H' r (lowQ (-x.1) x.2) → Q (.ref r) H'
def spSize (C : Addr) : Sp := fun vs H Q _ => ∃ (p : Addr) (x : Int × Int), vs = [.ref p] ∧ RatAt C H p x ∧ Small x ∧ ∀ H' r, Same H H' → RatAt C H' r (lowQ (if x.1 < 0 then -x.1 else x.1) x.2) → Q (.ref r) H'
def overQ (x y : Int × Int) : Int × Int := lowQ (x.1 * y.2) (x.2 * y.1)
def spOver (C : Addr) : Sp := fun vs H Q _ => ∃ (p : Addr) (v : V) (x y : Int × Int), vs = [.ref p, v] ∧ RatAt C H p x ∧ NumAt C H v y ∧ Small x ∧ Small y ∧ y.1 ≠ 0 ∧ y.1.natAbs.log2 < 4000 ∧
  ∀ H' r, Same H H' → RatAt C H' r (overQ x y) → Q (.ref r) H'
def spBelow (C : Addr) (g : Int → Bool) : Sp := fun vs H Q _ => ∃ (p : Addr) (v : V) (x y : Int × Int), vs = [.ref p, v] ∧ RatAt C H p x ∧ NumAt C H v y ∧ Small x ∧ Small y ∧ ∀ H', Same H H' → Q (.bl (g (sgnQ (subQ x y).1))) H'
/-- == with a Ratio or an int -/
def spREqV (C : Addr) : Sp := fun vs H Q _ => ∃ (p : Addr) (v : V) (x : Int × Int), vs = [.ref p, v] ∧ RatAt C H p x ∧ ((∃ (r : Addr) (y : Int × Int), v = .ref r ∧ RatAt C H r y ∧ Q (.bl (decide (x = y))) H) ∨ (∃ i : Int, v = .int i) ∧ Q (.bl false) H)
def shQ (x : Int × Int) : Str := if x.2 = 1 then toString x.1 else (toString x.1 : Str) ++ ("/" : Str) ++ (toString x.2 : Str)
def rpQ (x : Int × Int) : Str := ("Ratio(" : Str) ++ (toString x.1 : Str) ++ (", " : Str) ++ (toString x.2 : Str) ++ (")" : Str)
def Tiny (x : Int × Int) : Prop := x.1.natAbs < 2 ^ 200 ∧ x.2.natAbs < 2 ^ 200
def spRShow (C : Addr) (g : Int × Int → Str) : Sp := fun vs H Q _ => ∃ (p : Addr) (x : Int × Int), vs = [.ref p] ∧ RatAt C H p x ∧ Tiny x ∧ Q (.str (g x)) H
theorem int_len {i : Int} (h : i.natAbs < 2 ^ 200) : (toString i : Str).length ≤ 201 := by
  show (Str.ofString (toString i)).length ≤ 201
  have l : i.natAbs.log2 < 200 := by
    by_cases h0 : i.natAbs = 0
    · rw [h0]; simp
    · exact (Nat.log2_lt h0).mpr h
  have e := int_text_length_le (k := 200) (by decide) l
  rw [PySem.ofString_length]
  omega
theorem tiny_log {i : Int} (h : i.natAbs < 2 ^ 200) : i.natAbs.log2 < 1920 := by
  by_cases h0 : i.natAbs = 0
  · rw [h0]; simp
  · exact Nat.lt_of_lt_of_le ((Nat.log2_lt h0).mpr h) (by decide)
theorem str_e (a : Str) : Str.empty ++ a = a := by
  cases a
  rename_i c
  show Str.mk (#[] ++ c) = Str.mk c
  rw [Array.empty_append]
section
variable {P : Program} {w : World} {K : PySem.W.Frag} {mg : Str → Option Value} {base : Heap}
theorem sc_rsign : FnScope ["self"] ["self"] (defScope sRSign) := ⟨rfl, rfl, rfl, by decide +kernel, rfl, by decide +kernel, by decide +kernel⟩
theorem ok_rsign {f C : Addr} {fd : FuncData} (F : Fun K "sign" "Ratio.sign" sRSign f fd) (T : RtC K mg C) : FnOk P w K mg base CX0 1 f fd ["self"] (spSign C) := by
  refine F.ok sc_rsign (fun vs H Q E h => ?_) (fun cdv A outer s H vs Q E hr h => ?_)
  · obtain ⟨p, x, rfl, _⟩ := h
    rfl
  · obtain ⟨p, x, rfl, ⟨dx, hp⟩, q⟩ := h
    refine ⟨_, pss_cons (ps_if (pt_cmpR op_eq (pe_fld (pv 0) rfl) pe_int (nomark _)) (pss_one (ps_ret pe_int)) pss_nil)
      (pss_one (ps_ret (pe_ifExp (pt_cmpR op_gt (pe_fld (pv 0) rfl) pe_int (nomark _)) pe_int (pe_un un_neg pe_int)))), ?_⟩
    refine ⟨_, rfl, p, C, dx, _, _, rfl, hp, T.cl, T.nT, rf_top _ _, rfl, _, rfl, ?_⟩
    by_cases c : x.1 = 0
    · rw [show decide (V.int x.1 = V.int 0) = true from decide_eq_true (by rw [c])]
      rw [show sgnQ x.1 = 0 by unfold sgnQ; rw [if_pos c]] at q
      exact iteT q
    · rw [show decide (V.int x.1 = V.int 0) = false from decide_eq_false (fun e => c (V.int.inj e))]
      refine iteF ⟨_, rfl, p, C, dx, _, _, rfl, hp, T.cl, T.nT, rf_top _ _, _, _, rfl, rfl, _, rfl, ?_⟩
      by_cases d : 0 < x.1
      · rw [decide_eq_true d]
        rw [show sgnQ x.1 = 1 by unfold sgnQ; rw [if_neg c, if_pos d]] at q
        exact iteT q
      · rw [decide_eq_false d]
        rw [show sgnQ x.1 = -1 by unfold sgnQ; rw [if_neg c, if_neg d]] at q
        exact iteF ⟨_, rfl, q⟩
theorem sc_rwhole : FnScope ["self"] ["self"] (defScope sRWhole) := ⟨rfl, rfl, rfl, by decide +kernel, rfl, by decide +kernel, by decide +kernel⟩
theorem ok_rwhole {f C : Addr} {fd : FuncData} (F : Fun K "is_whole" "Ratio.is_whole" sRWhole f fd) (T : RtC K mg C) : FnOk P w K mg base CX0 1 f fd ["self"] (spWhole C) := by
  refine F.ok sc_rwhole (fun vs H Q E h => ?_) (fun cdv A outer s H vs Q E hr h => ?_)
  · obtain ⟨p, x, rfl, _⟩ := h
    rfl
  · obtain ⟨p, x, rfl, ⟨dx, hp⟩, q⟩ := h
    refine ⟨_, pss_one (ps_ret (pe_cmpR op_eq (pe_fld (pv 0) rfl) pe_int (nomark _))), ?_⟩
    refine ⟨_, rfl, p, C, dx, _, _, rfl, hp, T.cl, T.nB, rf_bot _ _, rfl, ?_⟩
    rw [show decide (V.int x.2 = V.int 1) = decide (x.2 = 1) by simp]
    exact q
theorem sc_rneg : FnScope ["self"] ["self"] (defScope sRNeg) := ⟨rfl, rfl, rfl, by decide +kernel, rfl, by decide +kernel, by decide +kernel⟩
theorem ok_rneg {f f1 fI C : Addr} {fd fd1 dI : FuncData} (F : Fun K "__neg__" "Ratio.__neg__" sRNeg f fd) (M : RtM K mg C fI dI) (D1 : Df K mg "is_integer" sIsInt ["value"] f1 fd1) (B : Bl mg) : FnOk P w K mg base CX0 4 f fd ["self"] (spNeg C) := by
  have GI : FnOk P w K mg base CX0 2 fI dI ["self", "top", "bottom"] (spRInit C) := ok_rinit M.FI M.c D1 B
  refine F.ok sc_rneg (fun vs H Q E h => ?_) (fun cdv A outer s H vs Q E hr h => ?_)
  · obtain ⟨p, x, rfl, _⟩ := h
    rfl
  · obtain ⟨p, x, rfl, ⟨dx, hp⟩, sx, q⟩ := h
    refine ⟨_, pss_one (ps_ret (pe_make M.mkr GI hr rfl M.c.mgC M.bI .nil pass0 (pa_cons (pe_un un_neg (pe_fld (pv 0) rfl)) (pa_cons (pe_fld (pv 0) rfl) pa_nil)))), ?_⟩
    have e1 := sx.pos
    have e3 := sx.bot
    refine ⟨_, rfl, p, C, dx, _, _, rfl, hp, M.c.cl, M.c.nT, rf_top _ _, _, rfl, _, rfl, p, C, dx, _, _, rfl, hp, M.c.cl, M.c.nB, rf_bot _ _, fun z dz nz ndz nez => ?_⟩
    have sm : Same H (upd (upd H dz (.own z)) z (.ins C dz [])) := fun b o e => by
      rw [upd_ne (ne_of_none e nz), upd_ne (ne_of_none e ndz)]
      exact e
    refine ⟨z, dz, -x.1, x.2, rfl, upd_same, by omega, by omega, fun H' keep hr' => ⟨rfl, ?_⟩⟩
    exact q H' z (fun b o e => keep b o (ne_of_none e nz) (sm b o e)) hr'
theorem sc_rsize : FnScope ["self"] ["self"] (defScope sRSize) := ⟨rfl, rfl, rfl, by decide +kernel, rfl, by decide +kernel, by decide +kernel⟩
theorem ok_rsize {f f1 fI C : Addr} {fd fd1 dI : FuncData} (F : Fun K "size" "Ratio.size" sRSize f fd) (M : RtM K mg C fI dI) (D1 : Df K mg "is_integer" sIsInt ["value"] f1 fd1) (B : Bl mg) : FnOk P w K mg base CX0 4 f fd ["self"] (spSize C) := by
  have GI : FnOk P w K mg base CX0 2 fI dI ["self", "top", "bottom"] (spRInit C) := ok_rinit M.FI M.c D1 B
  refine F.ok sc_rsize (fun vs H Q E h => ?_) (fun cdv A outer s H vs Q E hr h => ?_)
  · obtain ⟨p, x, rfl, _⟩ := h
    rfl
  · obtain ⟨p, x, rfl, ⟨dx, hp⟩, sx, q⟩ := h
    refine ⟨_, pss_one (ps_ret (pe_make M.mkr GI hr rfl M.c.mgC M.bI .nil pass0 (pa_cons (pe_callB call_abs (by rfl) B.abs PyProof.Rows.boot_abs (pa_cons (pe_fld (pv 0) rfl) pa_nil)) (pa_cons (pe_fld (pv 0) rfl) pa_nil)))), ?_⟩
    have e1 := sx.pos
    have e3 := sx.bot
    refine ⟨_, rfl, p, C, dx, _, _, rfl, hp, M.c.cl, M.c.nT, rf_top _ _, _, rfl, _, rfl, p, C, dx, _, _, rfl, hp, M.c.cl, M.c.nB, rf_bot _ _, fun z dz nz ndz nez => ?_⟩
    have sm : Same H (upd (upd H dz (.own z)) z (.ins C dz [])) := fun b o e => by
      rw [upd_ne (ne_of_none e nz), upd_ne (ne_of_none e ndz)]
      exact e
    refine ⟨z, dz, _, x.2, rfl, upd_same, by omega, by omega, fun H' keep hr' => ⟨rfl, ?_⟩⟩
    exact q H' z (fun b o e => keep b o (ne_of_none e nz) (sm b o e)) hr'
theorem sc_rstr : FnScope ["self"] ["self"] (defScope sRStr) := ⟨rfl, rfl, rfl, by decide +kernel, rfl, by decide +kernel, by decide +kernel⟩
theorem ok_rstr {f C : Addr} {fd : FuncData} (F : Fun K "__str__" "Ratio.__str__" sRStr f fd) (T : RtC K mg C) (ms : mg "str" = none) : FnOk P w K mg base CX0 1 f fd ["self"] (spRShow C shQ) := by
  refine F.ok sc_rstr (fun vs H Q E h => ?_) (fun cdv A outer s H vs Q E hr h => ?_)
  · obtain ⟨p, x, rfl, _⟩ := h
    rfl
  · obtain ⟨p, x, rfl, ⟨dx, hp⟩, ⟨t1, t2⟩, q⟩ := h
    refine ⟨_, pss_cons (ps_if (pt_cmpR op_eq (pe_fld (pv 0) rfl) pe_int (nomark _)) (pss_one (ps_ret (pe_callTy call_str_int (by rfl) ms PySem.Pv.boot_str (pa_cons (pe_fld (pv 0) rfl) pa_nil)))) pss_nil)
      (pss_one (ps_ret (pe_joined (.cons (pe_fmt (pe_fld (pv 0) rfl)) (.cons pe_str (.cons (pe_fmt (pe_fld (pv 0) rfl)) .nil)))))), ?_⟩
    have a1 := int_len t1
    have a2 := int_len t2
    have sz : sizeLine = 16777216 := rfl
    have l0 : Str.empty.length = 0 := rfl
    have l1 : (("/" : String) : Str).length = 1 := rfl
    refine ⟨_, rfl, p, C, dx, _, _, rfl, hp, T.cl, T.nB, rf_bot _ _, rfl, _, rfl, ?_⟩
    by_cases c : x.2 = 1
    · rw [show decide (V.int x.2 = V.int 1) = true from decide_eq_true (by rw [c])]
      rw [show shQ x = toString x.1 by unfold shQ; rw [if_pos c]] at q
      exact iteT ⟨_, rfl, p, C, dx, _, _, rfl, hp, T.cl, T.nT, rf_top _ _, _, rfl, tiny_log t1, q⟩
    · rw [show decide (V.int x.2 = V.int 1) = false from decide_eq_false (fun e => c (V.int.inj e))]
      rw [show shQ x = Str.empty ++ (toString x.1 : Str) ++ ("/" : Str) ++ (toString x.2 : Str) by unfold shQ; rw [if_neg c, str_e]] at q
      refine iteF ⟨_, rfl, p, C, dx, _, _, rfl, hp, T.cl, T.nT, rf_top _ _, .inr ⟨_, rfl, tiny_log t1, _, rfl, by simp only [strLen_append]; omega, _, rfl, by simp only [strLen_append]; omega, ?_⟩⟩
      exact ⟨_, rfl, p, C, dx, _, _, rfl, hp, T.cl, T.nB, rf_bot _ _, .inr ⟨_, rfl, tiny_log t2, _, rfl, by simp only [strLen_append]; omega, q⟩⟩
theorem sc_rrepr : FnScope ["self"] ["self"] (defScope sRRepr) := ⟨rfl, rfl, rfl, by decide +kernel, rfl, by decide +kernel, by decide +kernel⟩
theorem ok_rrepr {f C : Addr} {fd : FuncData} (F : Fun K "__repr__" "Ratio.__repr__" sRRepr f fd) (T : RtC K mg C) : FnOk P w K mg base CX0 1 f fd ["self"] (spRShow C rpQ) := by
  refine F.ok sc_rrepr (fun vs H Q E h => ?_) (fun cdv A outer s H vs Q E hr h => ?_)
  · obtain ⟨p, x, rfl, _⟩ := h
    rfl
  · obtain ⟨p, x, rfl, ⟨dx, hp⟩, ⟨t1, t2⟩, q⟩ := h
    refine ⟨_, pss_one (ps_ret (pe_joined (.cons pe_str (.cons (pe_fmt (pe_fld (pv 0) rfl)) (.cons pe_str (.cons (pe_fmt (pe_fld (pv 0) rfl)) (.cons pe_str .nil))))))), ?_⟩
    have a1 := int_len t1
    have a2 := int_len t2
    have sz : sizeLine = 16777216 := rfl
    have l0 : Str.empty.length = 0 := rfl
    have l1 : (("Ratio(" : String) : Str).length = 6 := rfl
    have l2 : ((", " : String) : Str).length = 2 := rfl
    have l3 : ((")" : String) : Str).length = 1 := rfl
    rw [show rpQ x = Str.empty ++ ("Ratio(" : Str) ++ (toString x.1 : Str) ++ (", " : Str) ++ (toString x.2 : Str) ++ (")" : Str) by unfold rpQ; rw [str_e]] at q
    refine ⟨_, rfl, by simp only [strLen_append]; omega, ?_⟩
    refine ⟨_, rfl, p, C, dx, _, _, rfl, hp, T.cl, T.nT, rf_top _ _, .inr ⟨_, rfl, tiny_log t1, _, rfl, by simp only [strLen_append]; omega, _, rfl, by simp only [strLen_append]; omega, ?_⟩⟩
    exact ⟨_, rfl, p, C, dx, _, _, rfl, hp, T.cl, T.nB, rf_bot _ _, .inr ⟨_, rfl, tiny_log t2, _, rfl, by simp only [strLen_append]; omega, _, rfl, by simp only [strLen_append]; omega, q⟩⟩
theorem ok_reqV {f fI C : Addr} {fd dI : FuncData} (F : Fun K "__eq__" "Ratio.__eq__" sREq f fd) (M : RtM K mg C fI dI) (B : Bl mg) : FnOk P w K mg base CX0 1 f fd ["self", "other"] (spREqV C) := by
  refine F.ok sc_req (fun vs H Q E h => ?_) (fun cdv A outer s H vs Q E hr h => ?_)
  · obtain ⟨p, v, x, rfl, _⟩ := h
    rfl
  · obtain ⟨p, v, x, rfl, ⟨dx, hp⟩, h⟩ := h
    refine ⟨_, pss_one (ps_ret (pe_and (pe_callB (callR_or (C8.call_isC M.ins) call_isi) (by rfl) B.isi PyProof.Rows.boot_isinstance (pa_cons (pv 1) (pa_cons (pe_glob (v := .ref C) rfl M.c.mgC rfl) pa_nil)))
      (pe_and (pe_cmpR op_eq (pe_fld (pv 0) rfl) (pe_fld (pv 1) rfl) (nomark _)) (pe_one (pe_cmpR op_eq (pe_fld (pv 0) rfl) (pe_fld (pv 1) rfl) (nomark _)))))), ?_⟩
    rcases h with ⟨r, y, rfl, ⟨dr, hr'⟩, q⟩ | ⟨⟨i, rfl⟩, q⟩
    · refine ⟨_, rfl, .inl ⟨r, dr, _, rfl, hr', true, rfl, iteT ?_⟩⟩
      refine ⟨_, rfl, p, C, dx, _, _, rfl, hp, M.c.cl, M.c.nT, rf_top _ _, _, rfl, r, C, dr, _, _, rfl, hr', M.c.cl, M.c.nT, rf_top _ _, rfl, decide (x.1 = y.1), dec_v, ?_⟩
      by_cases c : x.1 = y.1
      · rw [decide_eq_true c]
        refine iteT ⟨_, rfl, p, C, dx, _, _, rfl, hp, M.c.cl, M.c.nB, rf_bot _ _, _, rfl, r, C, dr, _, _, rfl, hr', M.c.cl, M.c.nB, rf_bot _ _, rfl, ?_⟩
        have e : decide (V.int x.2 = V.int y.2) = decide (x = y) := by
          obtain ⟨a, b⟩ := x
          obtain ⟨a', b'⟩ := y
          simp only at c
          subst c
          simp
        rw [e]
        exact q
      · rw [decide_eq_false c]
        refine iteF ?_
        have e : decide (x = y) = false := decide_eq_false fun e => c (congrArg Prod.fst e)
        rw [e] at q
        exact q
    · exact ⟨_, rfl, .inr ⟨_, _, _, _, false, rfl, .own C, .base (.int i), M.kI, false, rfl, iteF q⟩⟩
theorem sc_rover : FnScope nBin3 ["self", "other"] (defScope sROver) := ⟨rfl, rfl, rfl, by decide +kernel, rfl, by decide +kernel, by decide +kernel⟩
theorem ok_rover {f f1 fR fI C pT gT pB gB pS gS : Addr} {fd fd1 dR dI dT dB dS : FuncData} (F : Fun K "over" "Ratio.over" sROver f fd) (M : RtM K mg C fI dI) (Z : RtP K C pT gT pB gB dT dB) (ps : PropOf K C "sign" pS gS) (FS : Fun K "sign" "Ratio.sign" sRSign gS dS) (bS : Binds K dS ["self"] [])
    (D1 : Df K mg "is_integer" sIsInt ["value"] f1 fd1) (DR : Df K mg "as_ratio" sAsRat ["number"] fR dR) (B : Bl mg) : FnOk P w K mg base CX0 5 f fd ["self", "other"] (spOver C) := by
  have GI : FnOk P w K mg base CX0 2 fI dI ["self", "top", "bottom"] (spRInit C) := ok_rinit M.FI M.c D1 B
  have GR : FnOk P w K mg base CX0 4 fR dR ["number"] (spAsR C) := ok_asr DR.F M D1 B
  have GT : FnOk P w K mg base CX0 1 gT dT ["self"] (getSp C "_top") := ok_rtop Z.FT M.c
  have GB : FnOk P w K mg base CX0 1 gB dB ["self"] (getSp C "_bottom") := ok_rbot Z.FB M.c
  have GS : FnOk P w K mg base CX0 1 gS dS ["self"] (spSign C) := ok_rsign FS M.c
  refine F.ok sc_rover (fun vs H Q E h => ?_) (fun cdv A outer s H vs Q E hr h => ?_)
  · obtain ⟨p, v, x, y, rfl, _⟩ := h
    rfl
  · obtain ⟨p, v, x, y, rfl, ⟨dx, hp⟩, hv, sx, sy, y0, yl, q⟩ := h
    have hr2 : Room 2 _ := hr.mono (by decide)
    have hr3 : Room 3 _ := hr.mono (by decide)
    refine ⟨_, pss_cons (ps_set (i := 2) sc_rover.nd rfl (Or.inl rfl) (pe_call GR hr rfl DR.g DR.F.kp DR.b .nil pass0 (pa_cons (pv 1) pa_nil)))
      (pss_cons (ps_if (pt_cmpR op_eq (pe_prop (pv 2) M.c.cl ps GS hr2 bS .nil pass0 rfl) pe_int (nomark _)) pss_never pss_nil)
      (pss_one (ps_ret (pe_make M.mkr GI hr3 rfl M.c.mgC M.bI .nil pass0 (pa_cons (pe_op op_mulW (pe_fld (pv 0) rfl) (pe_prop (pv 2) M.c.cl Z.pb GB hr2 Z.bB .nil pass0 rfl)) (pa_cons (pe_op op_mulW (pe_fld (pv 0) rfl) (pe_prop (pv 2) M.c.cl Z.pt GT hr2 Z.bT .nil pass0 rfl)) pa_nil)))))), ?_⟩
    refine ⟨_, rfl, v, y, rfl, hv, fun H1 r s1 ⟨dr, hr1⟩ => ?_⟩
    have hp1 := s1 _ _ hp
    have e1 := sx.top
    have e2 := sy.bot
    have e3 := sx.bot
    have e4 := sx.pos
    refine ⟨_, rfl, r, dr, _, rfl, hr1, r, y, rfl, ⟨dr, hr1⟩, rfl, _, rfl, ?_⟩
    have sn : sgnQ y.1 ≠ 0 := by unfold sgnQ; rw [if_neg y0]; split <;> decide
    rw [show decide (V.int (sgnQ y.1) = V.int 0) = false from decide_eq_false (fun e => sn (V.int.inj e))]
    refine iteF ?_
    refine ⟨_, rfl, p, C, dx, _, _, rfl, hp1, M.c.cl, M.c.nT, rf_top _ _, _, rfl, r, dr, _, rfl, hr1, r, dr, _, _, rfl, hr1, rf_bot _ _, _, _, rfl, rfl, (by unfold CMulW; omega), ?_⟩
    refine ⟨_, rfl, p, C, dx, _, _, rfl, hp1, M.c.cl, M.c.nB, rf_bot _ _, _, rfl, r, dr, _, rfl, hr1, r, dr, _, _, rfl, hr1, rf_top _ _, _, _, rfl, rfl, (by unfold CMulW; omega), fun z dz nz ndz nez => ?_⟩
    have sm : Same H1 (upd (upd H1 dz (.own z)) z (.ins C dz [])) := fun b o e => by
      rw [upd_ne (ne_of_none e nz), upd_ne (ne_of_none e ndz)]
      exact e
    have nb : x.2 * y.1 ≠ 0 := Int.mul_ne_zero (by omega) y0
    have bl : (x.2 * y.1).natAbs.log2 < 9000 := by
      rw [Int.natAbs_mul]
      have := log2_mulR e3 yl
      omega
    refine ⟨z, dz, x.1 * y.2, x.2 * y.1, rfl, upd_same, nb, bl, fun H' keep hr' => ⟨rfl, ?_⟩⟩
    exact q H' z (s1.trans fun b o e => keep b o (ne_of_none e nz) (sm b o e)) hr'
abbrev sBelowNames : List Str := ["self", "other"]
theorem sc_rbelow : FnScope ["self", "other"] ["self", "other"] (defScope sRBelow) := ⟨rfl, rfl, rfl, by decide +kernel, rfl, by decide +kernel, by decide +kernel⟩
theorem sc_rmost : FnScope ["self", "other"] ["self", "other"] (defScope sRMost) := ⟨rfl, rfl, rfl, by decide +kernel, rfl, by decide +kernel, by decide +kernel⟩
theorem ok_rbelow {f fA fI C pS gS : Addr} {fd dA dI dS : FuncData} (F : Fun K "is_below" "Ratio.is_below" sRBelow f fd) (M : RtM K mg C fI dI) (ps : PropOf K C "sign" pS gS) (FS : Fun K "sign" "Ratio.sign" sRSign gS dS) (bS : Binds K dS ["self"] [])
    (T : NeO.BinT K C fA "sub") (bA : Binds K dA ["self", "other"] []) (GA : FnOk P w K mg base CX0 5 fA dA ["self", "other"] (spBin C subQ)) : FnOk P w K mg base CX0 6 f fd ["self", "other"] (spBelow C fun i => decide (i < 0)) := by
  have GS : FnOk P w K mg base CX0 1 gS dS ["self"] (spSign C) := ok_rsign FS M.c
  refine F.ok sc_rbelow (fun vs H Q E h => ?_) (fun cdv A outer s H vs Q E hr h => ?_)
  · obtain ⟨p, v, x, y, rfl, _⟩ := h
    rfl
  · obtain ⟨p, v, x, y, rfl, hp, hv, sx, sy, q⟩ := h
    have hr2 : Room 2 _ := hr.mono (by decide)
    refine ⟨_, pss_one (ps_ret (pe_cmpR op_lt (pe_prop (pe_op (opR_or (NeO.op_binI (op := .Sub) T.first T.own T.fn GA hr bA) (NeO.op_binT (op := .Sub) T GA hr bA)) (pv 0) (pv 1)) M.c.cl ps GS hr2 bS .nil pass0 rfl) pe_int (nomark _))), ?_⟩
    obtain ⟨dx, hp1⟩ := id hp
    rcases hv with ⟨r, rfl, dy, hr'⟩ | ⟨i, rfl, rfl⟩
    · refine ⟨_, rfl, _, rfl, .inl ⟨p, r, dx, dy, _, _, rfl, rfl, hp1, hr', p, .ref r, x, y, rfl, hp, .inl ⟨r, rfl, dy, hr'⟩, sx, sy, fun H' u s' nu hu => ⟨u, rfl, ?_⟩⟩⟩
      obtain ⟨du, hu'⟩ := id hu
      exact ⟨u, du, _, rfl, hu', u, _, rfl, hu, _, _, rfl, rfl, q H' s'⟩
    · refine ⟨_, rfl, _, rfl, .inr ⟨p, dx, _, i, rfl, rfl, hp1, p, .int i, x, (i, 1), rfl, hp, .inr ⟨i, rfl, rfl⟩, sx, sy, fun H' u s' nu hu => ⟨u, rfl, ?_⟩⟩⟩
      obtain ⟨du, hu'⟩ := id hu
      exact ⟨u, du, _, rfl, hu', u, _, rfl, hu, _, _, rfl, rfl, q H' s'⟩
theorem ok_rmost {f fA fI C pS gS : Addr} {fd dA dI dS : FuncData} (F : Fun K "is_at_most" "Ratio.is_at_most" sRMost f fd) (M : RtM K mg C fI dI) (ps : PropOf K C "sign" pS gS) (FS : Fun K "sign" "Ratio.sign" sRSign gS dS) (bS : Binds K dS ["self"] [])
    (T : NeO.BinT K C fA "sub") (bA : Binds K dA ["self", "other"] []) (GA : FnOk P w K mg base CX0 5 fA dA ["self", "other"] (spBin C subQ)) : FnOk P w K mg base CX0 6 f fd ["self", "other"] (spBelow C fun i => decide (i ≤ 0)) := by
  have GS : FnOk P w K mg base CX0 1 gS dS ["self"] (spSign C) := ok_rsign FS M.c
  refine F.ok sc_rmost (fun vs H Q E h => ?_) (fun cdv A outer s H vs Q E hr h => ?_)
  · obtain ⟨p, v, x, y, rfl, _⟩ := h
    rfl
  · obtain ⟨p, v, x, y, rfl, hp, hv, sx, sy, q⟩ := h
    have hr2 : Room 2 _ := hr.mono (by decide)
    refine ⟨_, pss_one (ps_ret (pe_cmpR op_le (pe_prop (pe_op (opR_or (NeO.op_binI (op := .Sub) T.first T.own T.fn GA hr bA) (NeO.op_binT (op := .Sub) T GA hr bA)) (pv 0) (pv 1)) M.c.cl ps GS hr2 bS .nil pass0 rfl) pe_int (nomark _))), ?_⟩
    obtain ⟨dx, hp1⟩ := id hp
    rcases hv with ⟨r, rfl, dy, hr'⟩ | ⟨i, rfl, rfl⟩
    · refine ⟨_, rfl, _, rfl, .inl ⟨p, r, dx, dy, _, _, rfl, rfl, hp1, hr', p, .ref r, x, y, rfl, hp, .inl ⟨r, rfl, dy, hr'⟩, sx, sy, fun H' u s' nu hu => ⟨u, rfl, ?_⟩⟩⟩
      obtain ⟨du, hu'⟩ := id hu
      exact ⟨u, du, _, rfl, hu', u, _, rfl, hu, _, _, rfl, rfl, q H' s'⟩
    · refine ⟨_, rfl, _, rfl, .inr ⟨p, dx, _, i, rfl, rfl, hp1, p, .int i, x, (i, 1), rfl, hp, .inr ⟨i, rfl, rfl⟩, sx, sy, fun H' u s' nu hu => ⟨u, rfl, ?_⟩⟩⟩
      obtain ⟨du, hu'⟩ := id hu
      exact ⟨u, du, _, rfl, hu', u, _, rfl, hu, _, _, rfl, rfl, q H' s'⟩
end
end Tk

namespace Tk
open PySem PySem.Spec PyProof.Rows L2
/-- of two unlike things of a plan of this size: True -/
def spIsPair (K : PySem.W.Frag) : Sp := fun vs H Q _ => ∃ (n i j : Int) (t : Addr), vs = [.int n, .ref t] ∧ SqT K H t [.int i, .int j] ∧ 0 ≤ i ∧ i < n ∧ 0 ≤ j ∧ j < n ∧ i ≠ j ∧ ∀ H', Same H H' → Q (.bl true) H'
/-- pairs of unlike things -/
def Prs (n : Int) (ps : List (Int × Int)) : Prop := ps.Nodup ∧ ps.length < 60 ∧ ∀ p ∈ ps, 0 ≤ p.1 ∧ p.1 < n ∧ 0 ≤ p.2 ∧ p.2 < n ∧ p.1 ≠ p.2
def spArePairs (K : PySem.W.Frag) : Sp := fun vs H Q _ => ∃ (n : Int) (a : Addr) (ps : List (Int × Int)), vs = [.int n, .ref a] ∧ PA2 K H a ps ∧ Prs n ps ∧ ∀ H', Same H H' → Q (.bl true) H'
section
variable {P : Program} {w : World} {K : PySem.W.Frag} {mg : Str → Option Value} {base : Heap}
end
end Tk

/-! plain mathematics: lists of pairs, orders, reaching -/
namespace Tk
theorem nodup_le {α : Type} [DecidableEq α] : ∀ {l m : List α}, l.Nodup → (∀ x ∈ l, x ∈ m) → l.length ≤ m.length
  | [], _, _, _ => Nat.zero_le _
  | x :: l, m, hn, hs => by
    have hx : x ∈ m := hs x (List.mem_cons_self ..)
    have hn' := List.nodup_cons.mp hn
    have h := nodup_le (l := l) (m := m.erase x) hn'.2 (fun y hy => by
      have hne : y ≠ x := fun e => hn'.1 (e ▸ hy)
      exact (List.mem_erase_of_ne hne).mpr (hs y (List.mem_cons_of_mem _ hy)))
    have hl := List.length_erase_of_mem hx
    have hp : 0 < m.length := List.length_pos_of_mem hx
    simp only [List.length_cons]
    omega
theorem nodup_eq {α : Type} [DecidableEq α] {l m : List α} (hl : l.Nodup) (hm : m.Nodup) (h : ∀ x, x ∈ l ↔ x ∈ m) : l.length = m.length :=
  Nat.le_antisymm (nodup_le hl fun x hx => (h x).mp hx) (nodup_le hm fun x hx => (h x).mpr hx)
/-- the things of a plan of this size -/
def things (n : Nat) : List Int := (List.range n).map Int.ofNat
theorem mem_things {n : Nat} {x : Int} : x ∈ things n ↔ 0 ≤ x ∧ x < n := by
  unfold things
  rw [List.mem_map]
  constructor
  · rintro ⟨k, hk, rfl⟩
    have := List.mem_range.mp hk
    exact ⟨by simp, by simpa using this⟩
  · rintro ⟨h0, h1⟩
    exact ⟨x.toNat, List.mem_range.mpr (by omega), by simp; omega⟩
theorem things_nodup (n : Nat) : (things n).Nodup := by
  unfold things
  show List.Pairwise _ _
  rw [List.pairwise_map]
  exact List.Pairwise.imp (fun h e => h (Int.ofNat.inj e)) (List.nodup_range (n := n))
theorem things_len (n : Nat) : (things n).length = n := by simp [things]

/-- along the list each arrow goes from an earlier to a later place -/
structure Topo (n : Nat) (ps : List (Int × Int)) (o : List Int) : Prop where
  nd : o.Nodup
  mem : ∀ x, x ∈ o ↔ x ∈ things n
  at_ : ∀ p ∈ ps, ∀ i j : Nat, o[i]? = some p.1 → o[j]? = some p.2 → i < j
/-- some numbering rises along the arrows -/
def Acy (ps : List (Int × Int)) : Prop := ∃ r : Int → Nat, ∀ p ∈ ps, r p.1 < r p.2
/-- an order on its way: o told, l left -/
structure OInv (n : Nat) (ps : List (Int × Int)) (o l : List Int) : Prop where
  no : o.Nodup
  nl : l.Nodup
  dj : ∀ x ∈ o, x ∉ l
  al : ∀ x, x ∈ things n ↔ x ∈ o ∨ x ∈ l
  st : ∀ p ∈ ps, p.2 ∈ o → p.1 ∈ o
  at_ : ∀ p ∈ ps, ∀ i j : Nat, o[i]? = some p.1 → o[j]? = some p.2 → i < j
theorem oinv_0 (n : Nat) (ps : List (Int × Int)) : OInv n ps [] (things n) :=
  ⟨List.nodup_nil, things_nodup n, (fun _ h => nomatch h), (fun x => by simp), (fun _ _ h => nomatch h), (fun _ _ i j h => by simp at h)⟩
theorem oinv_end {n : Nat} {ps : List (Int × Int)} {o : List Int} (h : OInv n ps o []) : Topo n ps o :=
  ⟨h.no, fun x => by rw [h.al x]; simp, h.at_⟩
/-- some thing left that nothing left pushes -/
theorem has_free {l : List Int} {ps : List (Int × Int)} (ha : Acy ps) (hl : l ≠ []) : ∃ x ∈ l, ∀ p ∈ ps, p.1 ∈ l → p.2 ≠ x := by
  obtain ⟨r, hr⟩ := ha
  have : ∀ (k : Nat) (x : Int), x ∈ l → r x ≤ k → ∃ y ∈ l, ∀ p ∈ ps, p.1 ∈ l → p.2 ≠ y := by
    intro k
    induction k with
    | zero =>
      intro x hx h0
      refine ⟨x, hx, fun p hp _ e => ?_⟩
      have := hr p hp
      rw [e] at this
      omega
    | succ k ih =>
      intro x hx h0
      by_cases c : ∃ p ∈ ps, p.1 ∈ l ∧ p.2 = x
      · obtain ⟨p, hp, h1, h2⟩ := c
        have := hr p hp
        rw [h2] at this
        exact ih p.1 h1 (by omega)
      · exact ⟨x, hx, fun p hp h1 h2 => c ⟨p, hp, h1, h2⟩⟩
  cases l with
  | nil => exact absurd rfl hl
  | cons x l => exact this (r x) x (List.mem_cons_self ..) (Nat.le_refl _)
/-- the ends of the arrows from what is left -/
def pushedL (ps : List (Int × Int)) (l : List Int) : List Int := (ps.filter fun p => decide (p.1 ∈ l)).map (·.2)
def freeL (ps : List (Int × Int)) (l : List Int) : List Int := l.filter fun x => !decide (x ∈ pushedL ps l)
theorem mem_pushedL {ps : List (Int × Int)} {l : List Int} {x : Int} : x ∈ pushedL ps l ↔ ∃ p ∈ ps, p.1 ∈ l ∧ p.2 = x := by
  unfold pushedL
  simp only [List.mem_map, List.mem_filter, decide_eq_true_eq]
  constructor
  · rintro ⟨p, ⟨h1, h2⟩, h3⟩; exact ⟨p, h1, h2, h3⟩
  · rintro ⟨p, h1, h2, h3⟩; exact ⟨p, ⟨h1, h2⟩, h3⟩
theorem mem_freeL {ps : List (Int × Int)} {l : List Int} {x : Int} : x ∈ freeL ps l ↔ x ∈ l ∧ ∀ p ∈ ps, p.1 ∈ l → p.2 ≠ x := by
  unfold freeL
  simp only [List.mem_filter, Bool.not_eq_true', decide_eq_false_iff_not, mem_pushedL]
  constructor
  · rintro ⟨h1, h2⟩; exact ⟨h1, fun p hp h3 h4 => h2 ⟨p, hp, h3, h4⟩⟩
  · rintro ⟨h1, h2⟩; exact ⟨h1, fun ⟨p, hp, h3, h4⟩ => h2 p hp h3 h4⟩
theorem freeL_ne {ps : List (Int × Int)} {l : List Int} (ha : Acy ps) (hl : l ≠ []) : freeL ps l ≠ [] := by
  obtain ⟨x, h1, h2⟩ := has_free ha hl
  intro e
  have : x ∈ freeL ps l := mem_freeL.mpr ⟨h1, h2⟩
  rw [e] at this
  exact nomatch this
theorem oinv_step {n : Nat} {ps : List (Int × Int)} {o l : List Int} {x : Int} (h : OInv n ps o l) (hr : ∀ p ∈ ps, p.1 ∈ things n) (hx : x ∈ freeL ps l) : OInv n ps (o ++ [x]) (l.erase x) := by
  obtain ⟨h1, h2⟩ := mem_freeL.mp hx
  have xo : x ∉ o := fun z => h.dj x z h1
  have starts : ∀ p ∈ ps, p.2 = x → p.1 ∈ o := fun p hp e => by
    rcases (h.al p.1).mp (hr p hp) with z | z
    · exact z
    · exact absurd e (h2 p hp z)
  refine ⟨?_, h.nl.erase x, ?_, ?_, ?_, ?_⟩
  · rw [List.nodup_append]
    refine ⟨h.no, by simp, ?_⟩
    intro a ha b hb e
    simp at hb
    subst hb
    subst e
    exact xo ha
  · intro y hy z
    rcases List.mem_append.mp hy with q | q
    · exact h.dj y q (List.mem_of_mem_erase z)
    · simp at q
      subst q
      exact (List.Nodup.not_mem_erase h.nl) z
  · intro y
    rw [h.al y]
    constructor
    · rintro (q | q)
      · exact .inl (List.mem_append_left _ q)
      · by_cases e : y = x
        · exact .inl (List.mem_append_right _ (by simp [e]))
        · exact .inr ((List.mem_erase_of_ne e).mpr q)
    · rintro (q | q)
      · rcases List.mem_append.mp q with q | q
        · exact .inl q
        · simp at q
          exact .inr (q ▸ h1)
      · exact .inr (List.mem_of_mem_erase q)
  · intro p hp q
    rcases List.mem_append.mp q with q | q
    · exact List.mem_append_left _ (h.st p hp q)
    · simp at q
      exact List.mem_append_left _ (starts p hp q)
  · intro p hp i j hi hj
    by_cases jl : j < o.length
    · rw [List.getElem?_append_left jl] at hj
      have hs : p.1 ∈ o := h.st p hp (List.mem_of_getElem? hj)
      by_cases il : i < o.length
      · rw [List.getElem?_append_left il] at hi
        exact h.at_ p hp i j hi hj
      · rw [List.getElem?_append_right (by omega)] at hi
        have : i - o.length = 0 := by
          cases e : i - o.length with
          | zero => rfl
          | succ k => rw [e] at hi; simp at hi
        rw [this] at hi
        simp at hi
        exact absurd (hi ▸ hs) xo
    · rw [List.getElem?_append_right (by omega)] at hj
      have j0 : j - o.length = 0 := by
        cases e : j - o.length with
        | zero => rfl
        | succ k => rw [e] at hj; simp at hj
      rw [j0] at hj
      simp at hj
      have hs := starts p hp hj.symm
      by_cases il : i < o.length
      · omega
      · rw [List.getElem?_append_right (by omega)] at hi
        have : i - o.length = 0 := by
          cases e : i - o.length with
          | zero => rfl
          | succ k => rw [e] at hi; simp at hi
        rw [this] at hi
        simp at hi
        exact absurd (hi ▸ hs) xo
theorem topo_len {n : Nat} {ps : List (Int × Int)} {o : List Int} (h : Topo n ps o) : o.length = n := by
  rw [nodup_eq h.nd (things_nodup n) h.mem, things_len]
end Tk

namespace Tk
open PySem PySem.Spec PyProof.Rows L2

theorem dec_bl {i j : Int} : V.bl (decide (V.int i = V.int j)) = V.bl (decide (i = j)) := by simp
theorem pl_ks {K : PySem.W.Frag} {H : Hp} : ∀ {ps : List (Int × Int)} {xs : List V}, DpAll K H xs (ps.map dP) → ∃ ks : List (Addr × List Int), xs = ks.map (fun p => V.ref p.1) ∧ ks.map (·.2) = ps.map (fun p => [p.1, p.2]) ∧ ∀ p ∈ ks, SqT K H p.1 (p.2.map V.int)
  | [], _, h => by cases h; exact ⟨[], rfl, rfl, fun p hp => nomatch hp⟩
  | p :: ps, _, h => by
    cases h with
    | cons h1 h2 =>
      obtain ⟨t, rfl, ht⟩ := dP_inv h1
      obtain ⟨ks, rfl, e2, h3⟩ := pl_ks h2
      refine ⟨(t, [p.1, p.2]) :: ks, rfl, by simp [e2], ?_⟩
      intro q hq
      rcases List.mem_cons.mp hq with rfl | hq
      · exact ht
      · exact h3 q hq
theorem prs_ks {n : Int} {ps : List (Int × Int)} (h : Prs n ps) {ks : List (Addr × List Int)} (e : ks.map (·.2) = ps.map (fun p => [p.1, p.2])) : (ks.map (·.2)).Nodup ∧ ks.length < 60 := by
  constructor
  · rw [e]
    show List.Pairwise _ _
    rw [List.pairwise_map]
    refine List.Pairwise.imp (fun {a b} hne q => hne ?_) h.1
    simp at q
    exact Prod.ext q.1 q.2
  · have := congrArg List.length e
    simp at this
    rw [this]
    exact h.2.1
theorem inV_int (i : Int) : ∀ l : List Int, inV (.int i) (l.map V.int) = decide (i ∈ l)
  | [] => by simp [inV]
  | x :: l => by
    have ih := inV_int i l
    unfold inV at ih ⊢
    rw [List.map_cons, List.any_cons, ih]
    have e : eqV (.int x) (.int i) = decide (i = x) := by
      show (x == i) = decide (i = x)
      by_cases h : x = i
      · subst h; simp
      · have h' : ¬ i = x := fun e => h e.symm
        simp [h, h']
    rw [e]
    simp [List.mem_cons]
theorem flat_ints (l : List Int) : (l.map V.int).all flatV = true := by
  rw [List.all_map]
  exact List.all_eq_true.mpr fun x _ => rfl
theorem in_bl {i : Int} {l : List Int} : V.bl (if false = true then !inV (.int i) (l.map V.int) else inV (.int i) (l.map V.int)) = V.bl (decide (i ∈ l)) := by
  rw [← inV_int]; rfl
theorem notin_bl {i : Int} {l : List Int} : V.bl (if true = true then !inV (.int i) (l.map V.int) else inV (.int i) (l.map V.int)) = V.bl (!decide (i ∈ l)) := by
  rw [← inV_int]; rfl

def spOrdOf (K : PySem.W.Frag) : Sp := fun vs H Q _ => ∃ (n : Nat) (a : Addr) (ps : List (Int × Int)), vs = [.int n, .ref a] ∧ PL K H a ps ∧ n ≤ 60 ∧ Prs n ps ∧ Acy ps ∧
  ∀ H' p o, Same H H' → H p = none → H' p = some (.lst (o.map V.int)) → Topo n ps o → Q (.ref p) H'
section
variable {P : Program} {w : World} {K : PySem.W.Frag} {mg : Str → Option Value} {base : Heap}
end
end Tk

namespace Tk
open PySem PySem.Spec PyProof.Rows L2
theorem at0 {x : Int} {l : List Int} : atI ((x :: l).map V.int) (0 : Int) = some (V.int x) := atI_nat (j := 0) rfl
theorem rgV_things (n : Nat) : rgV 0 (n : Int) = (things n).map V.int := by
  unfold rgV things
  rw [List.map_map]
  have e : ((n : Int) - 0).toNat = n := by omega
  rw [e]
  refine List.map_congr_left fun k _ => ?_
  show V.int (0 + (k : Int)) = V.int (Int.ofNat k)
  rw [Int.zero_add]; rfl
theorem pushed_take {ps : List (Int × Int)} {l : List Int} {i : Nat} {p : Int × Int} (h : ps[i]? = some p) :
    (pushedL (ps.take (i + 1)) l) = if p.1 ∈ l then pushedL (ps.take i) l ++ [p.2] else pushedL (ps.take i) l := by
  unfold pushedL
  rw [take_at h, List.filter_append, List.map_append]
  by_cases c : p.1 ∈ l
  · simp [c]
  · simp [c]
theorem filter_take {l : List Int} {f : Int → Bool} {i : Nat} {x : Int} (h : l[i]? = some x) : (l.take (i + 1)).filter f = if f x = true then (l.take i).filter f ++ [x] else (l.take i).filter f := by
  rw [take_at h, List.filter_append]
  by_cases c : f x = true
  · simp [c]
  · simp [c]
theorem take_all {α : Type} {l : List α} {n : Nat} (h : l.length = n) : l.take n = l := by rw [← h, List.take_length]
theorem erase_ix {l : List Int} {x : Int} (hx : x ∈ l) : ∃ j : Nat, l[j]? = some x ∧ (∀ m : Nat, m < j → l[m]? ≠ some x) ∧ l.eraseIdx j = l.erase x := by
  induction l with
  | nil => exact nomatch hx
  | cons y l ih =>
    by_cases e : y = x
    · subst e
      exact ⟨0, by simp, fun m hm => by omega, by simp⟩
    · have hx' : x ∈ l := by
        rcases List.mem_cons.mp hx with q | q
        · exact absurd q.symm e
        · exact q
      obtain ⟨j, h1, h2, h3⟩ := ih hx'
      refine ⟨j + 1, by simpa using h1, ?_, ?_⟩
      · intro m hm
        cases m with
        | zero => simp [e]
        | succ m => simpa using h2 m (by omega)
      · have e' : (y == x) = false := by simpa using e
        simp [List.erase_cons, e', h3]
section
variable {P : Program} {w : World} {K : PySem.W.Frag} {mg : Str → Option Value} {base : Heap}
abbrev nOrd : List Str := ["size", "arrows", "order", "left", "pushed", "free", "start", "end", "thing"]
end
end Tk

namespace Tk
open PySem PySem.Spec PyProof.Rows L2
def spAreArr (K : PySem.W.Frag) : Sp := fun vs H Q _ => ∃ (n : Nat) (a : Addr) (ps : List (Int × Int)), vs = [.int n, .ref a] ∧ PL K H a ps ∧ n ≤ 60 ∧ Prs n ps ∧ Acy ps ∧ ∀ H', Same H H' → Q (.bl true) H'
def spAreTies (K : PySem.W.Frag) : Sp := fun vs H Q _ => ∃ (n : Int) (a : Addr) (ps : List (Int × Int)), vs = [.int n, .ref a] ∧ PA2 K H a ps ∧ Prs n ps ∧ (∀ p ∈ ps, p.1 < p.2) ∧ ∀ H', Same H H' → Q (.bl true) H'
def spIsSize : Sp := fun vs H Q _ => ∃ i : Int, vs = [.int i] ∧ Q (.bl (decide (0 ≤ i) && decide (i ≤ 6))) H
def spChkSize : Sp := fun vs H Q _ => ∃ i : Int, vs = [.int i] ∧ 0 ≤ i ∧ i ≤ 6 ∧ Q .non H
section
variable {P : Program} {w : World} {K : PySem.W.Frag} {mg : Str → Option Value} {base : Heap}
end
end Tk

namespace Tk
open PySem PySem.Spec PyProof.Rows L2
/-! ## Plan -/
theorem k_as : ¬ (("_arrows" : Str) = "_size") := by decide +kernel
theorem k_ts : ¬ (("_ties" : Str) = "_size") := by decide +kernel
theorem k_ta : ¬ (("_ties" : Str) = "_arrows") := by decide +kernel
theorem k_sa : ¬ (("_size" : Str) = "_arrows") := by decide +kernel
theorem k_st : ¬ (("_size" : Str) = "_ties") := by decide +kernel
theorem k_at : ¬ (("_arrows" : Str) = "_ties") := by decide +kernel
def pf (n : Int) (a t : Addr) : List (Str × V) := putF "_ties" (.ref t) (putF "_arrows" (.ref a) (putF "_size" (.int n) []))
theorem pf_size (n : Int) (a t : Addr) : (pf n a t).lookup ("_size" : Str) = some (.int n) := by
  unfold pf
  rw [lookup_putF, if_neg k_st, lookup_putF, if_neg k_sa, lookup_putF, if_pos rfl]
theorem pf_arr (n : Int) (a t : Addr) : (pf n a t).lookup ("_arrows" : Str) = some (.ref a) := by
  unfold pf
  rw [lookup_putF, if_neg k_at, lookup_putF, if_pos rfl]
theorem pf_ties (n : Int) (a t : Addr) : (pf n a t).lookup ("_ties" : Str) = some (.ref t) := by
  unfold pf
  rw [lookup_putF, if_pos rfl]
theorem pf_no (n : Int) (a t : Addr) {m : Str} (h1 : ¬ m = "_size") (h2 : ¬ m = "_arrows") (h3 : ¬ m = "_ties") : (pf n a t).lookup m = none := by
  unfold pf
  rw [lookup_putF, if_neg h3, lookup_putF, if_neg h2, lookup_putF, if_neg h1]
  all_goals rfl
theorem putF_len (f : Str) (v : V) : ∀ fs : List (Str × V), (putF f v fs).length ≤ fs.length + 1
  | [] => by simp [putF]
  | (g, x) :: r => by
    unfold putF
    split
    · simp
    · have := putF_len f v r
      simp; omega
/-- ps' is ps, sorted -/
def SortOf (ps ps' : List (Int × Int)) : Prop := ps'.Perm ps ∧ ps'.Pairwise fun p q => SrtO.lexB q p = false
def SrtPs (A : List (Int × Int)) : Prop := A.Pairwise fun p q => SrtO.lexB q p = false
theorem lex_anti {p q : Int × Int} (h : SrtO.lexB q p = false) (g : SrtO.lexB p q = false) : p = q := by
  have h1 : ¬ SrtO.lexB q p = true := by rw [h]; simp
  have g1 : ¬ SrtO.lexB p q = true := by rw [g]; simp
  rw [SrtO.lexB_iff] at h1 g1
  exact Prod.ext (by omega) (by omega)
theorem pairs_one {A B : List (Int × Int)} (s1 : SrtPs A) (n1 : A.Nodup) (s2 : SrtPs B) (n2 : B.Nodup) (m : ∀ p, p ∈ A ↔ p ∈ B) : A = B :=
  List.Perm.eq_of_pairwise (fun a b _ _ h1 h2 => lex_anti h1 h2) s1 s2 ((List.perm_ext_iff_of_nodup n1 n2).mpr m)
/-- a Plan stands at p -/
structure PlanAt (K : PySem.W.Frag) (C : Addr) (H : Hp) (p : Addr) (n : Nat) (as ts : List (Int × Int)) : Prop where
  ob : ∃ dx a t, H p = some (.ins C dx (pf n a t)) ∧ PL K H a as ∧ PL K H t ts
  n6 : n ≤ 6
  pa : Prs n as
  ac : Acy as
  pt : Prs n ts
  lt : ∀ q ∈ ts, q.1 < q.2
  sa : SrtPs as
  st : SrtPs ts
theorem plan_s {K : PySem.W.Frag} {C : Addr} {H H' : Hp} {p : Addr} {n : Nat} {as ts : List (Int × Int)} (h : PlanAt K C H p n as ts) (e : Same H H') : PlanAt K C H' p n as ts := by
  obtain ⟨⟨dx, a, t, h1, h2, h3⟩, n6, h4, h5, h6, h7, h8, h9⟩ := h
  exact ⟨⟨dx, a, t, e _ _ h1, pl_s h2 e, pl_s h3 e⟩, n6, h4, h5, h6, h7, h8, h9⟩
theorem prs_perm {n : Int} {ps qs : List (Int × Int)} (h : Prs n ps) (e : qs.Perm ps) : Prs n qs :=
  ⟨e.nodup_iff.mpr h.1, by rw [e.length_eq]; exact h.2.1, fun p hp => h.2.2 p (e.mem_iff.mp hp)⟩
theorem acy_perm {ps qs : List (Int × Int)} (h : Acy ps) (e : qs.Perm ps) : Acy qs := let ⟨r, hr⟩ := h; ⟨r, fun p hp => hr p (e.mem_iff.mp hp)⟩
/-- the pair that a value is in a heap -/
def prV (H : Hp) : V → Int × Int
  | .ref t => match H t with
    | some (.tup [.int i, .int j]) => (i, j)
    | _ => (0, 0)
  | _ => (0, 0)
theorem prV_eq {H : Hp} {t : Addr} {i j : Int} (h : H t = some (.tup [.int i, .int j])) : prV H (.ref t) = (i, j) := by
  unfold prV
  simp only [h]
/-- __init__ of a fresh Plan -/
def spInit (K : PySem.W.Frag) (C : Addr) : Sp := fun vs H Q _ => ∃ (p dx a t : Addr) (n : Nat) (as ts : List (Int × Int)), vs = [.ref p, .int n, .ref a, .ref t] ∧ H p = some (.ins C dx []) ∧ PL K H a as ∧ PA2 K H t ts ∧
  n ≤ 6 ∧ Prs n as ∧ Acy as ∧ Prs n ts ∧ (∀ q ∈ ts, q.1 < q.2) ∧
  ∀ H' as' ts', (∀ b o, b ≠ p → H b = some o → H' b = some o) → SortOf as as' → SortOf ts ts' → PlanAt K C H' p n as' ts' → Q .non H'
/-- facts of the class -/
structure PlC (K : PySem.W.Frag) (mg : Str → Option Value) (C : Addr) : Prop where
  cl : Cls K C
  nS : NoAttr K C "_size"
  nA : NoAttr K C "_arrows"
  nT : NoAttr K C "_ties"
  mgC : mg "Plan" = some (.ref C)
/-- [(i, j) for i, j in pairs], all tuples new, sorted -/
theorem sort_pairs {K : PySem.W.Frag} {H2 : Hp} {xs ys : List V} {ps : List (Int × Int)} (hl : xs.length = ps.length)
    (h : ∀ (i : Nat) (x : V), xs[i]? = some x → ∃ (t : Addr) (p : Int × Int), x = V.ref t ∧ ps[i]? = some p ∧ H2 t = some (.tup [.int p.1, .int p.2])) (s : SrtO.Srtd (ltP (prV H2)) ys) (b : SrtO.Stb (ltP (prV H2)) ys xs) :
    SortOf ps (ys.map (prV H2)) ∧ DpAll K H2 ys ((ys.map (prV H2)).map dP) := by
  have e : xs.map (prV H2) = ps := by
    refine List.ext_getElem? fun i => ?_
    rw [List.getElem?_map]
    cases hx : xs[i]? with
    | none =>
      have : ps[i]? = none := by
        rw [List.getElem?_eq_none_iff] at hx ⊢
        omega
      rw [this]; rfl
    | some x =>
      obtain ⟨t, p, rfl, hp, ht⟩ := h i x hx
      rw [hp]
      show some (prV H2 (.ref t)) = some p
      rw [prV_eq ht]
  refine ⟨⟨?_, ?_⟩, ?_⟩
  · rw [← e]
    exact b.perm.map _
  · rw [List.pairwise_map]
    exact s
  · have all : ∀ y ∈ ys, ∃ (t : Addr) (p : Int × Int), y = V.ref t ∧ H2 t = some (.tup [.int p.1, .int p.2]) := fun y hy => by
      obtain ⟨i, hi⟩ := List.getElem?_of_mem (b.perm.mem_iff.mp hy)
      obtain ⟨t, p, e1, _, e2⟩ := h i y hi
      exact ⟨t, p, e1, e2⟩
    clear s b e h hl
    induction ys with
    | nil => exact .nil
    | cons y ys ih =>
      obtain ⟨t, p, rfl, ht⟩ := all y (List.mem_cons_self ..)
      refine .cons ?_ (ih fun z hz => all z (List.mem_cons_of_mem _ hz))
      rw [prV_eq ht]
      exact dP_mk (st_of ht)

/-! what is no object stays where only the object changes -/
section
variable {K : PySem.W.Frag} {Ga Gb : Hp} {p C' dx' : Addr} {fs : List (Str × V)}
theorem obj_rd (hp : Ga p = some (.ins C' dx' fs)) (kp : ∀ b o, b ≠ p → Ga b = some o → Gb b = some o) {c : Addr} {u : HO} (nu : ∀ C' dx' fs, u ≠ .ins C' dx' fs) (h : Rd Ga c u) : Rd Gb c u := by
  rcases h with h | ⟨o, h⟩
  · exact .inl (kp _ _ (fun e => by rw [e, hp] at h; exact nu _ _ _ (Option.some.inj h).symm) h)
  · exact .inr ⟨o, kp _ _ (fun e => by rw [e, hp] at h; cases h) h⟩
theorem obj_l (hp : Ga p = some (.ins C' dx' fs)) (kp : ∀ b o, b ≠ p → Ga b = some o → Gb b = some o) {c : Addr} {ys : List V} (h : SqL K Ga c ys) : SqL K Gb c ys := h.elim (fun h => .inl (obj_rd hp kp (fun _ _ _ e => nomatch e) h)) .inr
theorem obj_t (hp : Ga p = some (.ins C' dx' fs)) (kp : ∀ b o, b ≠ p → Ga b = some o → Gb b = some o) {c : Addr} {ys : List V} (h : SqT K Ga c ys) : SqT K Gb c ys := h.elim (fun h => .inl (obj_rd hp kp (fun _ _ _ e => nomatch e) h)) .inr
theorem obj_d (hp : Ga p = some (.ins C' dx' fs)) (kp : ∀ b o, b ≠ p → Ga b = some o → Gb b = some o) : ∀ {ps : List (Int × Int)} {xs : List V}, DpAll K Ga xs (ps.map dP) → DpAll K Gb xs (ps.map dP)
  | [], _, h => by cases h; exact .nil
  | z :: zs, _, h => by
    cases h with
    | cons g1 g2 =>
      obtain ⟨t, rfl, ht⟩ := dP_inv g1
      exact .cons (dP_mk (obj_t hp kp ht)) (obj_d hp kp g2)
theorem obj_pl (hp : Ga p = some (.ins C' dx' fs)) (kp : ∀ b o, b ≠ p → Ga b = some o → Gb b = some o) {b : Addr} {ps : List (Int × Int)} (h : PL K Ga b ps) : PL K Gb b ps := let ⟨xs, h1, h2⟩ := h; ⟨xs, obj_l hp kp h1, obj_d hp kp h2⟩
theorem obj_pa2 (hp : Ga p = some (.ins C' dx' fs)) (kp : ∀ b o, b ≠ p → Ga b = some o → Gb b = some o) {b : Addr} {ps : List (Int × Int)} (h : PA2 K Ga b ps) : PA2 K Gb b ps := let ⟨xs, h1, h2⟩ := h; ⟨xs, h1.elim (fun h => .inl (obj_l hp kp h)) (fun h => .inr (obj_t hp kp h)), obj_d hp kp h2⟩
end
section
variable {P : Program} {w : World} {K : PySem.W.Frag} {mg : Str → Option Value} {base : Heap}
abbrev nInit : List Str := ["self", "size", "arrows", "ties", "start", "end", "low", "high"]
end
end Tk

namespace Tk
/-- along the pairs one comes from a to b -/
inductive Reach (ps : List (Int × Int)) (a : Int) : Int → Prop
  | refl : Reach ps a a
  | tail {b c : Int} : Reach ps a b → (b, c) ∈ ps → Reach ps a c
theorem Reach.trans {ps : List (Int × Int)} {a b c : Int} (h : Reach ps a b) (g : Reach ps b c) : Reach ps a c := by
  induction g with
  | refl => exact h
  | tail _ hp ih => exact .tail ih hp
theorem Reach.head {ps : List (Int × Int)} {a b c : Int} (h : (a, b) ∈ ps) (g : Reach ps b c) : Reach ps a c := Reach.trans (.tail .refl h) g
theorem Reach.sub {ps qs : List (Int × Int)} {a b : Int} (h : Reach ps a b) (s : ∀ p ∈ ps, p ∈ qs) : Reach qs a b := by
  induction h with
  | refl => exact .refl
  | tail _ hp ih => exact .tail ih (s _ hp)
def swp (p : Int × Int) : Int × Int := (p.2, p.1)
theorem Reach.swap {ps : List (Int × Int)} {a b : Int} (h : Reach ps a b) : Reach (ps.map swp) b a := by
  induction h with
  | refl => exact .refl
  | @tail b c _ hp ih =>
    have : (c, b) ∈ ps.map swp := List.mem_map.mpr ⟨(b, c), hp, rfl⟩
    exact Reach.head this ih
theorem swp_swp (ps : List (Int × Int)) : (ps.map swp).map swp = ps := by
  rw [List.map_map]
  have : swp ∘ swp = id := by funext p; rfl
  rw [this, List.map_id]
theorem reach_swap {ps : List (Int × Int)} {a b : Int} : Reach (ps.map swp) a b ↔ Reach ps b a :=
  ⟨fun h => by have := h.swap; rw [swp_swp] at this; exact this, Reach.swap⟩
/-- a search on its way -/
structure RInv (n : Nat) (ps : List (Int × Int)) (st : Int) (fo wa : List Int) : Prop where
  nd : fo.Nodup
  th : ∀ x ∈ fo, x ∈ things n
  ss : st ∈ fo
  re : ∀ x ∈ fo, Reach ps st x
  wf : ∀ x ∈ wa, x ∈ fo
  cl : ∀ x ∈ fo, x ∉ wa → ∀ p ∈ ps, p.1 = x → p.2 ∈ fo
def freshL (ps : List (Int × Int)) (fo : List Int) (x : Int) : List Int := (ps.filter fun p => decide (p.1 = x) && !decide (p.2 ∈ fo)).map (·.2)
theorem mem_freshL {ps : List (Int × Int)} {fo : List Int} {x y : Int} : y ∈ freshL ps fo x ↔ (x, y) ∈ ps ∧ y ∉ fo := by
  unfold freshL
  simp only [List.mem_map, List.mem_filter, Bool.and_eq_true, decide_eq_true_eq, Bool.not_eq_true', decide_eq_false_iff_not]
  constructor
  · rintro ⟨⟨a, b⟩, ⟨h1, h2, h3⟩, rfl⟩
    simp at h2
    subst h2
    exact ⟨h1, h3⟩
  · rintro ⟨h1, h2⟩
    exact ⟨(x, y), ⟨h1, rfl, h2⟩, rfl⟩
theorem freshL_nodup {ps : List (Int × Int)} (hn : ps.Nodup) (fo : List Int) (x : Int) : (freshL ps fo x).Nodup := by
  unfold freshL
  show List.Pairwise _ _
  rw [List.pairwise_map]
  have h : (ps.filter fun p => decide (p.1 = x) && !decide (p.2 ∈ fo)).Nodup := hn.filter _
  refine List.Pairwise.imp_of_mem (fun {a b} ha hb hne e => hne ?_) h
  have h1 := (List.mem_filter.mp ha).2
  have h2 := (List.mem_filter.mp hb).2
  simp at h1 h2
  exact Prod.ext (h1.1.trans h2.1.symm) e
theorem rinv_0 {n : Nat} {ps : List (Int × Int)} {st : Int} (h : st ∈ things n) : RInv n ps st [st] [st] :=
  ⟨by simp, (fun x hx => by simp at hx; exact hx ▸ h), by simp, (fun x hx => by simp at hx; rw [hx]; exact .refl), (fun x hx => hx), (fun x hx hw => absurd hx hw)⟩
theorem rinv_step {n : Nat} {ps : List (Int × Int)} {st x : Int} {fo wa : List Int} (h : RInv n ps st fo (wa ++ [x])) (hn : ps.Nodup) (hr : ∀ p ∈ ps, p.2 ∈ things n) :
    RInv n ps st (fo ++ freshL ps fo x) (wa ++ freshL ps fo x) := by
  have hx : x ∈ fo := h.wf x (by simp)
  refine ⟨?_, ?_, ?_, ?_, ?_, ?_⟩
  · rw [List.nodup_append]
    refine ⟨h.nd, freshL_nodup hn fo x, ?_⟩
    intro a ha b hb e
    subst e
    exact (mem_freshL.mp hb).2 ha
  · intro y hy
    rcases List.mem_append.mp hy with q | q
    · exact h.th y q
    · exact hr _ (mem_freshL.mp q).1
  · exact List.mem_append_left _ h.ss
  · intro y hy
    rcases List.mem_append.mp hy with q | q
    · exact h.re y q
    · exact .tail (h.re x hx) (mem_freshL.mp q).1
  · intro y hy
    rcases List.mem_append.mp hy with q | q
    · exact List.mem_append_left _ (h.wf y (List.mem_append_left _ q))
    · exact List.mem_append_right _ q
  · intro y hy hw p hp e
    have hw1 : y ∉ wa := fun q => hw (List.mem_append_left _ q)
    have hw2 : y ∉ freshL ps fo x := fun q => hw (List.mem_append_right _ q)
    have hy' : y ∈ fo := by
      rcases List.mem_append.mp hy with q | q
      · exact q
      · exact absurd q hw2
    by_cases c : y = x
    · by_cases d : p.2 ∈ fo
      · exact List.mem_append_left _ d
      · refine List.mem_append_right _ (mem_freshL.mpr ⟨?_, d⟩)
        have : (x, p.2) = p := Prod.ext (by show x = p.1; rw [e, c]) rfl
        rw [this]; exact hp
    · refine List.mem_append_left _ (h.cl y hy' (fun q => ?_) p hp e)
      rcases List.mem_append.mp q with q | q
      · exact hw1 q
      · simp at q
        exact c q
theorem rinv_end {n : Nat} {ps : List (Int × Int)} {st : Int} {fo : List Int} (h : RInv n ps st fo []) (y : Int) : y ∈ fo ↔ Reach ps st y := by
  refine ⟨h.re y, fun r => ?_⟩
  induction r with
  | refl => exact h.ss
  | tail _ hp ih => exact h.cl _ ih (by simp) _ hp rfl
theorem rinv_len {n : Nat} {ps : List (Int × Int)} {st : Int} {fo wa : List Int} (h : RInv n ps st fo wa) : fo.length ≤ n := by
  have := nodup_le h.nd (m := things n) (fun x hx => h.th x hx)
  rw [things_len] at this
  exact this
/-- two rising lists with the same members -/
theorem rise_eq : ∀ {l m : List Int}, l.Pairwise (· < ·) → m.Pairwise (· < ·) → (∀ x, x ∈ l ↔ x ∈ m) → l = m
  | [], [], _, _, _ => rfl
  | [], y :: m, _, _, h => absurd ((h y).mpr (List.mem_cons_self ..)) (by simp)
  | x :: l, [], _, _, h => absurd ((h x).mp (List.mem_cons_self ..)) (by simp)
  | x :: l, y :: m, hl, hm, h => by
    have hl' := List.pairwise_cons.mp hl
    have hm' := List.pairwise_cons.mp hm
    have e : x = y := by
      have h1 := (h x).mp (List.mem_cons_self ..)
      have h2 := (h y).mpr (List.mem_cons_self ..)
      rcases List.mem_cons.mp h1 with q | q
      · exact q
      · rcases List.mem_cons.mp h2 with r | r
        · exact r.symm
        · have a := hm'.1 x q
          have b := hl'.1 y r
          omega
    subst e
    refine congrArg (x :: ·) (rise_eq hl'.2 hm'.2 fun z => ?_)
    constructor
    · intro hz
      rcases List.mem_cons.mp ((h z).mp (List.mem_cons_of_mem _ hz)) with q | q
      · have := hl'.1 z hz
        omega
      · exact q
    · intro hz
      rcases List.mem_cons.mp ((h z).mpr (List.mem_cons_of_mem _ hz)) with q | q
      · have := hm'.1 z hz
        omega
      · exact q
theorem things_rise (n : Nat) : (things n).Pairwise (· < ·) := by
  unfold things
  rw [List.pairwise_map]
  exact List.Pairwise.imp (fun h => by simpa using h) (List.pairwise_lt_range (n := n))
theorem le_nodup_lt {l : List Int} (h : l.Pairwise (· ≤ ·)) (n : l.Nodup) : l.Pairwise (· < ·) := by
  have : l.Pairwise (fun a b => a ≤ b ∧ a ≠ b) := List.Pairwise.and h n
  exact this.imp fun h => by omega
/-- earlier in the order -/
theorem topo_reach {n : Nat} {ps : List (Int × Int)} {o : List Int} (h : Topo n ps o) (hr : ∀ p ∈ ps, p.1 ∈ things n ∧ p.2 ∈ things n) {a b : Int} (r : Reach ps a b) (ha : a ∈ things n) :
    b ∈ things n ∧ (a ≠ b → ∀ i j : Nat, o[i]? = some a → o[j]? = some b → i < j) := by
  induction r with
  | refl => exact ⟨ha, fun q => absurd rfl q⟩
  | @tail b c _ hp ih =>
    refine ⟨(hr _ hp).2, fun _ i j hi hj => ?_⟩
    obtain ⟨k, hk⟩ := List.getElem?_of_mem ((h.mem b).mpr ih.1)
    have kj := h.at_ _ hp k j hk hj
    by_cases e : a = b
    · subst e
      have ik : i = k := by
        have hi' := List.getElem?_eq_some_iff.mp hi
        have hk' := List.getElem?_eq_some_iff.mp hk
        obtain ⟨hi1, hi2⟩ := hi'
        obtain ⟨hk1, hk2⟩ := hk'
        exact (List.getElem_inj h.nd).mp (hi2.trans hk2.symm)
      omega
    · have := ih.2 e i k hi hk
      omega
theorem acy_irr {ps : List (Int × Int)} (h : Acy ps) {a b : Int} (r1 : Reach ps a b) (r2 : Reach ps b a) : a = b := by
  obtain ⟨r, hr⟩ := h
  have le : ∀ {x y : Int}, Reach ps x y → x = y ∨ r x < r y := by
    intro x y q
    induction q with
    | refl => exact .inl rfl
    | tail _ hp ih =>
      have := hr _ hp
      simp at this
      rcases ih with e | l
      · right; rw [e]; exact this
      · right; omega
  rcases le r1 with e | l1
  · exact e
  · rcases le r2 with e | l2
    · exact e.symm
    · omega
end Tk

namespace Tk
open PySem PySem.Spec PyProof.Rows L2
/-- tuples that stand for the first k pairs -/
def TA (G : Hp) (acc : List V) (ps : List (Int × Int)) (k : Nat) : Prop :=
  acc.length = k ∧ ∀ (i : Nat) (x : V), acc[i]? = some x → ∃ (t : Addr) (z : Int × Int), x = V.ref t ∧ ps[i]? = some z ∧ G t = some (.tup [.int z.1, .int z.2])
theorem ta_0 (G : Hp) (ps : List (Int × Int)) : TA G [] ps 0 := ⟨rfl, fun i x h => by simp at h⟩
theorem ta_put {G : Hp} {acc : List V} {ps : List (Int × Int)} {k : Nat} {D v : Addr} {z : Int × Int} {o : List V} (h : TA G acc ps k) (hD : G D = some (.lst o)) (hv : G v = none) (hz : ps[k]? = some z) :
    TA (upd (upd G v (.tup [.int z.1, .int z.2])) D (.lst (acc ++ [.ref v]))) (acc ++ [.ref v]) ps (k + 1) := by
  obtain ⟨hl, ha⟩ := h
  have nvD : v ≠ D := fun e => by rw [e, hD] at hv; cases hv
  refine ⟨by simp [hl], fun m x hm => ?_⟩
  by_cases c : m < acc.length
  · rw [List.getElem?_append_left c] at hm
    obtain ⟨t, w, e1, e2, e3⟩ := ha m x hm
    have n1 : t ≠ v := fun e => by rw [e, hv] at e3; cases e3
    have n2 : t ≠ D := fun e => by rw [e, hD] at e3; cases e3
    exact ⟨t, w, e1, e2, by rw [upd_ne n2, upd_ne n1]; exact e3⟩
  · rw [List.getElem?_append_right (by omega)] at hm
    have m0 : m - acc.length = 0 := by
      cases e : m - acc.length with
      | zero => rfl
      | succ k => rw [e] at hm; simp at hm
    rw [m0] at hm
    simp at hm
    have em : m = k := by omega
    subst em
    exact ⟨v, z, hm.symm, hz, by rw [upd_ne nvD, upd_same]⟩
theorem ta_dps {K : PySem.W.Frag} {G : Hp} : ∀ {acc : List V} {ps : List (Int × Int)}, TA G acc ps ps.length → DpAll K G acc (ps.map dP) := by
  intro acc ps
  induction ps generalizing acc with
  | nil =>
    intro h
    have : acc = [] := List.length_eq_zero_iff.mp h.1
    subst this
    exact .nil
  | cons p ps ih =>
    intro h
    cases acc with
    | nil => have := h.1; simp at this
    | cons x acc =>
      obtain ⟨t, z, e1, e2, e3⟩ := h.2 0 x (by simp)
      simp at e2
      subst e2
      rw [e1]
      refine .cons (dP_mk (st_of e3)) (ih ⟨by have := h.1; simpa using this, fun i y hy => ?_⟩)
      obtain ⟨t', z', f1, f2, f3⟩ := h.2 (i + 1) y (by simpa using hy)
      exact ⟨t', z', f1, by simpa using f2, f3⟩
theorem ta_s {G G' : Hp} {acc : List V} {ps : List (Int × Int)} {k : Nat} (h : TA G acc ps k) (e : Same G G') : TA G' acc ps k :=
  ⟨h.1, fun i x hx => let ⟨t, z, a, b, c⟩ := h.2 i x hx; ⟨t, z, a, b, e _ _ c⟩⟩

/-- a list, new or not, of pairs -/
abbrev PM (K : PySem.W.Frag) (H : Hp) (a : Addr) (ps : List (Int × Int)) : Prop := ∃ xs, H a = some (.lst xs) ∧ DpAll K H xs (ps.map dP)
theorem pm_pl {K : PySem.W.Frag} {H : Hp} {a : Addr} {ps : List (Int × Int)} (h : PM K H a ps) : PL K H a ps := let ⟨xs, h1, h2⟩ := h; ⟨xs, sl_of h1, h2⟩
theorem pm_s {K : PySem.W.Frag} {H H' : Hp} {a : Addr} {ps : List (Int × Int)} (h : PM K H a ps) (e : Same H H') : PM K H' a ps := let ⟨xs, h1, h2⟩ := h; ⟨xs, e _ _ h1, dps_s h2 e⟩
def spReached (K : PySem.W.Frag) : Sp := fun vs H Q _ => ∃ (n : Nat) (a : Addr) (st : Int) (ps : List (Int × Int)), vs = [.ref a, .int st] ∧ PL K H a ps ∧ n ≤ 60 ∧ Prs n ps ∧ st ∈ things n ∧
  ∀ (H' : Hp) (p : Addr) (fo : List Int), Same H H' → H p = none → H' p = some (.lst (fo.map V.int)) → fo.Nodup → (∀ x ∈ fo, x ∈ things n) → (∀ y, y ∈ fo ↔ Reach ps st y) → Q (.ref p) H'
def spArr (K : PySem.W.Frag) (C : Addr) : Sp := fun vs H Q _ => ∃ (p : Addr) (n : Nat) (as ts : List (Int × Int)), vs = [.ref p] ∧ PlanAt K C H p n as ts ∧ ∀ H' l, Same H H' → H l = none → PM K H' l as → Q (.ref l) H'
def spChkPlan (C : Addr) : Sp := fun vs H Q _ => ∃ (p dx : Addr) (fs : List (Str × V)), vs = [.ref p] ∧ H p = some (.ins C dx fs) ∧ Q .non H
section
variable {P : Program} {w : World} {K : PySem.W.Frag} {mg : Str → Option Value} {base : Heap}
abbrev nReach : List Str := ["pairs", "start", "found", "waiting", "thing", "fresh", "here", "end"]
end
end Tk

/-! plain mathematics of lots -/
namespace Tk
def turnL (ps : List (Int × Int)) : List (Int × Int) := ps.map swp
def both (ps : List (Int × Int)) : List (Int × Int) := ps ++ turnL ps
def withinL (ps : List (Int × Int)) (lot : List Int) : List (Int × Int) := ps.filter fun p => decide (p.1 ∈ lot) && decide (p.2 ∈ lot)
theorem mem_turnL {ps : List (Int × Int)} {x y : Int} : (x, y) ∈ turnL ps ↔ (y, x) ∈ ps := by
  unfold turnL
  rw [List.mem_map]
  constructor
  · rintro ⟨⟨a, b⟩, h, e⟩
    have e1 : b = x := congrArg Prod.fst e
    have e2 : a = y := congrArg Prod.snd e
    rw [← e1, ← e2]; exact h
  · intro h
    exact ⟨(y, x), h, rfl⟩
theorem mem_both {ps : List (Int × Int)} {x y : Int} : (x, y) ∈ both ps ↔ (x, y) ∈ ps ∨ (y, x) ∈ ps := by
  unfold both
  rw [List.mem_append, mem_turnL]
theorem mem_withinL {ps : List (Int × Int)} {lot : List Int} {x y : Int} : (x, y) ∈ withinL ps lot ↔ (x, y) ∈ ps ∧ x ∈ lot ∧ y ∈ lot := by
  unfold withinL
  simp
theorem both_sym {ps : List (Int × Int)} {a b : Int} (h : Reach (both ps) a b) : Reach (both ps) b a := by
  induction h with
  | refl => exact .refl
  | tail _ hp ih => exact Reach.head (mem_both.mpr ((mem_both.mp hp).symm)) ih
/-- who leads to whom within a lot, turned about -/
def upIn (as : List (Int × Int)) (lot : List Int) : List (Int × Int) := turnL (withinL as lot)
theorem mem_upIn {as : List (Int × Int)} {lot : List Int} {x y : Int} : (x, y) ∈ upIn as lot ↔ (y, x) ∈ as ∧ y ∈ lot ∧ x ∈ lot := by
  unfold upIn
  rw [mem_turnL, mem_withinL]
theorem reach_in {ps : List (Int × Int)} {lot : List Int} {a b : Int} (h : Reach ps a b) (ha : a ∈ lot) (s : ∀ p ∈ ps, p.2 ∈ lot) : b ∈ lot := by
  cases h with
  | refl => exact ha
  | tail _ hp => exact s _ hp
theorem up_in {as : List (Int × Int)} {lot : List Int} {a b : Int} (h : Reach (upIn as lot) a b) (ha : a ∈ lot) : b ∈ lot :=
  reach_in h ha fun ⟨x, y⟩ hp => (mem_upIn.mp hp).2.1
/-- all of the lot lead to x within it -/
def IsHead (as : List (Int × Int)) (lot : List Int) (x : Int) : Prop := ∀ y ∈ lot, Reach (upIn as lot) x y
noncomputable def headB (as : List (Int × Int)) (lot : List Int) (x : Int) : Bool := @decide (IsHead as lot x) (Classical.propDecidable _)
theorem headB_iff {as : List (Int × Int)} {lot : List Int} {x : Int} : headB as lot x = true ↔ IsHead as lot x := by
  unfold headB
  exact @decide_eq_true_iff _ (Classical.propDecidable _)
noncomputable def headsL (as : List (Int × Int)) (lot : List Int) : List Int := lot.filter (headB as lot)
/-- a search from x that ended has as many as the lot just if all of the lot are met -/
theorem met_all {ps : List (Int × Int)} {lot fo : List Int} {x : Int} (nl : lot.Nodup) (nf : fo.Nodup) (hf : ∀ y, y ∈ fo ↔ Reach ps x y) (inn : ∀ y, Reach ps x y → y ∈ lot) : fo.length = lot.length ↔ ∀ y ∈ lot, Reach ps x y := by
  constructor
  · intro e y hy
    refine (hf y).mp (Classical.byContradiction fun c => ?_)
    have := nodup_le (l := y :: fo) (m := lot) (List.nodup_cons.mpr ⟨c, nf⟩) (fun z hz => by
      rcases List.mem_cons.mp hz with q | q
      · exact q ▸ hy
      · exact inn z ((hf z).mp q))
    rw [List.length_cons] at this
    omega
  · intro h
    exact nodup_eq nf nl fun y => ⟨fun hy => inn y ((hf y).mp hy), fun hy => (hf y).mpr (h y hy)⟩
theorem le_lt {l : List Int} (h : l.Pairwise (· ≤ ·)) (n : l.Nodup) : l.Pairwise (· < ·) := by
  induction l with
  | nil => exact .nil
  | cons x l ih =>
    have h1 := List.pairwise_cons.mp h
    have n1 := List.nodup_cons.mp n
    refine List.pairwise_cons.mpr ⟨fun y hy => ?_, ih h1.2 n1.2⟩
    have a := h1.1 y hy
    have b : x ≠ y := fun e => n1.1 (e ▸ hy)
    omega
theorem lt_nd {l : List Int} (h : l.Pairwise (· < ·)) : l.Nodup := List.Pairwise.imp (fun {a b} c e => by omega) h
/-- sorted, it is the lot just if all of the lot are met -/
theorem met_sorted {ps : List (Int × Int)} {lot fo ns : List Int} {x : Int} (rl : lot.Pairwise (· < ·)) (nf : fo.Nodup) (hf : ∀ y, y ∈ fo ↔ Reach ps x y) (inn : ∀ y, Reach ps x y → y ∈ lot) (pm : ns.Perm fo) (so : ns.Pairwise (· ≤ ·)) : ns = lot ↔ ∀ y ∈ lot, Reach ps x y := by
  constructor
  · rintro rfl y hy
    exact (hf y).mp (pm.mem_iff.mp hy)
  · intro h
    refine rise_eq (le_lt so (pm.nodup_iff.mpr nf)) rl fun y => ?_
    rw [pm.mem_iff, hf]
    exact ⟨inn y, h y⟩
theorem reach_iff {ps qs : List (Int × Int)} {lot : List Int} {a b : Int} (ha : a ∈ lot) (sp : ∀ x y, x ∈ lot → ((x, y) ∈ ps ↔ (x, y) ∈ qs)) (inn : ∀ p ∈ qs, p.2 ∈ lot) : Reach ps a b ↔ Reach qs a b := by
  constructor
  · intro h
    induction h with
    | refl => exact .refl
    | tail _ hp ih => exact .tail ih ((sp _ _ (reach_in ih ha inn)).mp hp)
  · intro h
    induction h with
    | refl => exact .refl
    | tail g hp ih => exact .tail ih ((sp _ _ (reach_in g ha inn)).mpr hp)
/-- the law's pairs: from each to what leads to it and lies in the lot -/
def upLaw (as : List (Int × Int)) (lot : List Int) : List (Int × Int) := turnL (as.filter fun p => decide (p.1 ∈ lot))
theorem mem_upLaw {as : List (Int × Int)} {lot : List Int} {x y : Int} : (x, y) ∈ upLaw as lot ↔ (y, x) ∈ as ∧ y ∈ lot := by
  unfold upLaw
  rw [mem_turnL]
  simp
theorem up_law {as : List (Int × Int)} {lot : List Int} {a b : Int} (ha : a ∈ lot) : Reach (upLaw as lot) a b ↔ Reach (upIn as lot) a b :=
  reach_iff ha (fun x y hx => by rw [mem_upLaw, mem_upIn]; exact ⟨fun h => ⟨h.1, h.2, hx⟩, fun h => ⟨h.1, h.2.1⟩⟩) fun ⟨x, y⟩ hp => (mem_upIn.mp hp).2.1
def tieIn (ts : List (Int × Int)) (lot : List Int) : List (Int × Int) := both (withinL ts lot)
theorem mem_tieIn {ts : List (Int × Int)} {lot : List Int} {x y : Int} : (x, y) ∈ tieIn ts lot ↔ ((x, y) ∈ ts ∨ (y, x) ∈ ts) ∧ x ∈ lot ∧ y ∈ lot := by
  unfold tieIn
  rw [mem_both, mem_withinL, mem_withinL]
  constructor
  · rintro (h | h)
    · exact ⟨.inl h.1, h.2⟩
    · exact ⟨.inr h.1, h.2.2, h.2.1⟩
  · rintro ⟨h | h, hx, hy⟩
    · exact .inl ⟨h, hx, hy⟩
    · exact .inr ⟨h, hy, hx⟩
theorem tie_in {ts : List (Int × Int)} {lot : List Int} {a b : Int} (h : Reach (tieIn ts lot) a b) (ha : a ∈ lot) : b ∈ lot := reach_in h ha fun ⟨x, y⟩ hp => (mem_tieIn.mp hp).2.2
def tieLaw (ts : List (Int × Int)) (lot : List Int) : List (Int × Int) := (both ts).filter fun p => decide (p.2 ∈ lot)
theorem mem_tieLaw {ts : List (Int × Int)} {lot : List Int} {x y : Int} : (x, y) ∈ tieLaw ts lot ↔ ((x, y) ∈ ts ∨ (y, x) ∈ ts) ∧ y ∈ lot := by
  unfold tieLaw
  rw [List.mem_filter, mem_both]
  simp
theorem tie_law {ts : List (Int × Int)} {lot : List Int} {a b : Int} (ha : a ∈ lot) : Reach (tieLaw ts lot) a b ↔ Reach (tieIn ts lot) a b :=
  reach_iff ha (fun x y hx => by rw [mem_tieLaw, mem_tieIn]; exact ⟨fun h => ⟨h.1, hx, h.2⟩, fun h => ⟨h.1, h.2.2⟩⟩) fun ⟨x, y⟩ hp => (mem_tieIn.mp hp).2.2
def HangsP (ts : List (Int × Int)) : List Int → Prop
  | [] => True
  | x :: l => ∀ y ∈ x :: l, Reach (tieIn ts (x :: l)) x y
noncomputable def hangB (ts : List (Int × Int)) (lot : List Int) : Bool := @decide (HangsP ts lot) (Classical.propDecidable _)
theorem hangB_iff {ts : List (Int × Int)} {lot : List Int} : hangB ts lot = true ↔ HangsP ts lot := by
  unfold hangB
  exact @decide_eq_true_iff _ (Classical.propDecidable _)
/-- two heads of one lot are one -/
theorem up_rank {as : List (Int × Int)} {lot : List Int} {r : Int → Nat} (hr : ∀ p ∈ as, r p.1 < r p.2) {a b : Int} (h : Reach (upIn as lot) a b) : a = b ∨ r b < r a := by
  induction h with
  | refl => exact .inl rfl
  | tail _ hp ih =>
    have := hr _ (mem_upIn.mp hp).1
    rcases ih with e | e
    · subst e; exact .inr this
    · exact .inr (Nat.lt_trans this e)
theorem head_one {as : List (Int × Int)} {lot : List Int} (ac : Acy as) {x y : Int} (hx : x ∈ lot) (hy : y ∈ lot) (h1 : IsHead as lot x) (h2 : IsHead as lot y) : x = y := by
  obtain ⟨r, hr⟩ := ac
  rcases up_rank hr (h1 y hy) with e | e
  · exact e
  · rcases up_rank hr (h2 x hx) with e2 | e2
    · exact e2.symm
    · omega
theorem filter_one {l : List Int} {f : Int → Bool} (nd : l.Nodup) (h : ∀ x ∈ l, ∀ y ∈ l, f x = true → f y = true → x = y) : (l.filter f).length ≤ 1 := by
  have n := nd.filter f
  cases e : l.filter f with
  | nil => simp
  | cons a t =>
    cases t with
    | nil => simp
    | cons b t =>
      rw [e] at n
      have ha : a ∈ l.filter f := by rw [e]; simp
      have hb : b ∈ l.filter f := by rw [e]; simp
      have := h a (List.mem_filter.mp ha).1 b (List.mem_filter.mp hb).1 (List.mem_filter.mp ha).2 (List.mem_filter.mp hb).2
      exact absurd this (by have := (List.nodup_cons.mp n).1; simp at this; exact this.1)
theorem heads_one {as : List (Int × Int)} {lot : List Int} (ac : Acy as) (nd : lot.Nodup) : (headsL as lot).length ≤ 1 :=
  filter_one nd fun _ hx _ hy h1 h2 => head_one ac hx hy (headB_iff.mp h1) (headB_iff.mp h2)
/-- the first of a list for which f holds -/
def firstOf (f : Int → Bool) (l : List Int) : Option Int := (l.filter f).head?
/-! searches with a place behind which all is done -/
structure LInv (n : Nat) (ps : List (Int × Int)) (st : Int) (fo : List Int) (k : Nat) : Prop where
  nd : fo.Nodup
  th : ∀ x ∈ fo, x ∈ things n
  ss : st ∈ fo
  re : ∀ x ∈ fo, Reach ps st x
  cl : ∀ (i : Nat) (x : Int), i < k → fo[i]? = some x → ∀ p ∈ ps, p.1 = x → p.2 ∈ fo
  kl : k ≤ fo.length
theorem linv_0 {n : Nat} {ps : List (Int × Int)} {st : Int} (h : st ∈ things n) : LInv n ps st [st] 0 :=
  ⟨by simp, (fun x hx => by simp at hx; exact hx ▸ h), by simp, (fun x hx => by simp at hx; rw [hx]; exact .refl), (fun i x hi => by omega), by simp⟩
theorem linv_len {n : Nat} {ps : List (Int × Int)} {st : Int} {fo : List Int} {k : Nat} (h : LInv n ps st fo k) : fo.length ≤ n := by
  have := nodup_le h.nd (m := things n) (fun x hx => h.th x hx)
  rw [things_len] at this
  exact this
theorem linv_more {n : Nat} {ps : List (Int × Int)} {st x : Int} {fo fr : List Int} {k : Nat} (h : LInv n ps st fo k) (hx : fo[k]? = some x) (nd : fr.Nodup) (hr : ∀ p ∈ ps, p.2 ∈ things n) (hf : ∀ y, y ∈ fr ↔ (x, y) ∈ ps ∧ y ∉ fo) : LInv n ps st (fo ++ fr) (k + 1) := by
  have xm : x ∈ fo := List.mem_of_getElem? hx
  have kl : k < fo.length := (List.getElem?_eq_some_iff.mp hx).1
  refine ⟨?_, ?_, List.mem_append_left _ h.ss, ?_, ?_, ?_⟩
  · rw [List.nodup_append]
    exact ⟨h.nd, nd, fun a ha b hb e => ((hf b).mp hb).2 (e ▸ ha)⟩
  · intro y hy
    rcases List.mem_append.mp hy with q | q
    · exact h.th y q
    · exact hr _ ((hf y).mp q).1
  · intro y hy
    rcases List.mem_append.mp hy with q | q
    · exact h.re y q
    · exact .tail (h.re x xm) ((hf y).mp q).1
  · intro i y hi hy p hp e
    rw [List.getElem?_append_left (by omega)] at hy
    by_cases c : i = k
    · subst c
      rw [hx] at hy
      have exy : x = y := Option.some.inj hy
      by_cases d : p.2 ∈ fo
      · exact List.mem_append_left _ d
      · refine List.mem_append_right _ ((hf p.2).mpr ⟨?_, d⟩)
        have : (x, p.2) = p := Prod.ext (by show x = p.1; rw [e, exy]) rfl
        rw [this]; exact hp
    · exact List.mem_append_left _ (h.cl i y (by omega) hy p hp e)
  · rw [List.length_append]; omega
theorem linv_end {n : Nat} {ps : List (Int × Int)} {st : Int} {fo : List Int} {k : Nat} (h : LInv n ps st fo k) (hk : ¬ k < fo.length) (y : Int) : y ∈ fo ↔ Reach ps st y := by
  refine ⟨h.re y, fun r => ?_⟩
  induction r with
  | refl => exact h.ss
  | tail _ hp ih =>
    obtain ⟨i, hi⟩ := List.getElem?_of_mem ih
    have : i < fo.length := (List.getElem?_eq_some_iff.mp hi).1
    exact h.cl i _ (by omega) hi _ hp rfl
/-- the same, one by one: what is put while the ends of x are gone through -/
structure HInv (n : Nat) (ps : List (Int × Int)) (st x : Int) (fo0 fo : List Int) (dn : List (Int × Int)) : Prop where
  pre : fo0 <+: fo
  nd : fo.Nodup
  th : ∀ y ∈ fo, y ∈ things n
  re : ∀ y ∈ fo, Reach ps st y
  cl : ∀ p ∈ dn, p.1 = x → p.2 ∈ fo
theorem hinv_0 {n : Nat} {ps : List (Int × Int)} {st x : Int} {fo : List Int} {k : Nat} (h : LInv n ps st fo k) : HInv n ps st x fo fo [] := ⟨List.prefix_refl _, h.nd, h.th, h.re, fun _ hp => nomatch hp⟩
theorem hinv_put {n : Nat} {ps : List (Int × Int)} {st x y : Int} {fo0 fo : List Int} {dn : List (Int × Int)} (h : HInv n ps st x fo0 fo dn) (hx : Reach ps st x) (hp : (x, y) ∈ ps) (hy : y ∈ things n) (nf : y ∉ fo) : HInv n ps st x fo0 (fo ++ [y]) (dn ++ [(x, y)]) := by
  refine ⟨h.pre.trans (List.prefix_append _ _), ?_, ?_, ?_, ?_⟩
  · rw [List.nodup_append]
    exact ⟨h.nd, by simp, fun a ha b hb e => nf (by rw [← List.mem_singleton.mp hb, ← e]; exact ha)⟩
  · intro z hz
    rcases List.mem_append.mp hz with q | q
    · exact h.th z q
    · rw [List.mem_singleton.mp q]; exact hy
  · intro z hz
    rcases List.mem_append.mp hz with q | q
    · exact h.re z q
    · rw [List.mem_singleton.mp q]; exact .tail hx hp
  · intro p hp' e
    rcases List.mem_append.mp hp' with q | q
    · exact List.mem_append_left _ (h.cl p q e)
    · rw [List.mem_singleton.mp q]; simp
theorem hinv_no {n : Nat} {ps : List (Int × Int)} {st x : Int} {fo0 fo : List Int} {dn : List (Int × Int)} (h : HInv n ps st x fo0 fo dn) {p : Int × Int} (c : p.1 = x → p.2 ∈ fo) : HInv n ps st x fo0 fo (dn ++ [p]) :=
  ⟨h.pre, h.nd, h.th, h.re, fun q hq e => by
    rcases List.mem_append.mp hq with z | z
    · exact h.cl q z e
    · rw [List.mem_singleton.mp z] at e ⊢; exact c e⟩
theorem pre_at {fo0 fo : List Int} (h : fo0 <+: fo) {i : Nat} {x : Int} (e : fo0[i]? = some x) : fo[i]? = some x := by
  obtain ⟨t, rfl⟩ := h
  rw [List.getElem?_append_left (List.getElem?_eq_some_iff.mp e).1]
  exact e
theorem hinv_end {n : Nat} {ps : List (Int × Int)} {st x : Int} {fo0 fo : List Int} {dn : List (Int × Int)} {k : Nat} (h0 : LInv n ps st fo0 k) (hx : fo0[k]? = some x) (h : HInv n ps st x fo0 fo dn) (full : ∀ p ∈ ps, p.1 = x → p ∈ dn) : LInv n ps st fo (k + 1) := by
  have kl : k < fo0.length := (List.getElem?_eq_some_iff.mp hx).1
  refine ⟨h.nd, h.th, h.pre.subset h0.ss, h.re, ?_, Nat.le_trans kl h.pre.length_le⟩
  intro i y hi hy p hp e
  by_cases c : i = k
  · subst c
    rw [pre_at h.pre hx] at hy
    have exy : x = y := Option.some.inj hy
    exact h.cl p (full p hp (by rw [e, exy])) (by rw [e, exy])
  · have hi0 : i < fo0.length := by omega
    have e0 : fo0[i]? = some fo0[i] := List.getElem?_eq_getElem hi0
    rw [pre_at h.pre e0] at hy
    exact h.pre.subset (h0.cl i y (by omega) (by rw [e0]; exact hy) p hp e)
/-! all lots -/
def Lot (n : Nat) (l : List Int) : Prop := l.Pairwise (· < ·) ∧ ∀ x ∈ l, x ∈ things n
def allLots : Nat → List (List Int)
  | 0 => [[]]
  | k + 1 => allLots k ++ (allLots k).map (· ++ [Int.ofNat k])
theorem allLots_len : ∀ n, (allLots n).length = 2 ^ n
  | 0 => rfl
  | k + 1 => by
    unfold allLots
    rw [List.length_append, List.length_map, allLots_len k, Nat.pow_succ]
    omega
theorem lot_up {k : Nat} {l : List Int} (h : Lot k l) : Lot (k + 1) l := ⟨h.1, fun x hx => by
  have := mem_things.mp (h.2 x hx)
  exact mem_things.mpr ⟨this.1, by omega⟩⟩
theorem lot_put {k : Nat} {l : List Int} (h : Lot k l) : Lot (k + 1) (l ++ [Int.ofNat k]) := by
  refine ⟨List.pairwise_append.mpr ⟨h.1, by simp, fun a ha b hb => ?_⟩, fun x hx => ?_⟩
  · rw [List.mem_singleton.mp hb]
    exact (mem_things.mp (h.2 a ha)).2
  · rcases List.mem_append.mp hx with q | q
    · exact (lot_up h).2 x q
    · rw [List.mem_singleton.mp q]
      exact mem_things.mpr ⟨Int.ofNat_nonneg k, by show (k : Int) < ((k + 1 : Nat) : Int); omega⟩
theorem allLots_lot : ∀ {n : Nat} {l : List Int}, l ∈ allLots n → Lot n l
  | 0, l, h => by
    unfold allLots at h
    rw [List.mem_singleton.mp h]
    exact ⟨.nil, fun _ hx => nomatch hx⟩
  | k + 1, l, h => by
    unfold allLots at h
    rcases List.mem_append.mp h with q | q
    · exact lot_up (allLots_lot q)
    · obtain ⟨m, hm, rfl⟩ := List.mem_map.mp q
      exact lot_put (allLots_lot hm)
theorem lot_allLots : ∀ {n : Nat} {l : List Int}, Lot n l → l ∈ allLots n
  | 0, l, h => by
    cases l with
    | nil => exact List.mem_singleton.mpr rfl
    | cons x l =>
      have := mem_things.mp (h.2 x (List.mem_cons_self ..))
      omega
  | k + 1, l, h => by
    unfold allLots
    rcases List.eq_nil_or_concat l with rfl | ⟨m, x, rfl⟩
    · exact List.mem_append_left _ (lot_allLots ⟨.nil, fun _ hx => nomatch hx⟩)
    · rw [List.concat_eq_append] at h ⊢
      obtain ⟨a, b, c⟩ := List.pairwise_append.mp h.1
      have hx := mem_things.mp (h.2 x (by simp))
      have hm : ∀ y ∈ m, y ∈ things k := fun y hy => by
        have h1 := mem_things.mp (h.2 y (List.mem_append_left _ hy))
        have h2 := c y hy x (by simp)
        exact mem_things.mpr ⟨h1.1, by omega⟩
      by_cases e : x = Int.ofNat k
      · refine List.mem_append_right _ (List.mem_map.mpr ⟨m, lot_allLots ⟨a, hm⟩, by rw [e]⟩)
      · refine List.mem_append_left _ (lot_allLots ⟨h.1, fun y hy => ?_⟩)
        rcases List.mem_append.mp hy with q | q
        · exact hm y q
        · rw [List.mem_singleton.mp q]
          have e' : ¬ x = (k : Int) := e
          exact mem_things.mpr ⟨hx.1, by omega⟩
theorem mem_allLots {n : Nat} {l : List Int} : l ∈ allLots n ↔ Lot n l := ⟨allLots_lot, lot_allLots⟩
theorem lot_len {n : Nat} {l : List Int} (h : Lot n l) : l.length ≤ n := by
  have := nodup_le (lt_nd h.1) (m := things n) h.2
  rw [things_len] at this
  exact this
end Tk

namespace Tk
open PySem PySem.Spec PyProof.Rows L2
theorem units65 {k : Nat} {A : Around} (r : Room k A) : A.units + 65 < cLine := by have := r.un; omega
/-! lists of lists -/
def LsAt (G : Hp) : List V → List (List Int) → Prop
  | [], [] => True
  | x :: xs, o :: os => (∃ r : Addr, x = .ref r ∧ G r = some (.lst (o.map V.int))) ∧ LsAt G xs os
  | _, _ => False
theorem ls_s {G G' : Hp} (e : Same G G') : ∀ {xs : List V} {os : List (List Int)}, LsAt G xs os → LsAt G' xs os
  | [], [], _ => trivial
  | x :: xs, o :: os, ⟨⟨r, h1, h2⟩, h3⟩ => ⟨⟨r, h1, e _ _ h2⟩, ls_s e h3⟩
  | [], _ :: _, h => h.elim
  | _ :: _, [], h => h.elim
theorem ls_app {G : Hp} : ∀ {xs ys : List V} {os ps : List (List Int)}, LsAt G xs os → LsAt G ys ps → LsAt G (xs ++ ys) (os ++ ps)
  | [], _, [], _, _, h => h
  | x :: xs, _, o :: os, _, ⟨h1, h2⟩, h => ⟨h1, ls_app h2 h⟩
  | [], _, _ :: _, _, h, _ => h.elim
  | _ :: _, _, [], _, h, _ => h.elim
theorem ls_len {G : Hp} : ∀ {xs : List V} {os : List (List Int)}, LsAt G xs os → xs.length = os.length
  | [], [], _ => rfl
  | x :: xs, o :: os, ⟨_, h2⟩ => by simp [ls_len h2]
  | [], _ :: _, h => h.elim
  | _ :: _, [], h => h.elim
theorem ls_at {G : Hp} : ∀ {xs : List V} {os : List (List Int)}, LsAt G xs os → ∀ {i : Nat} {x : V}, xs[i]? = some x → ∃ (o : List Int) (r : Addr), os[i]? = some o ∧ x = .ref r ∧ G r = some (.lst (o.map V.int))
  | [], [], _, _, _, h => by simp at h
  | x :: xs, o :: os, ⟨⟨r, h1, h2⟩, h3⟩, i, y, h => by
    cases i with
    | zero => simp at h; subst h; exact ⟨o, r, by simp, h1, h2⟩
    | succ i => simp at h; simpa using ls_at h3 h
  | [], _ :: _, h, _, _, _ => h.elim
  | _ :: _, [], h, _, _, _ => h.elim
theorem ls_mut {G : Hp} {D : Addr} {u : HO} : ∀ {xs : List V} {os : List (List Int)}, LsAt G xs os → (∀ x ∈ xs, x ≠ .ref D) → LsAt (upd G D u) xs os
  | [], [], _, _ => trivial
  | x :: xs, o :: os, ⟨⟨r, h1, h2⟩, h3⟩, n => ⟨⟨r, h1, by
      have : r ≠ D := fun e => n x (List.mem_cons_self ..) (by rw [h1, e])
      rw [upd_ne this]; exact h2⟩, ls_mut h3 fun y hy => n y (List.mem_cons_of_mem _ hy)⟩
  | [], _ :: _, h, _ => h.elim
  | _ :: _, [], h, _ => h.elim
theorem ls_dp {K : PySem.W.Frag} {G : Hp} : ∀ {xs : List V} {os : List (List Int)}, LsAt G xs os → DpAll K G xs (os.map fun o => PyData.list (o.map .int))
  | [], [], _ => .nil
  | x :: xs, o :: os, ⟨⟨r, h1, h2⟩, h3⟩ => by
    rw [h1]
    exact .cons (.lst (sl_of h2) (dps_ints o)) (ls_dp h3)
  | [], _ :: _, h => h.elim
  | _ :: _, [], h => h.elim
/-- the lists stand at places that are new -/
def FreshL (H : Hp) (xs : List V) : Prop := xs.Nodup ∧ ∀ x ∈ xs, ∃ r : Addr, x = .ref r ∧ H r = none
theorem things_succ (k : Nat) : things (k + 1) = things k ++ [Int.ofNat k] := by
  unfold things
  rw [List.range_succ, List.map_append]; rfl
theorem any_pairs {x y : Int} : ∀ {ps : List (Int × Int)}, ((ps.map dP).any fun z => PyData.eqv z (dP (x, y))) = decide ((x, y) ∈ ps)
  | [] => by simp
  | p :: ps => by
    have ih := any_pairs (x := x) (y := y) (ps := ps)
    rw [List.map_cons, List.any_cons, ih]
    have e : PyData.eqv (dP p) (dP (x, y)) = decide ((x, y) = p) := by
      obtain ⟨u, v⟩ := p
      simp [dP, PyData.eqv, PyData.eqvAll]
      by_cases c1 : u = x
      · subst c1
        by_cases c2 : v = y
        · subst c2; simp
        · have : ¬ y = v := fun e => c2 e.symm
          simp [c2, this]
      · have : ¬ x = u := fun e => c1 e.symm
        simp [c1, this]
    rw [e]
    simp [List.mem_cons]
theorem shaped_pair (p : Int × Int) : SeqAt.shaped (dP p) = true := by
  simp [SeqAt.shaped, dP, PyData.canLay0, PyData.canLayAll0, PyData.depth, PyData.depthAll]
theorem plain_pairs : ∀ ps : List (Int × Int), PyData.canLayAll0 (ps.map dP) = true
  | [] => rfl
  | p :: ps => by
    show (PyData.canLay0 (dP p) && PyData.canLayAll0 (ps.map dP)) = true
    rw [plain_pairs ps]; rfl
theorem depth_pairs : ∀ ps : List (Int × Int), PyData.depthAll (ps.map dP) ≤ 3
  | [] => by simp [PyData.depthAll]
  | p :: ps => by
    have h := depth_pairs ps
    have h2 : PyData.depth (dP p) ≤ 3 := by simp [dP, PyData.depth, PyData.depthAll]
    simp only [List.map_cons, PyData.depthAll]
    omega
theorem shaped_pairs (ps : List (Int × Int)) : SeqAt.shaped (.list (ps.map dP)) = true := by
  unfold SeqAt.shaped
  rw [Bool.and_eq_true_iff]
  refine ⟨by rw [PyData.canLay0]; exact plain_pairs ps, decide_eq_true ?_⟩
  have := depth_pairs ps
  rw [PyData.depth]
  omega
theorem prs_mk {n : Nat} {ps : List (Int × Int)} (n6 : n ≤ 6) (nd : ps.Nodup) (h : ∀ p ∈ ps, 0 ≤ p.1 ∧ p.1 < n ∧ 0 ≤ p.2 ∧ p.2 < n ∧ p.1 ≠ p.2) : Prs n ps := by
  refine ⟨nd, ?_, h⟩
  have h1 := nodup_le nd (m := (things n).flatMap fun x => (things n).map fun y => (x, y)) (fun p hp => by
    obtain ⟨a, b, c, d, _⟩ := h p hp
    exact List.mem_flatMap.mpr ⟨p.1, mem_things.mpr ⟨a, b⟩, List.mem_map.mpr ⟨p.2, mem_things.mpr ⟨c, d⟩, rfl⟩⟩)
  have h2 : ∀ l : List Int, (l.flatMap fun x => (things n).map fun y => (x, y)).length = l.length * n := by
    intro l
    induction l with
    | nil => simp
    | cons x l ih =>
      rw [List.flatMap_cons, List.length_append, ih, List.length_map, things_len, List.length_cons, Nat.succ_mul]
      omega
  rw [h2, things_len] at h1
  have h3 : n * n ≤ 6 * 6 := Nat.mul_le_mul n6 n6
  omega
theorem prs_both {n : Nat} {ts : List (Int × Int)} (n6 : n ≤ 6) (h : Prs n ts) (lt : ∀ p ∈ ts, p.1 < p.2) : Prs n (both ts) := by
  refine prs_mk n6 ?_ ?_
  · unfold both
    rw [List.nodup_append]
    refine ⟨h.1, ?_, ?_⟩
    · unfold turnL
      show List.Pairwise _ _
      rw [List.pairwise_map]
      refine List.Pairwise.imp (fun {a b} hne e => hne ?_) h.1
      have e' := congrArg swp e
      exact e'
    · intro a ha b hb e
      obtain ⟨c, hc, rfl⟩ := List.mem_map.mp hb
      subst e
      have h1 := lt _ ha
      have h2 := lt _ hc
      simp [swp] at h1
      omega
  · intro p hp
    rcases mem_both.mp hp with c | c
    · exact h.2.2 p c
    · obtain ⟨a1, a2, a3, a4, a5⟩ := h.2.2 _ c
      exact ⟨a3, a4, a1, a2, fun e => a5 e.symm⟩
def spTies (K : PySem.W.Frag) (C : Addr) : Sp := fun vs H Q _ => ∃ (p : Addr) (n : Nat) (as ts : List (Int × Int)), vs = [.ref p] ∧ PlanAt K C H p n as ts ∧ ∀ H' l, Same H H' → H l = none → PM K H' l ts → Q (.ref l) H'
section
variable {P : Program} {w : World} {K : PySem.W.Frag} {mg : Str → Option Value} {base : Heap}
end
end Tk

namespace Tk
open PySem PySem.Spec PyProof.Rows L2
theorem prs_sub {n : Int} {ps qs : List (Int × Int)} (h : Prs n ps) (s : qs.Sublist ps) : Prs n qs := ⟨h.1.sublist s, Nat.lt_of_le_of_lt s.length_le h.2.1, fun p hp => h.2.2 p (s.subset hp)⟩
theorem prs_turn {n : Int} {ps : List (Int × Int)} (h : Prs n ps) : Prs n (turnL ps) := by
  refine ⟨?_, by unfold turnL; rw [List.length_map]; exact h.2.1, fun p hp => ?_⟩
  · unfold turnL
    show List.Pairwise _ _
    rw [List.pairwise_map]
    refine List.Pairwise.imp (fun {a b} hne e => hne ?_) h.1
    have e' := congrArg swp e
    exact e'
  · obtain ⟨q, hq, rfl⟩ := List.mem_map.mp hp
    obtain ⟨a1, a2, a3, a4, a5⟩ := h.2.2 q hq
    exact ⟨a3, a4, a1, a2, fun e => a5 e.symm⟩
/-- ints read off values, where all are ints -/
def EachV (K : PySem.W.Frag) (H : Hp) : List V → List (Option Int) → Prop
  | [], [] => True
  | x :: xs, o :: os => IntV K H x o ∧ EachV K H xs os
  | _, _ => False
theorem each_len {K : PySem.W.Frag} {H : Hp} : ∀ {xs : List V} {os : List (Option Int)}, EachV K H xs os → xs.length = os.length
  | [], [], _ => rfl
  | x :: xs, o :: os, ⟨_, h⟩ => by simp [each_len h]
  | [], _ :: _, h => h.elim
  | _ :: _, [], h => h.elim
theorem each_at {K : PySem.W.Frag} {H : Hp} : ∀ {xs : List V} {os : List (Option Int)}, EachV K H xs os → ∀ {i : Nat} {x : V}, xs[i]? = some x → ∃ o, os[i]? = some o ∧ IntV K H x o
  | [], [], _, _, _, h => by simp at h
  | x :: xs, o :: os, ⟨h1, h2⟩, i, y, h => by
    cases i with
    | zero => simp at h; subst h; exact ⟨o, by simp, h1⟩
    | succ i => simp at h; simpa using each_at h2 h
  | [], _ :: _, h, _, _, _ => h.elim
  | _ :: _, [], h, _, _, _ => h.elim
theorem each_s {K : PySem.W.Frag} {H H' : Hp} (e : Same H H') : ∀ {xs : List V} {os : List (Option Int)}, EachV K H xs os → EachV K H' xs os
  | [], [], _ => trivial
  | x :: xs, o :: os, ⟨h1, h2⟩ => ⟨intv_s h1 e, each_s e h2⟩
  | [], _ :: _, h => h.elim
  | _ :: _, [], h => h.elim
theorem each_ints {K : PySem.W.Frag} {H : Hp} : ∀ (l : List Int), EachV K H (l.map V.int) (l.map some)
  | [] => trivial
  | x :: l => ⟨.int x, each_ints l⟩
theorem each_some {K : PySem.W.Frag} {H : Hp} : ∀ {xs : List V} {os : List (Option Int)}, EachV K H xs os → (∀ o ∈ os, o.isSome = true) → ∃ l : List Int, xs = l.map V.int ∧ os = l.map some
  | [], [], _, _ => ⟨[], rfl, rfl⟩
  | x :: xs, o :: os, ⟨h1, h2⟩, h => by
    obtain ⟨l, rfl, rfl⟩ := each_some h2 fun z hz => h z (List.mem_cons_of_mem _ hz)
    have ho := h o (List.mem_cons_self ..)
    cases h1 with
    | int i => exact ⟨i :: l, rfl, rfl⟩
    | bl b => cases ho
    | oth h k => cases ho
  | [], _ :: _, h, _ => h.elim
  | _ :: _, [], h, _ => h.elim
theorem some_inj : ∀ {l m : List Int}, l.map some = m.map some → l = m
  | [], [], _ => rfl
  | [], _ :: _, h => nomatch h
  | _ :: _, [], h => nomatch h
  | a :: l, b :: m, h => by
    have h1 := List.cons.inj h
    rw [Option.some.inj h1.1, some_inj h1.2]
/-- what is asked of a value that may be a lot: what it is, and a bound on its length -/
inductive LotV (K : PySem.W.Frag) (H : Hp) : V → Option (List (Option Int)) → Prop
  | sq {a : Addr} {xs : List V} {os : List (Option Int)} (h : SqA K H a xs) (e : EachV K H xs os) (few : xs.length < 60) : LotV K H (.ref a) (some os)
  | no {v : V} (h : SqV K H v none) : LotV K H v none
theorem lotv_s {K : PySem.W.Frag} {H H' : Hp} {v : V} {o : Option (List (Option Int))} (h : LotV K H v o) (e : Same H H') : LotV K H' v o := by
  cases h with
  | sq h g few => exact .sq (same_a e h) (each_s e g) few
  | no h => exact .no (sqv_s h e)
theorem lotv_lot {K : PySem.W.Frag} {H : Hp} {a : Addr} {l : List Int} (h : SqA K H a (l.map V.int)) (few : l.length < 60) : LotV K H (.ref a) (some (l.map some)) := .sq h (each_ints l) (by rw [List.length_map]; exact few)
/-- unlike things -/
def ThingsO (n : Nat) (o : Option (List (Option Int))) (l : List Int) : Prop := o = some (l.map some) ∧ l.Nodup ∧ ∀ x ∈ l, x ∈ things n
def spAreThings (K : PySem.W.Frag) : Sp := fun vs H Q _ => ∃ (n : Nat) (v : V) (o : Option (List (Option Int))), vs = [.int n, v] ∧ LotV K H v o ∧ ∀ (H' : Hp) (b : Bool), Same H H' → (b = true ↔ ∃ l, ThingsO n o l) → Q (.bl b) H'
/-- a lot -/
def LotO (n : Nat) (o : Option (List (Option Int))) (l : List Int) : Prop := o = some (l.map some) ∧ Lot n l
def spIsRising (K : PySem.W.Frag) : Sp := fun vs H Q _ => ∃ (n : Nat) (v : V) (o : Option (List (Option Int))), vs = [.int n, v] ∧ n ≤ 6 ∧ LotV K H v o ∧ ∀ (H' : Hp) (b : Bool), Same H H' → (b = true ↔ ∃ l, LotO n o l) → Q (.bl b) H'
def spIsLotOf (K : PySem.W.Frag) (C : Addr) : Sp := fun vs H Q _ => ∃ (p : Addr) (n : Nat) (as ts : List (Int × Int)) (v : V) (o : Option (List (Option Int))), vs = [.ref p, v] ∧ PlanAt K C H p n as ts ∧ LotV K H v o ∧
  ∀ (H' : Hp) (b : Bool), Same H H' → (b = true ↔ ∃ l, LotO n o l) → Q (.bl b) H'
def spChkLot (K : PySem.W.Frag) (C : Addr) : Sp := fun vs H Q _ => ∃ (p a : Addr) (n : Nat) (as ts : List (Int × Int)) (l : List Int), vs = [.ref p, .ref a] ∧ PlanAt K C H p n as ts ∧ SqA K H a (l.map V.int) ∧ Lot n l ∧ ∀ H', Same H H' → Q .non H'
def spTurned (K : PySem.W.Frag) : Sp := fun vs H Q _ => ∃ (a : Addr) (ps : List (Int × Int)), vs = [.ref a] ∧ PL K H a ps ∧ ps.length < 60 ∧ ∀ H' p, Same H H' → H p = none → PM K H' p (turnL ps) → Q (.ref p) H'
def spBoth (K : PySem.W.Frag) : Sp := fun vs H Q _ => ∃ (a : Addr) (ps : List (Int × Int)), vs = [.ref a] ∧ PM K H a ps ∧ ps.length < 60 ∧ ∀ H' p, Same H H' → H p = none → PM K H' p (both ps) → Q (.ref p) H'
def spWithin (K : PySem.W.Frag) : Sp := fun vs H Q _ => ∃ (a b : Addr) (ps : List (Int × Int)) (l : List Int), vs = [.ref a, .ref b] ∧ PL K H a ps ∧ ps.length < 60 ∧ SqA K H b (l.map V.int) ∧ ∀ H' p, Same H H' → H p = none → PM K H' p (withinL ps l) → Q (.ref p) H'
theorem inA_bl {K : PySem.W.Frag} {H : Hp} {b : Addr} {l : List Int} (h : SqA K H b (l.map V.int)) : SqL K H b (l.map V.int) ∨ SqT K H b (l.map V.int) := h
section
variable {P : Program} {w : World} {K : PySem.W.Frag} {mg : Str → Option Value} {base : Heap}
theorem within_take {ps : List (Int × Int)} {l : List Int} {i : Nat} {p : Int × Int} (h : ps[i]? = some p) : withinL (ps.take (i + 1)) l = if p.1 ∈ l ∧ p.2 ∈ l then withinL (ps.take i) l ++ [p] else withinL (ps.take i) l := by
  unfold withinL
  rw [take_at h, List.filter_append]
  by_cases c : p.1 ∈ l ∧ p.2 ∈ l
  · rw [if_pos c]; simp [c.1, c.2]
  · rw [if_neg c]
    by_cases c1 : p.1 ∈ l
    · have c2 : ¬ p.2 ∈ l := fun z => c ⟨c1, z⟩
      simp [c2]
    · simp [c1]
end
end Tk

namespace Tk
open PySem PySem.Spec PyProof.Rows L2
def topV : List Int → V
  | [] => .non
  | x :: _ => .int x
def spHead (K : PySem.W.Frag) (C : Addr) : Sp := fun vs H Q _ => ∃ (p a : Addr) (n : Nat) (as ts : List (Int × Int)) (l : List Int), vs = [.ref p, .ref a] ∧ PlanAt K C H p n as ts ∧ SqA K H a (l.map V.int) ∧ Lot n l ∧ ∀ H', Same H H' → Q (topV (headsL as l)) H'
def spHangs (K : PySem.W.Frag) (C : Addr) : Sp := fun vs H Q _ => ∃ (p a : Addr) (n : Nat) (as ts : List (Int × Int)) (l : List Int), vs = [.ref p, .ref a] ∧ PlanAt K C H p n as ts ∧ SqA K H a (l.map V.int) ∧ Lot n l ∧ ∀ H', Same H H' → Q (.bl (hangB ts l)) H'
theorem eqv_ints : ∀ {l m : List Int}, PyData.eqvAll (l.map .int) (m.map .int) = decide (l = m)
  | [], [] => by simp [PyData.eqvAll]
  | [], _ :: _ => by simp [PyData.eqvAll]
  | _ :: _, [] => by simp [PyData.eqvAll]
  | a :: l, b :: m => by
    rw [List.map_cons, List.map_cons, PyData.eqvAll, eqv_ints (l := l) (m := m)]
    have e : PyData.eqv (.int a) (.int b) = decide (a = b) := by
      rw [PyData.eqv]
      by_cases c : a = b
      · subst c; simp
      · simp [c]
    rw [e]
    by_cases c : a = b
    · simp [c]
    · simp [c]
theorem eqv_lints {l m : List Int} : PyData.eqv (.list (l.map .int)) (.list (m.map .int)) = decide (l = m) := by
  rw [PyData.eqv, eqv_ints]
theorem shaped_ints (l : List Int) : SeqAt.shaped (.list (l.map .int)) = true := by
  unfold SeqAt.shaped
  rw [Bool.and_eq_true_iff]
  have h1 : PyData.canLayAll0 (l.map .int) = true := by
    induction l with
    | nil => rfl
    | cons a l ih => rw [List.map_cons, PyData.canLayAll0, ih]; rfl
  have h2 : PyData.depthAll (l.map .int) = 0 := by
    induction l with
    | nil => rfl
    | cons a l ih =>
      rw [List.map_cons, PyData.depthAll]
      have h3 : PyData.canLayAll0 (l.map .int) = true := by
        rw [List.map_cons, PyData.canLayAll0] at h1
        exact (Bool.and_eq_true_iff.mp h1).2
      rw [ih h3]; rfl
  refine ⟨by rw [PyData.canLay0]; exact h1, decide_eq_true ?_⟩
  rw [PyData.depth, h2]
  decide
theorem lot_sorted {n : Nat} {l s : List Int} (th : l.Nodup ∧ ∀ x ∈ l, x ∈ things n) (pm : s.Perm l) (so : s.Pairwise (· ≤ ·)) : l = s ↔ Lot n l := by
  constructor
  · intro e
    subst e
    exact ⟨le_lt so th.1, th.2⟩
  · intro h
    exact rise_eq h.1 (le_lt so (pm.nodup_iff.mpr th.1)) fun x => pm.mem_iff.symm
end Tk

namespace Tk
open PySem PySem.Spec PyProof.Rows L2
/-! ## the law's own draws -/
def PotOk (x y : Int) : Prop := 0 ≤ x ∧ 0 ≤ y ∧ y < 4294967296
/-- all but what stands at a is as it was -/
def SmX (a : Addr) (H H' : Hp) : Prop := ∀ b o, b ≠ a → H b = some o → H' b = some o
theorem SmX.refl (a : Addr) (H : Hp) : SmX a H H := fun _ _ _ h => h
theorem SmX.trans {a : Addr} {H H1 H2 : Hp} (h : SmX a H H1) (g : SmX a H1 H2) : SmX a H H2 := fun b o hb e => g b o hb (h b o hb e)
theorem smx_of {a : Addr} {H H1 : Hp} (h : Same H H1) : SmX a H H1 := fun b o _ e => h b o e
theorem smx_upd {a : Addr} {H : Hp} {o : HO} : SmX a H (upd H a o) := fun b o hb e => by rw [upd_ne hb]; exact e
theorem smx_mut {a p : Addr} {H H' : Hp} {o : HO} (e : SmX a H H') (h : H p = none) : SmX a H (upd H' p o) := by
  intro b u hb hu
  rw [upd_ne (ne_of_none hu h)]
  exact e b u hb hu
theorem smx_free {a p : Addr} {H H' : Hp} (e : SmX a H H') (hp : p ≠ a) (h : H' p = none) : H p = none := by
  cases q : H p with
  | none => rfl
  | some o => rw [e p o hp q] at h; cases h
/-- a pot of draws at a -/
def Pot (H : Hp) (a : Addr) : Prop := ∃ x y, H a = some (.lst [.int x, .int y]) ∧ PotOk x y
theorem smx_l {K : PySem.W.Frag} {a : Addr} {H H' : Hp} {p : Addr} {xs : List V} (e : SmX a H H') (n : p ≠ a) (h : SqL K H p xs) : SqL K H' p xs := by
  rcases h with (h | ⟨o, h⟩) | h
  · exact .inl (.inl (e _ _ n h))
  · exact .inl (.inr ⟨o, e _ _ n h⟩)
  · exact .inr h
theorem smx_t {K : PySem.W.Frag} {a : Addr} {H H' : Hp} {p : Addr} {xs : List V} (pa : Pot H a) (e : SmX a H H') (h : SqT K H p xs) : SqT K H' p xs := by
  obtain ⟨x, y, ha, _⟩ := pa
  rcases h with (h | ⟨o, h⟩) | h
  · exact .inl (.inl (e _ _ (fun q => by rw [q, ha] at h; cases h) h))
  · exact .inl (.inr ⟨o, e _ _ (fun q => by rw [q, ha] at h; cases h) h⟩)
  · exact .inr h
theorem fnok_weak {P : Program} {w : World} {K : PySem.W.Frag} {mg : Str → Option Value} {base : Heap} {cx : CXT} {k : Nat} {f : Addr} {fd : FuncData} {ps : List Str} {sp sp' : Sp} (h : FnOk P w K mg base cx k f fd ps sp) (wk : ∀ vs H Q E, sp' vs H Q E → sp vs H Q E) : FnOk P w K mg base cx k f fd ps sp' :=
  ⟨fun vs H Q E z => h.len vs H Q E (wk _ _ _ _ z), fun A outer s H args us vs Q E r e b v z => h.run A outer s H args us vs Q E r e b v (wk _ _ _ _ z)⟩
def spPot (K : PySem.W.Frag) : Sp := fun vs H Q _ => ∃ (a : Addr) (ns : List Int), vs = [.ref a, .int 0] ∧ SqL K H a (ns.map V.int) ∧
  ∀ (H' : Hp) (p : Addr), Same H H' → H p = none → Pot H' p → Q (.ref p) H'
def spDraw : Sp := fun vs H Q _ => ∃ (a : Addr) (m : Int), vs = [.ref a, .int m] ∧ Pot H a ∧ 0 < m ∧ m < 1073741824 ∧
  ∀ (H' : Hp) (d : Int), SmX a H H' → Pot H' a → 0 ≤ d → d < m → Q (.int d) H'
section
variable {P : Program} {w : World} {K : PySem.W.Frag} {mg : Str → Option Value} {base : Heap}
abbrev nPot : List Str := ["_law_script", "_law_k", "_law_cell"]
theorem sc_pot : FnScope nPot ["_law_script", "_law_k"] (defScope sPot) := ⟨rfl, rfl, rfl, by decide +kernel, rfl, by decide +kernel, by decide +kernel⟩
theorem potok_end (c j : Int) (m : Int) (h0 : 0 < m) (h1 : m < 4294967295) : PotOk (if j > 0 then j else 0) (c % m + 1) := by
  have a := Int.emod_nonneg c (show m ≠ 0 by omega)
  have b := Int.emod_lt_of_pos c h0
  refine ⟨?_, by omega, by omega⟩
  split <;> omega
theorem ok_pot {f : Addr} {fd : FuncData} (F : Fun K "_law_pot" "_law_pot" sPot f fd) (B : Bl mg) : FnOk P w K mg base CX0 1 f fd ["_law_script", "_law_k"] (spPot K) := by
  refine F.ok sc_pot (fun vs H Q E h => ?_) (fun cdv A outer s H vs Q E hr h => ?_)
  · obtain ⟨a, ns, rfl, _⟩ := h
    rfl
  · obtain ⟨a, ns, rfl, ha, q⟩ := h
    refine ⟨_, pss_cons (ps_set (i := 2) sc_pot.nd rfl (Or.inl rfl) (pe_op op_add (pe_op op_mul pe_int (pv 1)) pe_int))
      (pss_cons (ps_if (pt_cmpR op_lt (pv 1) (pe_callB call_len_seq (by rfl) B.len PySem.boot_len (pa_cons (pv 0) pa_nil)) (nomark _))
          (pss_one (ps_set (i := 2) sc_pot.nd rfl (Or.inl rfl) (pe_callB call_abs (by rfl) B.abs PyProof.Rows.boot_abs (pa_cons (pe_ix ix_list (pv 0) (pv 1) (fun _ _ => rfl)) pa_nil)))) pss_nil)
      (pss_one (ps_ret (pe_lst (pa_cons (pe_callB (call_max2 rfl) (by rfl) B.max PyProof.Rows.boot_max (pa_cons pe_int (pa_cons (pe_op op_sub (pv 2) (pe_op op_pow pe_int pe_int)) pa_nil)))
        (pa_cons (pe_op op_add (pe_op op_mod (pe_op op_mul (pe_callTy call_int1 (by rfl) B.int PyProof.Rows.boot_int (pa_cons (pe_op op_add (pe_op op_mod (pe_callTy call_int1 (by rfl) B.int PyProof.Rows.boot_int (pa_cons (pv 2) pa_nil)) pe_int) pe_int) pa_nil))
          (pe_op op_pow (pe_op op_add (pe_op op_mul pe_int (pv 1)) pe_int) pe_int)) pe_int) pe_int) pa_nil)))))), ?_⟩
    refine ⟨_, rfl, _, _, rfl, rfl, .inl ⟨by decide, by decide⟩, _, _, rfl, rfl, ?_⟩
    refine ⟨_, rfl, _, rfl, a, _, rfl, .inl ha, _, _, rfl, rfl, _, rfl, ?_⟩
    refine ite2 (fun hk => ?_) (fun hk => ?_)
    · cases ns with
      | nil => simp at hk
      | cons n ns =>
        refine ⟨_, rfl, _, rfl, a, _, _, _, rfl, rfl, ha, at0, n, rfl, ?_⟩
        refine ⟨_, rfl, _, _, rfl, rfl, ⟨by decide, by decide, by decide⟩, _, _, rfl, rfl, _, _, rfl, ?_⟩
        refine ⟨_, rfl, .inl ⟨_, rfl, _, _, rfl, rfl, (show (0 : Int) < 2147483549 by decide), _, _, rfl, rfl, .inl ⟨_, rfl, ?_⟩⟩⟩
        refine ⟨_, rfl, _, _, rfl, rfl, .inl ⟨by decide, by decide⟩, _, _, rfl, rfl, _, _, rfl, rfl, ⟨by decide, by decide, by decide⟩, _, _, rfl, rfl, ?_, _, _, rfl, rfl, (show (0 : Int) < 2147483477 by decide), _, _, rfl, rfl, ?_⟩
        · have b0 := Int.emod_nonneg (if n < 0 then -n else n) (show (2147483549 : Int) ≠ 0 by decide)
          have b1 := Int.emod_lt_of_pos (if n < 0 then -n else n) (show (0 : Int) < 2147483549 by decide)
          exact .inl ⟨by omega, by omega⟩
        · refine ⟨szle (by show 2 ≤ 100000; decide), fun r hr => ?_⟩
          exact q _ r (same_new hr) hr ⟨_, _, upd_same, potok_end _ _ 2147483477 (by decide) (by decide)⟩
    · refine ⟨_, rfl, _, _, rfl, rfl, ⟨by decide, by decide, by decide⟩, _, _, rfl, rfl, _, _, rfl, ?_⟩
      generalize (127 * 0 + 61 : Int) = c
      refine ⟨_, rfl, .inl ⟨_, rfl, _, _, rfl, rfl, (show (0 : Int) < 2147483549 by decide), _, _, rfl, rfl, .inl ⟨_, rfl, ?_⟩⟩⟩
      refine ⟨_, rfl, _, _, rfl, rfl, .inl ⟨by decide, by decide⟩, _, _, rfl, rfl, _, _, rfl, rfl, ⟨by decide, by decide, by decide⟩, _, _, rfl, rfl, ?_, _, _, rfl, rfl, (show (0 : Int) < 2147483477 by decide), _, _, rfl, rfl, ?_⟩
      · have b0 := Int.emod_nonneg c (show (2147483549 : Int) ≠ 0 by decide)
        have b1 := Int.emod_lt_of_pos c (show (0 : Int) < 2147483549 by decide)
        exact .inl ⟨by omega, by omega⟩
      · refine ⟨szle (by show 2 ≤ 100000; decide), fun r hr => ?_⟩
        exact q _ r (same_new hr) hr ⟨_, _, upd_same, potok_end _ _ 2147483477 (by decide) (by decide)⟩
abbrev nDraw : List Str := ["_law_pot_here", "_law_room", "_law_digit"]
theorem sc_draw : FnScope nDraw ["_law_pot_here", "_law_room"] (defScope sDraw) := ⟨rfl, rfl, rfl, by decide +kernel, rfl, by decide +kernel, by decide +kernel⟩
theorem at_0 {x y : V} : atI [x, y] (0 : Int) = some x := rfl
theorem at_1 {x y : V} : atI [x, y] (1 : Int) = some y := rfl
theorem ok_draw {f : Addr} {fd : FuncData} (F : Fun K "_law_draw" "_law_draw" sDraw f fd) (B : Bl mg) : FnOk P w K mg base CX0 1 f fd ["_law_pot_here", "_law_room"] spDraw := by
  refine F.ok sc_draw (fun vs H Q E h => ?_) (fun cdv A outer s H vs Q E hr h => ?_)
  · obtain ⟨a, m, rfl, _⟩ := h
    rfl
  · obtain ⟨a, m, rfl, ⟨x, y, ha, hx, hy0, hy1⟩, m0, m1, q⟩ := h
    refine ⟨_, pss_cons (ps_if (pt_cmpR op_gt (pe_ix ix_list (pv 0) pe_int (fun _ _ => rfl)) pe_int (nomark _))
        (pss_cons (ps_asg (pe_callB call_divmod (by rfl) B.divmod PyProof.Rows.boot_divmod (pa_cons (pe_ix ix_list (pv 0) pe_int (fun _ _ => rfl)) (pa_cons (pv 1) pa_nil)))
            (pg_tup rfl (pgs_cons (pg_sub (pv 0) pe_int set_list) (pgs_cons (pg_name (i := 2) sc_draw.nd rfl (Or.inl rfl)) pgs_nil))))
          (pss_one (ps_ret (pv 2)))) pss_nil)
      (pss_cons (ps_asg (pe_op op_mod (pe_callTy call_int1 (by rfl) B.int PyProof.Rows.boot_int (pa_cons (pe_op op_add (pe_op op_mul (pe_ix ix_list (pv 0) pe_int (fun _ _ => rfl)) pe_int) pe_int) pa_nil)) pe_int) (pg_sub (pv 0) pe_int set_list))
      (pss_one (ps_ret (pe_op op_mod (pe_callTy call_int1 (by rfl) B.int PyProof.Rows.boot_int (pa_cons (pe_op op_fdiv (pe_op op_mod (pe_callTy call_int1 (by rfl) B.int PyProof.Rows.boot_int (pa_cons (pe_op op_mul (pe_ix ix_list (pv 0) pe_int (fun _ _ => rfl)) (pe_ix ix_list (pv 0) pe_int (fun _ _ => rfl))) pa_nil)) pe_int) pe_int) pa_nil)) (pv 1))))), ?_⟩
    refine ⟨_, rfl, a, _, _, _, rfl, rfl, sl_of ha, at_0, _, _, rfl, rfl, _, rfl, ?_⟩
    refine ite2 (fun h => ?_) (fun h => ?_)
    · refine ⟨_, rfl, a, _, _, _, rfl, rfl, sl_of ha, at_0, _, rfl, _, _, rfl, ⟨m0, m1⟩, fun t ht => ?_⟩
      have nta : t ≠ a := fun e => by rw [e, ha] at ht; cases ht
      refine ⟨t, _, rfl, st_of upd_same, rfl, _, _, rfl, _, rfl, a, _, _, 0, rfl, rfl, (by rw [upd_ne nta.symm]; exact ha), rfl, _, _, rfl, rfl, ?_⟩
      refine ⟨_, rfl, q _ _ ((smx_of (same_new ht)).trans smx_upd) ⟨_, _, upd_same, ?_, hy0, hy1⟩ (Int.emod_nonneg x (by omega)) (Int.emod_lt_of_pos x m0)⟩
      exact Int.ediv_nonneg hx (by omega)
    · refine ⟨_, rfl, a, _, _, _, rfl, rfl, sl_of ha, at_1, _, _, rfl, rfl, .inl ⟨by omega, by omega⟩, _, _, rfl, rfl, .inl ⟨_, rfl, _, _, rfl, rfl, (show (0 : Int) < 2147483587 by decide), _, rfl, a, _, _, 1, rfl, rfl, ha, rfl, ?_⟩⟩
      have b0 := Int.emod_nonneg (y * 48271 + 18140) (show (2147483587 : Int) ≠ 0 by decide)
      have b1 := Int.emod_lt_of_pos (y * 48271 + 18140) (show (0 : Int) < 2147483587 by decide)
      refine ⟨_, rfl, a, _, _, _, rfl, rfl, sl_of upd_same, at_1, _, rfl, a, _, _, _, rfl, rfl, sl_of upd_same, at_1, _, _, rfl, rfl, .inl ⟨by omega, by omega⟩, .inl ⟨_, rfl, _, _, rfl, rfl, (show (0 : Int) < 2147483549 by decide), _, _, rfl, rfl, ⟨by decide, by decide⟩, .inl ⟨_, rfl, _, rfl, _, _, rfl, rfl, m0, ?_⟩⟩⟩
      exact q _ _ smx_upd ⟨_, _, upd_same, hx, b0, by omega⟩ (Int.emod_nonneg _ (by omega)) (Int.emod_lt_of_pos _ m0)
end
end Tk

namespace Tk
open PySem PySem.Spec PyProof.Rows L2
abbrev sLowR : Stmt := top 17
abbrev sSumR : Stmt := top 18
abbrev sByR : Stmt := top 19
abbrev sLessR : Stmt := top 20
abbrev sOverR : Stmt := top 21
abbrev sTotR : Stmt := top 22
abbrev sRtPair : Stmt := top 23
abbrev sRtPairs : Stmt := top 24
abbrev sShownR : Stmt := top 25
/-! ## the law's own fractions -/
/-- a tuple of two ints -/
def PairAt (K : PySem.W.Frag) (H : Hp) (p : Addr) (q : Int × Int) : Prop := SqT K H p [.int q.1, .int q.2]
theorem pair_sR {K : PySem.W.Frag} {H H' : Hp} {p : Addr} {q : Int × Int} (h : PairAt K H p q) (e : Same H H') : PairAt K H' p q := same_t e h
/-- a new tuple of two ints -/
def NewPair (K : PySem.W.Frag) (H : Hp) (Q : VK) (q : Int × Int) : Prop := ∀ (H' : Hp) (r : Addr), Same H H' → H r = none → PairAt K H' r q → Q (.ref r) H'
def spLowR (K : PySem.W.Frag) : Sp := fun vs H Q _ => ∃ t b : Int, vs = [.int t, .int b] ∧ b ≠ 0 ∧ b.natAbs.log2 < 9000 ∧ NewPair K H Q (lowQ t b)
def spTwoR (K : PySem.W.Frag) (g : Int × Int → Int × Int → Int × Int) : Sp := fun vs H Q _ => ∃ (p r : Addr) (x y : Int × Int), vs = [.ref p, .ref r] ∧ PairAt K H p x ∧ PairAt K H r y ∧ Small x ∧ Small y ∧ NewPair K H Q (g x y)
def spOverR (K : PySem.W.Frag) : Sp := fun vs H Q _ => ∃ (p r : Addr) (x y : Int × Int), vs = [.ref p, .ref r] ∧ PairAt K H p x ∧ PairAt K H r y ∧ Small x ∧ Small y ∧ y.1 ≠ 0 ∧ y.1.natAbs.log2 < 4000 ∧ NewPair K H Q (overQ x y)
def spTotR (K : PySem.W.Frag) : Sp := fun vs H Q _ => ∃ (a : Addr) (xs : List V) (qs : List (Int × Int)), vs = [.ref a] ∧ SqL K H a xs ∧ xs.length = qs.length ∧ (∀ (i : Nat) (x : V) (q : Int × Int), xs[i]? = some x → qs[i]? = some q → ∃ p, x = .ref p ∧ PairAt K H p q ∧ Small q) ∧
  (∀ i, i ≤ qs.length → Small (sumQ (qs.take i))) ∧ ∀ (H' : Hp) (r : Addr), Same H H' → PairAt K H' r (sumQ qs) → Q (.ref r) H'
def spPairR (K : PySem.W.Frag) (C : Addr) : Sp := fun vs H Q _ => ∃ (p : Addr) (q : Int × Int), vs = [.ref p] ∧ RatAt C H p q ∧ NewPair K H Q q
def spPairsR (K : PySem.W.Frag) (C : Addr) : Sp := fun vs H Q _ => ∃ (a : Addr) (xs : List V) (qs : List (Int × Int)), vs = [.ref a] ∧ H a = some (.lst xs) ∧ xs.length = qs.length ∧ xs.length ≤ 1000 ∧ (∀ (i : Nat) (x : V) (q : Int × Int), xs[i]? = some x → qs[i]? = some q → ∃ p, x = .ref p ∧ RatAt C H p q) ∧
  ∀ (H' : Hp) (r : Addr), Same H H' → H r = none → Dp K H' (.ref r) (.list (qs.map dP)) → Q (.ref r) H'
def spShownR (K : PySem.W.Frag) : Sp := fun vs H Q _ => ∃ (p : Addr) (q : Int × Int), vs = [.ref p] ∧ PairAt K H p q ∧ Tiny q ∧ Q (.str (shQ q)) H
section
variable {P : Program} {w : World} {K : PySem.W.Frag} {mg : Str → Option Value} {base : Heap}
abbrev nLowR : List Str := ["_law_top", "_law_bottom", "_law_one", "_law_other"]
theorem sc_lowR : FnScope nLowR ["_law_top", "_law_bottom"] (defScope sLowR) := ⟨rfl, rfl, rfl, by decide +kernel, rfl, by decide +kernel, by decide +kernel⟩
theorem ok_lowR {f : Addr} {fd : FuncData} (F : Fun K "_law_low" "_law_low" sLowR f fd) (B : Bl mg) : FnOk P w K mg base CX0 1 f fd ["_law_top", "_law_bottom"] (spLowR K) := by
  refine F.ok sc_lowR (fun vs H Q E h => ?_) (fun cdv A outer s H vs Q E hr h => ?_)
  · obtain ⟨t, b, rfl, _⟩ := h
    rfl
  · obtain ⟨t, b, rfl, b0, bl, q⟩ := h
    refine ⟨_, pss_cons (ps_par (i := 2) (j := 3) rfl sc_lowR.nd rfl rfl (by decide) rfl rfl (pa_cons (pe_callB call_abs (by rfl) B.abs PyProof.Rows.boot_abs (pa_cons (pv 0) pa_nil)) (pa_cons (pe_callB call_abs (by rfl) B.abs PyProof.Rows.boot_abs (pa_cons (pv 1) pa_nil)) pa_nil)) (by rfl))
      (pss_cons (ps_while PassesOwn.never (pt_cmpR op_gt (pv 3) pe_int (nomark _))
        (pss_one (ps_par (i := 2) (j := 3) rfl sc_lowR.nd rfl rfl (by decide) rfl rfl (pa_cons (pv 3) (pa_cons (pe_op op_mod (pe_callTy call_int1 (by rfl) B.int PyProof.Rows.boot_int (pa_cons (pv 2) pa_nil)) (pv 3)) pa_nil)) (by rfl))))
      (pss_cons (ps_set (i := 2) sc_lowR.nd rfl (Or.inl rfl) (pe_ifExp (pt_cmpR op_gt (pv 1) pe_int (nomark _)) (pv 2) (pe_op op_sub pe_int (pv 2))))
      (pss_one (ps_ret (pe_tup (pa_cons (pe_op op_fdivWN (pv 0) (pv 2)) (pa_cons (pe_op op_fdivWN (pv 1) (pv 2)) pa_nil))))))), ?_⟩
    have ab : ∀ x : Int, (if x < 0 then -x else x) = (x.natAbs : Int) := fun x => by split <;> omega
    refine ⟨_, rfl, t, rfl, _, rfl, b, rfl, _, _, rfl, ?_⟩
    rw [ab, ab]
    refine ⟨fun m σ G => ∃ u v : Nat, σ = [some (V.int t), some (V.int b), some (V.int (u : Int)), some (V.int (v : Int))] ∧ G = H ∧ Nat.gcd u v = Nat.gcd t.natAbs b.natAbs ∧ v = m, ⟨_, t.natAbs, b.natAbs, rfl, rfl, rfl, rfl⟩, ?_⟩
    rintro m σ G ⟨u, v, rfl, rfl, hg, rfl⟩
    refine ⟨_, rfl, _, _, rfl, rfl, _, rfl, ?_⟩
    refine ite2 (fun c => ?_) (fun c => ?_)
    · have v0 : 0 < v := by
        have := of_decide_eq_true c
        omega
      refine ⟨_, fun σ' H' z => z, ?_⟩
      refine ⟨_, rfl, _, rfl, .inl ⟨_, rfl, _, rfl, _, _, rfl, rfl, (show (0 : Int) < (v : Int) by omega), _, _, rfl, u % v, Nat.mod_lt _ v0, v, u % v, rfl, rfl, ?_, rfl⟩⟩
      rw [Nat.gcd_comm, ← hg, Nat.gcd_comm u v, Nat.gcd_rec v u]
    · have v0 : v = 0 := by
        cases v with
        | zero => rfl
        | succ v => exact absurd (decide_eq_true (show (0 : Int) < ((v + 1 : Nat) : Int) by omega)) c
      subst v0
      rw [Nat.gcd_zero_right] at hg
      subst hg
      have gl : (comQ t b).natAbs.log2 < 9000 := by
        rw [com_abs]
        exact log2_monoR (Nat.le_of_dvd (by omega) (Nat.gcd_dvd_right _ _)) bl
      have cd : ∀ x : Int, CDivWN x (comQ t b) := fun x => ⟨com_ne b0, gl⟩
      have fin : ∀ z : Int, z = comQ t b → tRet (tTup (tCons (tOp (rI CDivWN fun i j => V.int (i.fdiv j)) (tVar 0) (tVar 2)) (tCons (tOp (rI CDivWN fun i j => V.int (i.fdiv j)) (tVar 1) (tVar 2)) tNil))) { nx := fun _ H' => Q V.non H', rt := Q } [some (V.int t), some (V.int b), some (V.int z), some (V.int ((0 : Nat) : Int))] G := fun z ez => by
        rw [ez]
        refine ⟨_, rfl, _, rfl, _, _, rfl, rfl, cd t, _, rfl, _, rfl, _, _, rfl, rfl, cd b, szle (by show 2 ≤ 100000; decide), fun r hr0 => ?_⟩
        exact q _ r (same_new hr0) hr0 (st_of upd_same)
      refine ⟨_, rfl, _, _, rfl, rfl, _, rfl, ?_⟩
      refine ite2 (fun c2 => ?_) (fun c2 => ?_)
      · exact ⟨_, rfl, fin _ (by unfold comQ; rw [if_pos (of_decide_eq_true c2)])⟩
      · refine ⟨_, rfl, _, _, rfl, rfl, fin _ ?_⟩
        unfold comQ
        rw [if_neg (fun z => c2 (decide_eq_true z))]
        omega
theorem at_i0 {x y : V} : atI [x, y] 0 = some x := rfl
theorem at_i1 {x y : V} : atI [x, y] 1 = some y := rfl
theorem sc_sumR : FnScope ["_law_one", "_law_other"] ["_law_one", "_law_other"] (defScope sSumR) := ⟨rfl, rfl, rfl, by decide +kernel, rfl, by decide +kernel, by decide +kernel⟩
theorem ok_sumR {f f1 : Addr} {fd fd1 : FuncData} (F : Fun K "_law_sum" "_law_sum" sSumR f fd) (D1 : Df K mg "_law_low" sLowR ["_law_top", "_law_bottom"] f1 fd1) (B : Bl mg) : FnOk P w K mg base CX0 2 f fd ["_law_one", "_law_other"] (spTwoR K addQ) := by
  have G1 : FnOk P w K mg base CX0 1 f1 fd1 ["_law_top", "_law_bottom"] (spLowR K) := ok_lowR D1.F B
  refine F.ok sc_sumR (fun vs H Q E h => ?_) (fun cdv A outer s H vs Q E hr h => ?_)
  · obtain ⟨p, r, x, y, rfl, _⟩ := h
    rfl
  · obtain ⟨p, r, x, y, rfl, hp, hr', sx, sy, q⟩ := h
    refine ⟨_, pss_one (ps_ret (pe_call G1 hr rfl D1.g D1.F.kp D1.b .nil pass0 (pa_cons (pe_op op_add (pe_op op_mulW (pe_ix ix_tup (pv 0) pe_int (fun _ _ => rfl)) (pe_ix ix_tup (pv 1) pe_int (fun _ _ => rfl))) (pe_op op_mulW (pe_ix ix_tup (pv 1) pe_int (fun _ _ => rfl)) (pe_ix ix_tup (pv 0) pe_int (fun _ _ => rfl))))
      (pa_cons (pe_op op_mulW (pe_ix ix_tup (pv 0) pe_int (fun _ _ => rfl)) (pe_ix ix_tup (pv 1) pe_int (fun _ _ => rfl))) pa_nil)))), ?_⟩
    obtain ⟨b0, bl⟩ := small_bot sx sy
    have e1 := sx.top
    have e2 := sy.top
    have e3 := sx.bot
    have e4 := sy.bot
    refine ⟨_, rfl, p, _, _, _, rfl, rfl, hp, at_i0, _, rfl, r, _, _, _, rfl, rfl, hr', at_i1, _, _, rfl, rfl, (by unfold CMulW; omega), _, rfl, r, _, _, _, rfl, rfl, hr', at_i0, _, rfl, p, _, _, _, rfl, rfl, hp, at_i1, _, _, rfl, rfl, (by unfold CMulW; omega), _, _, rfl, rfl, ?_⟩
    exact ⟨_, rfl, p, _, _, _, rfl, rfl, hp, at_i1, _, rfl, r, _, _, _, rfl, rfl, hr', at_i1, _, _, rfl, rfl, (by unfold CMulW; omega), _, _, rfl, Int.ne_of_gt b0, bl, q⟩
theorem sc_byR : FnScope ["_law_one", "_law_other"] ["_law_one", "_law_other"] (defScope sByR) := ⟨rfl, rfl, rfl, by decide +kernel, rfl, by decide +kernel, by decide +kernel⟩
theorem ok_byR {f f1 : Addr} {fd fd1 : FuncData} (F : Fun K "_law_by" "_law_by" sByR f fd) (D1 : Df K mg "_law_low" sLowR ["_law_top", "_law_bottom"] f1 fd1) (B : Bl mg) : FnOk P w K mg base CX0 2 f fd ["_law_one", "_law_other"] (spTwoR K mulQ) := by
  have G1 : FnOk P w K mg base CX0 1 f1 fd1 ["_law_top", "_law_bottom"] (spLowR K) := ok_lowR D1.F B
  refine F.ok sc_byR (fun vs H Q E h => ?_) (fun cdv A outer s H vs Q E hr h => ?_)
  · obtain ⟨p, r, x, y, rfl, _⟩ := h
    rfl
  · obtain ⟨p, r, x, y, rfl, hp, hr', sx, sy, q⟩ := h
    refine ⟨_, pss_one (ps_ret (pe_call G1 hr rfl D1.g D1.F.kp D1.b .nil pass0 (pa_cons (pe_op op_mulW (pe_ix ix_tup (pv 0) pe_int (fun _ _ => rfl)) (pe_ix ix_tup (pv 1) pe_int (fun _ _ => rfl)))
      (pa_cons (pe_op op_mulW (pe_ix ix_tup (pv 0) pe_int (fun _ _ => rfl)) (pe_ix ix_tup (pv 1) pe_int (fun _ _ => rfl))) pa_nil)))), ?_⟩
    obtain ⟨b0, bl⟩ := small_bot sx sy
    have e1 := sx.top
    have e2 := sy.top
    have e3 := sx.bot
    have e4 := sy.bot
    refine ⟨_, rfl, p, _, _, _, rfl, rfl, hp, at_i0, _, rfl, r, _, _, _, rfl, rfl, hr', at_i0, _, _, rfl, rfl, (by unfold CMulW; omega), ?_⟩
    exact ⟨_, rfl, p, _, _, _, rfl, rfl, hp, at_i1, _, rfl, r, _, _, _, rfl, rfl, hr', at_i1, _, _, rfl, rfl, (by unfold CMulW; omega), _, _, rfl, Int.ne_of_gt b0, bl, q⟩
theorem sc_overR : FnScope ["_law_one", "_law_other"] ["_law_one", "_law_other"] (defScope sOverR) := ⟨rfl, rfl, rfl, by decide +kernel, rfl, by decide +kernel, by decide +kernel⟩
theorem ok_overR {f f1 : Addr} {fd fd1 : FuncData} (F : Fun K "_law_over" "_law_over" sOverR f fd) (D1 : Df K mg "_law_low" sLowR ["_law_top", "_law_bottom"] f1 fd1) (B : Bl mg) : FnOk P w K mg base CX0 2 f fd ["_law_one", "_law_other"] (spOverR K) := by
  have G1 : FnOk P w K mg base CX0 1 f1 fd1 ["_law_top", "_law_bottom"] (spLowR K) := ok_lowR D1.F B
  refine F.ok sc_overR (fun vs H Q E h => ?_) (fun cdv A outer s H vs Q E hr h => ?_)
  · obtain ⟨p, r, x, y, rfl, _⟩ := h
    rfl
  · obtain ⟨p, r, x, y, rfl, hp, hr', sx, sy, y0, yl, q⟩ := h
    refine ⟨_, pss_one (ps_ret (pe_call G1 hr rfl D1.g D1.F.kp D1.b .nil pass0 (pa_cons (pe_op op_mulW (pe_ix ix_tup (pv 0) pe_int (fun _ _ => rfl)) (pe_ix ix_tup (pv 1) pe_int (fun _ _ => rfl)))
      (pa_cons (pe_op op_mulW (pe_ix ix_tup (pv 0) pe_int (fun _ _ => rfl)) (pe_ix ix_tup (pv 1) pe_int (fun _ _ => rfl))) pa_nil)))), ?_⟩
    have e1 := sx.top
    have e3 := sx.bot
    have e4 := sy.bot
    have e5 := sx.pos
    have nb : x.2 * y.1 ≠ 0 := Int.mul_ne_zero (by omega) y0
    have bl : (x.2 * y.1).natAbs.log2 < 9000 := by
      rw [Int.natAbs_mul]
      have := log2_mulR e3 yl
      omega
    refine ⟨_, rfl, p, _, _, _, rfl, rfl, hp, at_i0, _, rfl, r, _, _, _, rfl, rfl, hr', at_i1, _, _, rfl, rfl, (by unfold CMulW; omega), ?_⟩
    exact ⟨_, rfl, p, _, _, _, rfl, rfl, hp, at_i1, _, rfl, r, _, _, _, rfl, rfl, hr', at_i0, _, _, rfl, rfl, (by unfold CMulW; omega), _, _, rfl, nb, bl, q⟩
theorem small_neg {y : Int × Int} (h : Small y) : Small (0 - y.1, y.2) := ⟨h.pos, h.bot, by
  have := h.top
  show (0 - y.1).natAbs.log2 < 100000
  rw [show (0 - y.1).natAbs = y.1.natAbs by omega]
  exact this⟩
theorem add_neg (x y : Int × Int) : addQ x (0 - y.1, y.2) = subQ x y := by
  unfold addQ subQ
  congr 1
  show x.1 * y.2 + (0 - y.1) * x.2 = _
  rw [Int.zero_sub, Int.neg_mul]
  omega
theorem sc_lessR : FnScope ["_law_one", "_law_other"] ["_law_one", "_law_other"] (defScope sLessR) := ⟨rfl, rfl, rfl, by decide +kernel, rfl, by decide +kernel, by decide +kernel⟩
theorem ok_lessR {f f1 : Addr} {fd fd1 : FuncData} (F : Fun K "_law_less" "_law_less" sLessR f fd) (D1 : Df K mg "_law_sum" sSumR ["_law_one", "_law_other"] f1 fd1) (G1 : FnOk P w K mg base CX0 2 f1 fd1 ["_law_one", "_law_other"] (spTwoR K addQ)) : FnOk P w K mg base CX0 3 f fd ["_law_one", "_law_other"] (spTwoR K subQ) := by
  refine F.ok sc_lessR (fun vs H Q E h => ?_) (fun cdv A outer s H vs Q E hr h => ?_)
  · obtain ⟨p, r, x, y, rfl, _⟩ := h
    rfl
  · obtain ⟨p, r, x, y, rfl, hp, hr', sx, sy, q⟩ := h
    refine ⟨_, pss_one (ps_ret (pe_call G1 hr rfl D1.g D1.F.kp D1.b .nil pass0 (pa_cons (pv 0) (pa_cons (pe_tup (pa_cons (pe_op op_sub pe_int (pe_ix ix_tup (pv 1) pe_int (fun _ _ => rfl))) (pa_cons (pe_ix ix_tup (pv 1) pe_int (fun _ _ => rfl)) pa_nil))) pa_nil)))), ?_⟩
    refine ⟨_, rfl, _, rfl, r, _, _, _, rfl, rfl, hr', at_i0, _, _, rfl, rfl, _, rfl, r, _, _, _, rfl, rfl, hr', at_i1, szle (by show 2 ≤ 100000; decide), fun t ht => ?_⟩
    have s1 := same_new (o := .tup [V.int (0 - y.1), V.int y.2]) ht
    refine ⟨p, t, x, (0 - y.1, y.2), rfl, pair_sR hp s1, st_of upd_same, sx, small_neg sy, fun H' z s2 hz hz2 => ?_⟩
    rw [add_neg] at hz2
    exact q H' z (s1.trans s2) (s1.free hz) hz2
theorem sc_totR : FnScope ["_law_pairs_here", "_law_found", "_law_pair_here"] ["_law_pairs_here"] (defScope sTotR) := ⟨rfl, rfl, rfl, by decide +kernel, rfl, by decide +kernel, by decide +kernel⟩
theorem ok_totR {f f1 : Addr} {fd fd1 : FuncData} (F : Fun K "_law_total" "_law_total" sTotR f fd) (D1 : Df K mg "_law_sum" sSumR ["_law_one", "_law_other"] f1 fd1) (G1 : FnOk P w K mg base CX0 2 f1 fd1 ["_law_one", "_law_other"] (spTwoR K addQ)) : FnOk P w K mg base CX0 3 f fd ["_law_pairs_here"] (spTotR K) := by
  refine F.ok sc_totR (fun vs H Q E h => ?_) (fun cdv A outer s H vs Q E hr h => ?_)
  · obtain ⟨a, xs, qs, rfl, _⟩ := h
    rfl
  · obtain ⟨a, xs, qs, rfl, ha, hl, hq, hs, q⟩ := h
    refine ⟨_, pss_cons (ps_set (i := 1) sc_totR.nd rfl (Or.inl rfl) (pe_tup (pa_cons pe_int (pa_cons pe_int pa_nil))))
      (pss_cons (ps_for PassesOwn.never rfl (pi_list (pv 0)) (pg_name (i := 2) sc_totR.nd rfl (Or.inl rfl))
        (pss_one (ps_set (i := 1) sc_totR.nd rfl (Or.inl rfl) (pe_call G1 hr rfl D1.g D1.F.kp D1.b .nil pass0 (pa_cons (pv 1) (pa_cons (pv 2) pa_nil))))))
      (pss_one (ps_ret (pv 1)))), ?_⟩
    refine ⟨szle (by show 2 ≤ 100000; decide), fun t ht => ?_⟩
    have s1 := same_new (o := .tup [V.int 0, V.int 1]) ht
    have ht' : PairAt K (upd H t (.tup [V.int 0, V.int 1])) t (0, 1) := st_of upd_same
    generalize upd H t (.tup [V.int 0, V.int 1]) = H1 at s1 ht'
    refine ⟨_, rfl, a, rfl, ⟨xs, same_l s1 ha⟩, for_list (K := K) (a := a) (xs := xs) (fun i σ G => ∃ (r : Addr) (v2 : Option V), σ = [some (V.ref a), some (V.ref r), v2] ∧ Same H1 G ∧ PairAt K G r (sumQ (qs.take i))) ⟨t, none, rfl, fun _ _ h => h, by simpa [sumQ] using ht'⟩ (fun i σ G _ z => by obtain ⟨_, _, _, z, _⟩ := z; exact same_l z (same_l s1 ha)) ?_ ?_⟩
    · rintro i y σ G hy ⟨r, v2, rfl, sG, hG⟩
      have hi := lt_of_at hy
      obtain ⟨z, hz⟩ : ∃ z, qs[i]? = some z := ⟨qs[i]'(by omega), by simp [show i < qs.length by omega]⟩
      obtain ⟨p, rfl, hp, sz⟩ := hq i y z hy hz
      have es : sumQ (qs.take (i + 1)) = addQ (sumQ (qs.take i)) z := by
        unfold sumQ
        rw [take_at hz, List.foldl_append]
        rfl
      refine ⟨_, rfl, _, rfl, r, p, sumQ (qs.take i), z, rfl, hG, pair_sR hp (s1.trans sG), hs i (by omega), sz, fun H' u s2 _ hu => ⟨u, _, rfl, sG.trans s2, ?_⟩⟩
      rw [es]
      exact hu
    · rintro σ G ⟨r, v2, rfl, sG, hG⟩
      rw [hl, List.take_length] at hG
      exact ⟨_, rfl, q G r (s1.trans sG) hG⟩
end
end Tk

namespace Tk
open PySem PySem.Spec PyProof.Rows L2
section
variable {P : Program} {w : World} {K : PySem.W.Frag} {mg : Str → Option Value} {base : Heap}
theorem sc_pairR : FnScope ["_law_value"] ["_law_value"] (defScope sRtPair) := ⟨rfl, rfl, rfl, by decide +kernel, rfl, by decide +kernel, by decide +kernel⟩
theorem ok_pairR {f fI C pT gT pB gB : Addr} {fd dI dT dB : FuncData} (F : Fun K "_law_pair" "_law_pair" sRtPair f fd) (M : RtM K mg C fI dI) (Z : RtP K C pT gT pB gB dT dB) (B : Bl mg) : FnOk P w K mg base CX0 3 f fd ["_law_value"] (spPairR K C) := by
  have GT : FnOk P w K mg base CX0 1 gT dT ["self"] (getSp C "_top") := ok_rtop Z.FT M.c
  have GB : FnOk P w K mg base CX0 1 gB dB ["self"] (getSp C "_bottom") := ok_rbot Z.FB M.c
  refine F.ok sc_pairR (fun vs H Q E h => ?_) (fun cdv A outer s H vs Q E hr h => ?_)
  · obtain ⟨p, x, rfl, _⟩ := h
    rfl
  · obtain ⟨p, x, rfl, ⟨dx, hp⟩, q⟩ := h
    refine ⟨_, pss_one (ps_ret (pe_ifExp (pt_val (pe_callB (C8.call_isC M.ins) (by rfl) B.isi PyProof.Rows.boot_isinstance (pa_cons (pv 0) (pa_cons (pe_glob (v := .ref C) rfl M.c.mgC rfl) pa_nil))))
      (pe_tup (pa_cons (pe_prop (pv 0) M.c.cl Z.pt GT hr Z.bT .nil pass0 rfl) (pa_cons (pe_prop (pv 0) M.c.cl Z.pb GB hr Z.bB .nil pass0 rfl) pa_nil))) pe_non)), ?_⟩
    refine ⟨_, rfl, p, dx, _, rfl, hp, true, rfl, iteT ?_⟩
    refine ⟨_, rfl, p, dx, _, rfl, hp, p, dx, _, _, rfl, hp, rf_top _ _, _, rfl, p, dx, _, rfl, hp, p, dx, _, _, rfl, hp, rf_bot _ _, szle (by show 2 ≤ 100000; decide), fun t ht => ?_⟩
    exact q _ t (same_new ht) ht (st_of upd_same)
abbrev nPairsR : List Str := ["_law_value", "_law_one"]
theorem sc_pairsR : FnScope nPairsR ["_law_value"] (defScope sRtPairs) := ⟨rfl, rfl, rfl, by decide +kernel, rfl, by decide +kernel, by decide +kernel⟩
theorem ok_pairsR {f f1 C : Addr} {fd fd1 : FuncData} (F : Fun K "_law_pairs" "_law_pairs" sRtPairs f fd) (D1 : Df K mg "_law_pair" sRtPair ["_law_value"] f1 fd1) (G1 : FnOk P w K mg base CX0 3 f1 fd1 ["_law_value"] (spPairR K C)) (B : Bl mg) : FnOk P w K mg base CX0 4 f fd ["_law_value"] (spPairsR K C) := by
  refine F.ok sc_pairsR (fun vs H Q E h => ?_) (fun cdv A outer s H vs Q E hr h => ?_)
  · obtain ⟨a, xs, qs, rfl, _⟩ := h
    rfl
  · obtain ⟨a, xs, qs, rfl, ha, hl, few, hq, q⟩ := h
    refine ⟨_, pss_one (ps_ret (pe_ifExp (pt_val (pe_callB call_isi (by rfl) B.isi PyProof.Rows.boot_isinstance (pa_cons (pv 0) (pa_cons (pe_bltn (v := .ty "list") (by rfl) B.list PyProof.Rows.boot_list rfl) pa_nil))))
      (pe_lc (own := [("_law_one", 1)]) (g := gName 1) (tt := tYes) (te := tCall (spPairR K C) [] E0 (tCons (tVar 1) tNil)) rfl sc_pairsR.nd (pi_list (pv 0)) (blkOk_by (N := nPairsR) (sc := defScope sRtPairs) (by decide +kernel)) (fun _ _ _ _ _ => pg_name (i := 1) sc_pairsR.nd rfl (Or.inl rfl)) (fun _ _ _ _ _ => pts_nil)
        (fun _ _ _ _ _ => pe_call G1 hr rfl D1.g D1.F.kp D1.b .nil pass0 (pa_cons (pv 1) pa_nil))) pe_non)), ?_⟩
    refine ⟨_, rfl, V.ref a, V.ty "list", _, _, true, rfl, .ty _, .base (TyOf.lst ha), (by unfold PySem.W.kitOne; rw [if_pos (by simp)]), true, rfl, iteT ?_⟩
    refine ⟨_, rfl, a, rfl, ⟨xs, sl_of ha⟩, fun D hD => ?_⟩
    refine lc_list (xs := xs) (fun k G => Same H G ∧ ∃ acc, G D = some (.lst acc) ∧ acc.length = k ∧ ∀ (i : Nat) (x : V), acc[i]? = some x → ∃ (t : Addr) (z : Int × Int), x = .ref t ∧ qs[i]? = some z ∧ PairAt K G t z ∧ t ≠ D) ⟨same_new hD, [], upd_same, rfl, fun i x h => by simp at h⟩ (fun k G _ z => sl_of (z.1 _ _ ha)) ?_ ?_
    · rintro k x G hx ⟨sG, acc, hacc, hlen, hall⟩
      have hk := lt_of_at hx
      obtain ⟨z, hz⟩ : ∃ z, qs[k]? = some z := ⟨qs[k]'(by omega), by simp [show k < qs.length by omega]⟩
      obtain ⟨p, rfl, hp⟩ := hq k x z hx hz
      refine ⟨rfl, _, rfl, p, z, rfl, rat_s hp sG, fun G2 t s2 ht0 ht => ?_⟩
      have ntD : t ≠ D := fun e => by rw [e, hacc] at ht0; cases ht0
      have mt : ∀ {u : Addr} {ys : List V}, u ≠ D → SqT K G2 u ys → SqT K (upd G2 D (.lst (acc ++ [.ref t]))) u ys := fun {u ys} n h => by
        rcases h with (h | ⟨z, h⟩) | h
        · exact .inl (.inl (by rw [upd_ne n]; exact h))
        · exact .inl (.inr ⟨z, by rw [upd_ne n]; exact h⟩)
        · exact .inr h
      refine ⟨acc, s2 _ _ hacc, szlt (by omega), same_mut (sG.trans s2) hD, acc ++ [.ref t], upd_same, by simp [hlen], fun i y hi => ?_⟩
      by_cases c : i < acc.length
      · rw [List.getElem?_append_left c] at hi
        obtain ⟨u, w', e1, e2, e3, e4⟩ := hall i y hi
        exact ⟨u, w', e1, e2, mt e4 (pair_sR e3 s2), e4⟩
      · rw [List.getElem?_append_right (by omega)] at hi
        have e0 : i - acc.length = 0 := by
          cases e : i - acc.length with
          | zero => rfl
          | succ n => rw [e] at hi; simp at hi
        rw [e0] at hi
        simp at hi
        have : i = k := by omega
        subst this
        exact ⟨t, z, hi.symm, hz, mt ntD ht, ntD⟩
    · rintro G ⟨sG, acc, hacc, hlen, hall⟩
      refine q G D sG hD (.lst (sl_of hacc) ?_)
      have key : ∀ (ys : List V) (zs : List (Int × Int)), ys.length = zs.length → (∀ (i : Nat) (x : V), ys[i]? = some x → ∃ (t : Addr) (z : Int × Int), x = .ref t ∧ zs[i]? = some z ∧ PairAt K G t z) → DpAll K G ys (zs.map dP) := by
        intro ys
        induction ys with
        | nil => intro zs e _; cases zs with
          | nil => exact .nil
          | cons _ _ => simp at e
        | cons y ys ih =>
          intro zs e h
          cases zs with
          | nil => simp at e
          | cons z zs =>
            obtain ⟨t, z', e1, e2, e3⟩ := h 0 y rfl
            simp at e2
            subst e2
            subst e1
            exact .cons (dP_mk e3) (ih zs (by simpa using e) fun i x hx => by simpa using h (i + 1) x (by simpa using hx))
      exact key acc qs (by omega) fun i x hx => by
        obtain ⟨t, z, e1, e2, e3, _⟩ := hall i x hx
        exact ⟨t, z, e1, e2, e3⟩
theorem sc_shownR : FnScope ["_law_pair_here"] ["_law_pair_here"] (defScope sShownR) := ⟨rfl, rfl, rfl, by decide +kernel, rfl, by decide +kernel, by decide +kernel⟩
theorem ok_shownR {f : Addr} {fd : FuncData} (F : Fun K "_law_shown" "_law_shown" sShownR f fd) (ms : mg "str" = none) : FnOk P w K mg base CX0 1 f fd ["_law_pair_here"] (spShownR K) := by
  refine F.ok sc_shownR (fun vs H Q E h => ?_) (fun cdv A outer s H vs Q E hr h => ?_)
  · obtain ⟨p, x, rfl, _⟩ := h
    rfl
  · obtain ⟨p, x, rfl, hp, ⟨t1, t2⟩, q⟩ := h
    refine ⟨_, pss_one (ps_ret (pe_ifExp (pt_cmpR op_eq (pe_ix ix_tup (pv 0) pe_int (fun _ _ => rfl)) pe_int (nomark _)) (pe_callTy call_str_int (by rfl) ms PySem.Pv.boot_str (pa_cons (pe_ix ix_tup (pv 0) pe_int (fun _ _ => rfl)) pa_nil))
      (pe_op op_add_str (pe_op op_add_str (pe_callTy call_str_int (by rfl) ms PySem.Pv.boot_str (pa_cons (pe_ix ix_tup (pv 0) pe_int (fun _ _ => rfl)) pa_nil)) pe_str) (pe_callTy call_str_int (by rfl) ms PySem.Pv.boot_str (pa_cons (pe_ix ix_tup (pv 0) pe_int (fun _ _ => rfl)) pa_nil))))), ?_⟩
    have a1 := int_len t1
    have a2 := int_len t2
    have sz : sizeLine = 16777216 := rfl
    have l1 : (("/" : String) : Str).length = 1 := rfl
    refine ⟨_, rfl, p, _, _, _, rfl, rfl, hp, at_i1, rfl, _, rfl, ?_⟩
    by_cases c : x.2 = 1
    · rw [show decide (V.int x.2 = V.int 1) = true from decide_eq_true (by rw [c])]
      rw [show shQ x = toString x.1 by unfold shQ; rw [if_pos c]] at q
      exact iteT ⟨_, rfl, p, _, _, _, rfl, rfl, hp, at_i0, _, rfl, tiny_log t1, q⟩
    · rw [show decide (V.int x.2 = V.int 1) = false from decide_eq_false (fun e => c (V.int.inj e))]
      rw [show shQ x = (toString x.1 : Str) ++ ("/" : Str) ++ (toString x.2 : Str) by unfold shQ; rw [if_neg c]] at q
      refine iteF ⟨_, rfl, p, _, _, _, rfl, rfl, hp, at_i0, _, rfl, tiny_log t1, _, _, rfl, rfl, by omega, ?_⟩
      exact ⟨_, rfl, p, _, _, _, rfl, rfl, hp, at_i1, _, rfl, tiny_log t2, _, _, rfl, rfl, by simp only [strLen_append]; omega, q⟩
end
end Tk

namespace Tk
open PySem PySem.Spec PyProof.Rows L2
/-! ## the law's own walks within a lot -/
def freshU (as : List (Int × Int)) (l fo : List Int) (x : Int) : List Int := (as.filter fun p => decide (p.2 = x) && decide (p.1 ∈ l) && !decide (p.1 ∈ fo)).map (·.1)
theorem mem_freshU {as : List (Int × Int)} {l fo : List Int} {x y : Int} : y ∈ freshU as l fo x ↔ (x, y) ∈ upLaw as l ∧ y ∉ fo := by
  rw [mem_upLaw]
  unfold freshU
  simp only [List.mem_map, List.mem_filter, Bool.and_eq_true, decide_eq_true_eq, Bool.not_eq_true', decide_eq_false_iff_not]
  constructor
  · rintro ⟨⟨a, b⟩, ⟨h1, ⟨h2, h3⟩, h4⟩, rfl⟩
    simp at h2
    subst h2
    exact ⟨⟨h1, h3⟩, h4⟩
  · rintro ⟨⟨h1, h2⟩, h3⟩
    exact ⟨(y, x), ⟨h1, ⟨rfl, h2⟩, h3⟩, rfl⟩
theorem freshU_nd {as : List (Int × Int)} (hn : as.Nodup) (l fo : List Int) (x : Int) : (freshU as l fo x).Nodup := by
  unfold freshU
  show List.Pairwise _ _
  rw [List.pairwise_map]
  have h : (as.filter fun p => decide (p.2 = x) && decide (p.1 ∈ l) && !decide (p.1 ∈ fo)).Nodup := hn.filter _
  refine List.Pairwise.imp_of_mem (fun {a b} ha hb hne e => hne ?_) h
  have h1 := (List.mem_filter.mp ha).2
  have h2 := (List.mem_filter.mp hb).2
  simp at h1 h2
  exact Prod.ext e (h1.1.1.trans h2.1.1.symm)
theorem freshU_len (as : List (Int × Int)) (l fo : List Int) (x : Int) : (freshU as l fo x).length ≤ as.length := by
  unfold freshU
  rw [List.length_map]
  exact List.length_filter_le ..
theorem freshU_take {as : List (Int × Int)} {l fo : List Int} {x : Int} {i : Nat} {p : Int × Int} (h : as[i]? = some p) :
    freshU (as.take (i + 1)) l fo x = if p.2 = x ∧ p.1 ∈ l ∧ p.1 ∉ fo then freshU (as.take i) l fo x ++ [p.1] else freshU (as.take i) l fo x := by
  unfold freshU
  rw [take_at h, List.filter_append, List.map_append]
  by_cases c : p.2 = x ∧ p.1 ∈ l ∧ p.1 ∉ fo
  · rw [if_pos c]
    simp [c.1, c.2.1, c.2.2]
  · rw [if_neg c]
    by_cases c1 : p.2 = x
    · by_cases c2 : p.1 ∈ l
      · have c3 : p.1 ∈ fo := Classical.byContradiction fun z => c ⟨c1, c2, z⟩
        simp [c3]
      · simp [c2]
    · simp [c1]
theorem range_up {n : Nat} {as : List (Int × Int)} {l : List Int} (lot : Lot n l) : ∀ p ∈ upLaw as l, p.2 ∈ things n := fun ⟨x, y⟩ hp => lot.2 y (mem_upLaw.mp hp).2
theorem at_nat {l : List Int} {k : Nat} {x : Int} (h : l[k]? = some x) : atI (l.map V.int) ((k : Nat) : Int) = some (V.int x) := atI_nat (by rw [List.getElem?_map, h]; rfl)
def spLeaders (K : PySem.W.Frag) : Sp := fun vs H Q _ => ∃ (a b : Addr) (n : Nat) (as : List (Int × Int)) (l : List Int) (x : Int), vs = [.ref a, .ref b, .int x] ∧ PL K H a as ∧ n ≤ 60 ∧ Prs n as ∧ SqL K H b (l.map V.int) ∧ Lot n l ∧ x ∈ l ∧
  ∀ (H' : Hp) (r : Addr) (ns : List Int), Same H H' → H r = none → H' r = some (.lst (ns.map V.int)) → (ns = l ↔ IsHead as l x) → Q (.ref r) H'
def spHeads (K : PySem.W.Frag) : Sp := fun vs H Q _ => ∃ (a b : Addr) (n : Nat) (as : List (Int × Int)) (l : List Int), vs = [.ref a, .ref b] ∧ PL K H a as ∧ n ≤ 60 ∧ Prs n as ∧ SqL K H b (l.map V.int) ∧ Lot n l ∧
  ∀ (H' : Hp) (r : Addr), Same H H' → H r = none → H' r = some (.lst ((headsL as l).map V.int)) → Q (.ref r) H'
section
variable {P : Program} {w : World} {K : PySem.W.Frag} {mg : Str → Option Value} {base : Heap}
abbrev nLead : List Str := ["_law_arrows", "_law_lot", "_law_thing", "_law_found", "_law_ahead", "_law_one", "_law_other"]
theorem headsL_take {as : List (Int × Int)} {l : List Int} {i : Nat} {x : Int} (h : l[i]? = some x) : (l.take (i + 1)).filter (headB as l) = if headB as l x = true then (l.take i).filter (headB as l) ++ [x] else (l.take i).filter (headB as l) := by
  rw [take_at h, List.filter_append]
  by_cases c : headB as l x = true
  · rw [if_pos c, List.filter_cons_of_pos c]; rfl
  · rw [if_neg c, List.filter_cons_of_neg c]; simp
end
end Tk

namespace Tk
open PySem PySem.Spec PyProof.Rows L2
def one1 (l : List Int) (p : Int × Int) : List (Int × Int) := if p.2 ∈ l then [p] else []
def dnT (l : List Int) (ts : List (Int × Int)) : List (Int × Int) := ts.flatMap fun p => one1 l p ++ one1 l (swp p)
theorem dnT_take {l : List Int} {ts : List (Int × Int)} {i : Nat} {p : Int × Int} (h : ts[i]? = some p) : dnT l (ts.take (i + 1)) = dnT l (ts.take i) ++ one1 l p ++ one1 l (swp p) := by
  unfold dnT
  rw [take_at h, List.flatMap_append]
  simp
theorem dnT_full {l : List Int} {ts : List (Int × Int)} {p : Int × Int} (h : p ∈ tieLaw ts l) : p ∈ dnT l ts := by
  obtain ⟨x, y⟩ := p
  obtain ⟨h1, h2⟩ := mem_tieLaw.mp h
  unfold dnT
  rw [List.mem_flatMap]
  rcases h1 with h1 | h1
  · refine ⟨(x, y), h1, List.mem_append_left _ ?_⟩
    unfold one1
    rw [if_pos h2]; simp
  · refine ⟨(y, x), h1, List.mem_append_right _ ?_⟩
    unfold one1
    rw [if_pos (show (swp (y, x)).2 ∈ l from h2)]
    simp [swp]
theorem hinv_len {n : Nat} {ps : List (Int × Int)} {st x : Int} {fo0 fo : List Int} {dn : List (Int × Int)} (h : HInv n ps st x fo0 fo dn) : fo.length ≤ n := by
  have := nodup_le h.nd (m := things n) (fun x hx => h.th x hx)
  rw [things_len] at this
  exact this
/-- one of the two looks at a tie -/
theorem half {K : PySem.W.Frag} {D : Ends} {σ : L2.St} {G : Hp} {i k : Nat} {T : String} {b pf : Addr} {n ka : Nat} {ps dn : List (Int × Int)} {st x u v : Int} {fo0 fo1 l : List Int}
    (h1 : σ[1]? = some (some (.ref b))) (h3 : σ[3]? = some (some (.ref pf))) (h4 : σ[4]? = some (some (.int (ka : Int)))) (hi : σ[i]? = some (some (.int u))) (hk : σ[k]? = some (some (.int v)))
    (hl : SqL K G b (l.map V.int)) (hf : G pf = some (.lst (fo1.map V.int))) (e0 : fo0[ka]? = some x) (inv : HInv n ps st x fo0 fo1 dn) (hx : Reach ps st x) (hn : n ≤ 60)
    (hp : v ∈ l → (u, v) ∈ ps) (lv : ∀ y ∈ l, y ∈ things n) (hT : T = "list")
    (q : ∀ (G' : Hp) (fo2 : List Int), (G' = G ∨ ∃ o, G' = upd G pf o) → G' pf = some (.lst (fo2.map V.int)) → HInv n ps st x fo0 fo2 (dn ++ one1 l (u, v)) → D.nx σ G') :
    tIfS (tAnd (tTest (tOp rEq (tVar i) (tOp (rIxL K) (tVar 3) (tVar 4)))) (tAnd (tTest (tOp (rIn K false) (tVar k) (tVar 1))) (tTest (tOp (rIn K true) (tVar k) (tVar 3)))))
      (tDrop (tBM K T rAppend (tVar 3) (tCons (tVar k) tNil))) tNext D σ G := by
  subst hT
  have at1 : fo1[ka]? = some x := pre_at inv.pre e0
  have few := hinv_len inv
  refine ⟨_, hi, _, h3, _, h4, pf, _, _, _, rfl, rfl, sl_of hf, at_nat at1, rfl, decide (u = x), dec_bl, ?_⟩
  by_cases c1 : u = x
  · rw [decide_eq_true c1]
    refine ⟨_, hk, _, h1, b, _, rfl, .inl hl, rfl, flat_ints l, _, in_bl, ?_⟩
    by_cases c2 : v ∈ l
    · rw [decide_eq_true c2]
      have eo : one1 l (u, v) = [(u, v)] := if_pos c2
      rw [eo] at q
      refine ⟨_, hk, _, h3, pf, _, rfl, .inl (sl_of hf), rfl, flat_ints fo1, _, notin_bl, ?_⟩
      by_cases c3 : v ∈ fo1
      · rw [decide_eq_true c3]
        exact iteF (q G fo1 (.inl rfl) hf (hinv_no inv fun _ => c3))
      · rw [decide_eq_false c3]
        refine ⟨_, h3, .inl ⟨rfl, _, sl_of hf⟩, _, hk, pf, _, _, rfl, rfl, hf, szlt (by rw [List.length_map]; omega), ?_⟩
        refine q _ (fo1 ++ [v]) (.inr ⟨_, rfl⟩) (by rw [upd_same, List.map_append]; rfl) ?_
        have := hinv_put inv hx (y := v) (by rw [← c1]; exact hp c2) (lv v c2) c3
        rw [← c1] at this
        rw [← c1]
        exact this
    · rw [decide_eq_false c2]
      have eo : one1 l (u, v) = [] := if_neg c2
      rw [eo, List.append_nil] at q
      exact iteF (q G fo1 (.inl rfl) hf inv)
  · rw [decide_eq_false c1]
    refine iteF (q G fo1 (.inl rfl) hf ?_)
    unfold one1
    by_cases c2 : v ∈ l
    · rw [if_pos c2]
      exact hinv_no inv fun e => absurd e c1
    · rw [if_neg c2, List.append_nil]
      exact inv
theorem range_tie {n : Nat} {ts : List (Int × Int)} {l : List Int} (lot : Lot n l) : ∀ p ∈ tieLaw ts l, p.2 ∈ things n := fun ⟨x, y⟩ hp => lot.2 y (mem_tieLaw.mp hp).2
def spHungX (K : PySem.W.Frag) : Sp := fun vs H Q _ => ∃ (a b : Addr) (n : Nat) (ts : List (Int × Int)) (l : List Int) (x : Int), vs = [.ref a, .ref b, .int x] ∧ PL K H a ts ∧ n ≤ 60 ∧ SqL K H b (l.map V.int) ∧ Lot n l ∧ x ∈ l ∧
  ∀ (H' : Hp) (r : Addr) (ns : List Int), Same H H' → H r = none → H' r = some (.lst (ns.map V.int)) → (ns = l ↔ ∀ y ∈ l, Reach (tieIn ts l) x y) → (∀ y, y ∈ ns ↔ Reach (tieIn ts l) x y) → Q (.ref r) H'
def spHung (K : PySem.W.Frag) : Sp := fun vs H Q _ => ∃ (a b : Addr) (n : Nat) (ts : List (Int × Int)) (l : List Int) (x : Int), vs = [.ref a, .ref b, .int x] ∧ PL K H a ts ∧ n ≤ 60 ∧ SqL K H b (l.map V.int) ∧ Lot n l ∧ x ∈ l ∧
  ∀ (H' : Hp) (r : Addr) (ns : List Int), Same H H' → H r = none → H' r = some (.lst (ns.map V.int)) → (ns = l ↔ ∀ y ∈ l, Reach (tieIn ts l) x y) → Q (.ref r) H'
def spLHangs (K : PySem.W.Frag) : Sp := fun vs H Q _ => ∃ (a b : Addr) (n : Nat) (ts : List (Int × Int)) (l : List Int), vs = [.ref a, .ref b] ∧ PL K H a ts ∧ n ≤ 60 ∧ SqL K H b (l.map V.int) ∧ Lot n l ∧
  ∀ (H' : Hp), Same H H' → Q (.bl (hangB ts l)) H'
section
variable {P : Program} {w : World} {K : PySem.W.Frag} {mg : Str → Option Value} {base : Heap}
abbrev nHung : List Str := ["_law_ties", "_law_lot", "_law_thing", "_law_found", "_law_ahead", "_law_one", "_law_other"]
theorem eqv_lnil (l : List Int) : PyData.eqv (.list (l.map .int)) (.list []) = decide (l = []) := by
  have := @eqv_lints l []
  exact this
end
end Tk

namespace Tk
open PySem PySem.Spec PyProof.Rows L2
/-! ## sorted, of lists of ints -/
section
open PySem.W
variable {X : Cx}
def rSortedR (K : PySem.W.Frag) : List V → Hp → VK → Prop := fun vs H Q => ∃ (a : Addr) (xs : List V) (os : List (List Int)), vs = [V.ref a] ∧ SqL K H a xs ∧ LsAt H xs os ∧
  ∀ (ys : List V) (os' : List (List Int)) (p : Addr), os'.Perm os → os'.Pairwise (· ≤ ·) → LsAt H ys os' → (∀ y ∈ ys, y ∈ xs) → H p = none → Q (.ref p) (upd H p (.lst ys))
theorem ls_zip {G : Hp} : ∀ {xs : List V} {os : List (List Int)}, LsAt G xs os → xs = (xs.zip os).map Prod.fst ∧ os = (xs.zip os).map Prod.snd ∧ ∀ b ∈ xs.zip os, ∃ r : Addr, b.1 = .ref r ∧ G r = some (.lst (b.2.map V.int))
  | [], [], _ => ⟨rfl, rfl, fun _ h => nomatch h⟩
  | x :: xs, o :: os, ⟨h1, h3⟩ => by
    obtain ⟨a, b, c⟩ := ls_zip h3
    refine ⟨by simp only [List.zip_cons_cons, List.map_cons]; rw [← a], by simp only [List.zip_cons_cons, List.map_cons]; rw [← b], fun z hz => ?_⟩
    simp only [List.zip_cons_cons] at hz
    rcases List.mem_cons.mp hz with e | e
    · rw [e]; exact h1
    · exact c z e
  | [], _ :: _, h => h.elim
  | _ :: _, [], h => h.elim
theorem ls_of {G : Hp} : ∀ {bs : List (V × List Int)}, (∀ b ∈ bs, ∃ r : Addr, b.1 = .ref r ∧ G r = some (.lst (b.2.map V.int))) → LsAt G (bs.map Prod.fst) (bs.map Prod.snd)
  | [], _ => trivial
  | b :: bs, h => ⟨h b (List.mem_cons_self ..), ls_of fun c hc => h c (List.mem_cons_of_mem _ hc)⟩
theorem each_vals : ∀ {bs : List (V × List Int)} {us : List Value}, Vals (bs.map Prod.fst) us → EachIs (fun (v : Value) (b : V × List Int) => RelV b.1 v) us bs
  | [], _, h => by cases h; exact .nil
  | b :: bs, _, h => by
    cases h with
    | cons h1 h2 => exact .cons h1 (each_vals h2)
theorem vals_each : ∀ {bs : List (V × List Int)} {us : List Value}, EachIs (fun (v : Value) (b : V × List Int) => RelV b.1 v) us bs → Vals (bs.map Prod.fst) us
  | _, _, .nil => .nil
  | _, _, .cons h1 h2 => .cons h1 (vals_each h2)
theorem cr_sortedR (hu : X.A.units + 64 < cLine) : CallR X (.builtin "sorted") (rSortedR X.K) := by
  intro pins s σ H vs us Q I r h
  obtain ⟨a, xs, os, rfl, hs, ls, q⟩ := h
  obtain ⟨its, rv, hl, hz⟩ := I.list hs
  rw [Vals.ref1 r]
  obtain ⟨e1, e2, e3⟩ := ls_zip ls
  generalize xs.zip os = bs at e1 e2 e3
  subst e1
  subst e2
  have each := each_vals rv
  have reads : EachIs (fun (v : Value) (b : V × List Int) => ∃ as, Reads s.heap v (PyData.list (b.2.map .int)) as) its bs := by
    clear q hs ls hl hz r
    induction each with
    | nil => exact .nil
    | @cons v b vs' bs' h1 h2 ih =>
      refine .cons ?_ (ih (fun c hc => e3 c (List.mem_cons_of_mem _ hc)) (by cases rv with | cons _ r2 => exact r2))
      obtain ⟨r0, er, hr⟩ := e3 b (List.mem_cons_self ..)
      rw [er] at h1
      exact Dp.reads I _ (.ref r0) v (.lst (sl_of hr) (dps_ints b.2)) h1
  refine sorted_data (enc := fun b : V × List Int => PyData.list (b.2.map .int)) (R := fun (v : Value) (b : V × List Int) => RelV b.1 v) hl.isList each reads (AllAlike.of fun b b' => by simp [alike, alike_ints]) (Sortable.others fun b => ⟨by simp, by simp⟩) (by rw [List.length_map] at hz; exact hz) (fun b hb => ?_) fun out hlen ho => ?_
  · have : PyData.depth (PyData.list (b.2.map .int)) ≤ 1 := by rw [PyData.depth, depth_ints]; exact Nat.le_refl _
    omega
  · rw [dataLe_rows (fun b : V × List Int => b.2)] at ho
    obtain ⟨ep, he'⟩ := PyProof.Rows.sortedAll_at s.heap its out.toArray
    have vo := vals_each ho
    generalize hbs : bs.mergeSort (fun p q => decide (p.2 ≤ q.2)) = bs' at ho vo
    have pm : bs'.Perm bs := by rw [← hbs]; exact List.mergeSort_perm ..
    have srt : bs'.Pairwise (fun p q => decide (p.2 ≤ q.2) = true) := by
      rw [← hbs]
      refine List.pairwise_mergeSort (fun a b c h1 h2 => ?_) (fun a b => ?_) bs
      · simp only [decide_eq_true_eq] at h1 h2 ⊢
        exact List.le_trans h1 h2
      · simp only [Bool.or_eq_true, decide_eq_true_eq]
        exact List.le_total _ _
    refine ⟨.ref _, upd H (s.heap.objs.size + 1) (.lst (bs'.map Prod.fst)), I.laid (t' := s.toks) (fun _ _ => PyProof.Rows.sortedAll_old) (Nat.le_succ _) ⟨by rw [List.length_map, pm.length_eq]; rw [List.length_map] at hz; exact hz, out, ep, vo, he'⟩, rfl, ?_⟩
    refine q _ (bs'.map Prod.snd) _ (pm.map _) ?_ (ls_of fun b hb => e3 b (pm.mem_iff.mp hb)) (fun y hy => ?_) (I.hok.fresh (Nat.le_succ _))
    · rw [List.pairwise_map]
      exact srt.imp fun h => of_decide_eq_true h
    · obtain ⟨b, hb, rfl⟩ := List.mem_map.mp hy
      exact List.mem_map.mpr ⟨b, pm.mem_iff.mp hb, rfl⟩
end
theorem perm_erase {α : Type} : ∀ {l : List α} {i : Nat} (h : i < l.length), ([l[i]] ++ l.eraseIdx i).Perm l
  | [], _, h => by simp at h
  | x :: l, 0, _ => by simp
  | x :: l, i + 1, h => by
    have ih := perm_erase (l := l) (i := i) (by simpa using h)
    simp only [List.getElem_cons_succ, List.eraseIdx_cons_succ]
    refine List.Perm.trans (List.Perm.swap x _ _) ?_
    exact List.Perm.cons x ih

/-! ## all lots, a drawn order -/
def FreshA (H : Hp) (D : Addr) (xs : List V) : Prop := ∀ x ∈ xs, ∃ r : Addr, x = .ref r ∧ H r = none ∧ r ≠ D
def spLots : Sp := fun vs H Q _ => ∃ n : Nat, vs = [.int n] ∧ n ≤ 5 ∧
  ∀ (H' : Hp) (r : Addr) (xs : List V) (os : List (List Int)), Same H H' → H r = none → H' r = some (.lst xs) → LsAt H' xs os → (∀ x ∈ xs, ∃ q : Addr, x = .ref q ∧ H q = none) → os.Perm (allLots n) → os.Pairwise (· ≤ ·) → Q (.ref r) H'
def spOrder : Sp := fun vs H Q _ => ∃ (a : Addr) (n : Nat), vs = [.ref a, .int n] ∧ Pot H a ∧ n ≤ 60 ∧
  ∀ (H' : Hp) (p : Addr) (o : List Int), SmX a H H' → Pot H' a → H p = none → p ≠ a → H' p = some (.lst (o.map V.int)) → o.Perm (things n) → Q (.ref p) H'
theorem ints_of {ys : List V} {l : List Int} (h : ys.Perm (l.map V.int)) : ∃ o : List Int, ys = o.map V.int ∧ o.Perm l := by
  refine ⟨ys.map (fun v => match v with | .int i => i | _ => 0), ?_, ?_⟩
  · rw [List.map_map]
    refine (List.map_id ys).symm.trans (List.map_congr_left fun v hv => ?_)
    obtain ⟨i, _, rfl⟩ := List.mem_map.mp (h.mem_iff.mp hv)
    rfl
  · have := h.map (fun v => match v with | V.int i => i | _ => 0)
    rw [List.map_map] at this
    have e : ((fun v => match v with | V.int i => i | _ => 0) ∘ V.int) = (id : Int → Int) := by funext z; rfl
    rw [e, List.map_id] at this
    exact this
theorem pow5 {k : Nat} (h : k ≤ 5) : 2 ^ k ≤ 32 := Nat.le_trans (Nat.pow_le_pow_right (by decide) h) (by decide)
section
variable {P : Program} {w : World} {K : PySem.W.Frag} {mg : Str → Option Value} {base : Heap}
abbrev nLots : List Str := ["_law_many", "_law_found", "_law_thing", "_law_lot"]
abbrev nOrder : List Str := ["_law_pot_here", "_law_many", "_law_left", "_law_found", "_law_turn"]
end
end Tk

namespace Tk
/-- places told so far: before (i, j) -/
structure Sn (n i j : Nat) (ix : List (Nat × Nat)) : Prop where
  nd : ix.Nodup
  bd : ∀ q ∈ ix, q.1 < q.2 ∧ q.2 < n ∧ (q.1 < i ∨ (q.1 = i ∧ q.2 < j))
theorem sn_0 (n i j : Nat) : Sn n i j [] := ⟨List.nodup_nil, (fun _ h => nomatch h)⟩
theorem sn_up {n i j i' j' : Nat} {ix : List (Nat × Nat)} (h : Sn n i j ix) (hh : i < i' ∨ (i = i' ∧ j ≤ j')) : Sn n i' j' ix :=
  ⟨h.nd, fun q hq => by
    obtain ⟨a, b, c⟩ := h.bd q hq
    refine ⟨a, b, ?_⟩
    rcases c with c | ⟨c1, c2⟩ <;> rcases hh with d | ⟨d1, d2⟩
    · left; omega
    · left; omega
    · left; omega
    · right; omega⟩
theorem sn_end {n i j : Nat} {ix : List (Nat × Nat)} (h : Sn n i j ix) (hj : n ≤ j) : Sn n (i + 1) 0 ix :=
  ⟨h.nd, fun q hq => by
    obtain ⟨a, b, c⟩ := h.bd q hq
    exact ⟨a, b, by left; omega⟩⟩
theorem sn_put {n i j : Nat} {ix : List (Nat × Nat)} (h : Sn n i j ix) (hij : i < j) (hj : j < n) : Sn n i (j + 1) (ix ++ [(i, j)]) := by
  refine ⟨?_, ?_⟩
  · rw [List.nodup_append]
    refine ⟨h.nd, by simp, ?_⟩
    intro a ha b hb e
    simp at hb
    subst hb
    subst e
    have := (h.bd _ ha).2.2
    simp at this
  · intro q hq
    rcases List.mem_append.mp hq with c | c
    · obtain ⟨a, b, d⟩ := h.bd q c
      exact ⟨a, b, by omega⟩
    · simp at c
      subst c
      exact ⟨hij, hj, by right; exact ⟨rfl, by simp⟩⟩
theorem sn_few {n i j : Nat} {ix : List (Nat × Nat)} (h : Sn n i j ix) (hn : n ≤ 6) : ix.length ≤ 36 := by
  have sub : ∀ q ∈ ix, q ∈ (List.range 6).flatMap fun a => (List.range 6).map fun b => (a, b) := fun q hq => by
    obtain ⟨a, b, _⟩ := h.bd q hq
    simp only [List.mem_flatMap, List.mem_map, List.mem_range]
    exact ⟨q.1, by omega, q.2, by omega, rfl⟩
  have := nodup_le h.nd sub
  have e : ((List.range 6).flatMap fun a => (List.range 6).map fun b => (a, b)).length = 36 := by decide
  omega
/-- the item at a place -/
def it (o : List Int) (i : Nat) : Int := o.getD i 0
def prA (o : List Int) (q : Nat × Nat) : Int × Int := (it o q.1, it o q.2)
def prT (o : List Int) (q : Nat × Nat) : Int × Int := (if it o q.2 < it o q.1 then it o q.2 else it o q.1, if it o q.2 > it o q.1 then it o q.2 else it o q.1)
theorem it_some {o : List Int} {i : Nat} (h : i < o.length) : o[i]? = some (it o i) := by
  unfold it
  rw [List.getD_eq_getElem?_getD, List.getElem?_eq_getElem h]; rfl
theorem it_mem {o : List Int} {i : Nat} (h : i < o.length) : it o i ∈ o := List.mem_of_getElem? (it_some h)
theorem it_inj {o : List Int} (hn : o.Nodup) {i j : Nat} (hi : i < o.length) (hj : j < o.length) (e : it o i = it o j) : i = j := by
  have h1 := it_some hi
  have h2 := it_some hj
  rw [e] at h1
  obtain ⟨_, a⟩ := List.getElem?_eq_some_iff.mp h1
  obtain ⟨_, b⟩ := List.getElem?_eq_some_iff.mp h2
  exact (List.getElem_inj hn).mp (a.trans b.symm)
def PrsN (n : Nat) (ps : List (Int × Int)) : Prop := ps.Nodup ∧ ps.length < 60 ∧ ∀ p ∈ ps, 0 ≤ p.1 ∧ p.1 < (n : Int) ∧ 0 ≤ p.2 ∧ p.2 < (n : Int) ∧ p.1 ≠ p.2
section
variable {n i j : Nat} {o : List Int} {ix : List (Nat × Nat)}
theorem prs_a (ho : o.Perm (things n)) (h : Sn n i j ix) (hn : n ≤ 6) : PrsN n (ix.map (prA o)) := by
  have nd : o.Nodup := ho.nodup_iff.mpr (things_nodup n)
  have ln : o.length = n := by rw [ho.length_eq, things_len]
  refine ⟨?_, by rw [List.length_map]; have := sn_few h hn; omega, ?_⟩
  · show List.Pairwise _ _
    rw [List.pairwise_map]
    refine List.Pairwise.imp_of_mem (fun {a b} ha hb hne e => hne ?_) h.nd
    obtain ⟨a1, a2, _⟩ := h.bd a ha
    obtain ⟨b1, b2, _⟩ := h.bd b hb
    have e1 := congrArg Prod.fst e
    have e2 := congrArg Prod.snd e
    exact Prod.ext (it_inj nd (by omega) (by omega) e1) (it_inj nd (by omega) (by omega) e2)
  · intro p hp
    obtain ⟨q, hq, rfl⟩ := List.mem_map.mp hp
    obtain ⟨q1, q2, _⟩ := h.bd q hq
    have m1 := mem_things.mp (ho.mem_iff.mp (it_mem (o := o) (i := q.1) (by omega)))
    have m2 := mem_things.mp (ho.mem_iff.mp (it_mem (o := o) (i := q.2) (by omega)))
    refine ⟨m1.1, m1.2, m2.1, m2.2, fun e => ?_⟩
    have := it_inj nd (by omega) (by omega) e
    omega
theorem acy_a (ho : o.Perm (things n)) (h : Sn n i j ix) : Acy (ix.map (prA o)) := by
  have nd : o.Nodup := ho.nodup_iff.mpr (things_nodup n)
  have ln : o.length = n := by rw [ho.length_eq, things_len]
  refine ⟨fun x => o.idxOf x, fun p hp => ?_⟩
  obtain ⟨q, hq, rfl⟩ := List.mem_map.mp hp
  obtain ⟨q1, q2, _⟩ := h.bd q hq
  have key : ∀ k, k < o.length → o.idxOf (it o k) = k := fun k hk => by
    have h1 : o.idxOf (it o k) < o.length := List.idxOf_lt_length_of_mem (it_mem hk)
    have h2 := List.getElem_idxOf h1
    have h3 := it_some hk
    obtain ⟨_, h4⟩ := List.getElem?_eq_some_iff.mp h3
    exact (List.getElem_inj nd).mp (h2.trans h4.symm)
  show o.idxOf (it o q.1) < o.idxOf (it o q.2)
  rw [key _ (by omega), key _ (by omega)]
  exact q1
theorem prs_t (ho : o.Perm (things n)) (h : Sn n i j ix) (hn : n ≤ 6) : PrsN n (ix.map (prT o)) ∧ ∀ p ∈ ix.map (prT o), p.1 < p.2 := by
  have nd : o.Nodup := ho.nodup_iff.mpr (things_nodup n)
  have ln : o.length = n := by rw [ho.length_eq, things_len]
  have lt : ∀ p ∈ ix.map (prT o), p.1 < p.2 := by
    intro p hp
    obtain ⟨q, hq, rfl⟩ := List.mem_map.mp hp
    obtain ⟨q1, q2, _⟩ := h.bd q hq
    have ne : it o q.1 ≠ it o q.2 := fun e => by
      have := it_inj nd (by omega) (by omega) e
      omega
    unfold prT
    split <;> split <;> simp <;> omega
  refine ⟨⟨?_, by rw [List.length_map]; have := sn_few h hn; omega, ?_⟩, lt⟩
  · show List.Pairwise _ _
    rw [List.pairwise_map]
    refine List.Pairwise.imp_of_mem (fun {a b} ha hb hne e => hne ?_) h.nd
    obtain ⟨a1, a2, _⟩ := h.bd a ha
    obtain ⟨b1, b2, _⟩ := h.bd b hb
    have e1 : (prT o a).1 = (prT o b).1 := congrArg Prod.fst e
    have e2 : (prT o a).2 = (prT o b).2 := congrArg Prod.snd e
    have both : (it o a.1 = it o b.1 ∧ it o a.2 = it o b.2) ∨ (it o a.1 = it o b.2 ∧ it o a.2 = it o b.1) := by
      simp only [prT] at e1 e2
      split at e1 <;> split at e1 <;> split at e2 <;> split at e2 <;> omega
    rcases both with ⟨c, d⟩ | ⟨c, d⟩
    · exact Prod.ext (it_inj nd (by omega) (by omega) c) (it_inj nd (by omega) (by omega) d)
    · have c' := it_inj nd (by omega) (by omega) c
      have d' := it_inj nd (by omega) (by omega) d
      omega
  · intro p hp
    have l := lt p hp
    obtain ⟨q, hq, rfl⟩ := List.mem_map.mp hp
    obtain ⟨q1, q2, _⟩ := h.bd q hq
    have m1 := mem_things.mp (ho.mem_iff.mp (it_mem (o := o) (i := q.1) (by omega)))
    have m2 := mem_things.mp (ho.mem_iff.mp (it_mem (o := o) (i := q.2) (by omega)))
    have r : 0 ≤ (prT o q).1 ∧ (prT o q).1 < (n : Int) ∧ 0 ≤ (prT o q).2 ∧ (prT o q).2 < (n : Int) := by
      simp only [prT]
      split <;> split <;> omega
    exact ⟨r.1, r.2.1, r.2.2.1, r.2.2.2, by omega⟩
end
end Tk

namespace Tk
open PySem PySem.Spec PyProof.Rows L2
theorem ta_x {a : Addr} {G G' : Hp} {acc : List V} {ps : List (Int × Int)} {k : Nat} (h : TA G acc ps k) (pa : Pot G a) (e : SmX a G G') : TA G' acc ps k :=
  ⟨h.1, fun i x hx => by
    obtain ⟨t, z, h1, h2, h3⟩ := h.2 i x hx
    obtain ⟨u, v, g, _⟩ := pa
    exact ⟨t, z, h1, h2, e _ _ (fun q => by rw [q, g] at h3; cases h3) h3⟩⟩
theorem ta_upd {G : Hp} {acc o : List V} {O : HO} {ps : List (Int × Int)} {k : Nat} {D : Addr} (h : TA G acc ps k) (hD : G D = some (.lst o)) : TA (upd G D O) acc ps k :=
  ⟨h.1, fun i x hx => by
    obtain ⟨t, z, h1, h2, h3⟩ := h.2 i x hx
    exact ⟨t, z, h1, h2, by rw [upd_ne (fun q => by rw [q, hD] at h3; cases h3)]; exact h3⟩⟩
theorem ta_more {G : Hp} {acc : List V} {ps qs : List (Int × Int)} {k : Nat} (h : TA G acc ps k) : TA G acc (ps ++ qs) k :=
  ⟨h.1, fun i x hx => by
    obtain ⟨t, z, h1, h2, h3⟩ := h.2 i x hx
    exact ⟨t, z, h1, by rw [List.getElem?_append_left (lt_of_at h2)]; exact h2, h3⟩⟩
/-- a list at D of new tuples for these pairs -/
def LT (G : Hp) (D : Addr) (ps : List (Int × Int)) : Prop := ∃ acc, G D = some (.lst acc) ∧ TA G acc ps ps.length
theorem lt_put {G : Hp} {D v : Addr} {ps : List (Int × Int)} {acc : List V} {x y : Int} (hD : G D = some (.lst acc)) (h : TA G acc ps ps.length) (hv : G v = none) :
    LT (upd (upd G v (.tup [.int x, .int y])) D (.lst (acc ++ [.ref v]))) D (ps ++ [(x, y)]) := by
  refine ⟨acc ++ [.ref v], upd_same, ?_⟩
  have := ta_put (z := (x, y)) (ta_more (qs := [(x, y)]) h) hD hv (by simp)
  rw [List.length_append]
  exact this
theorem lt_other {G : Hp} {D E v : Addr} {ps : List (Int × Int)} {O O' : HO} {e : List V} (h : LT G D ps) (ne : D ≠ E) (hE : G E = some (.lst e)) (hv : G v = none) : LT (upd (upd G v O) E O') D ps := by
  obtain ⟨acc, h1, h2⟩ := h
  have nD : D ≠ v := fun q => by rw [q, hv] at h1; cases h1
  have nE : E ≠ v := fun q => by rw [q, hv] at hE; cases hE
  refine ⟨acc, by rw [upd_ne ne, upd_ne nD]; exact h1, ?_⟩
  refine ta_upd (o := e) ?_ (by rw [upd_ne nE]; exact hE)
  exact ta_s h2 (same_new hv)
theorem lt_x {a : Addr} {G G' : Hp} {D : Addr} {ps : List (Int × Int)} (h : LT G D ps) (n : D ≠ a) (pa : Pot G a) (e : SmX a G G') : LT G' D ps :=
  let ⟨acc, h1, h2⟩ := h; ⟨acc, e _ _ n h1, ta_x h2 pa e⟩
theorem pot_s {G G' : Hp} {a : Addr} (h : Pot G a) (e : Same G G') : Pot G' a := let ⟨x, y, g, o⟩ := h; ⟨x, y, e _ _ g, o⟩
theorem plan_x {K : PySem.W.Frag} {C a : Addr} {H H' : Hp} {p : Addr} {n : Nat} {as ts : List (Int × Int)} (h : PlanAt K C H p n as ts) (pa : Pot H a) (e : SmX a H H') : PlanAt K C H' p n as ts := by
  obtain ⟨⟨dx, l, m, h1, h2, h3⟩, n6, h4, h5, h6, h7, h8, h9⟩ := h
  obtain ⟨x, y, ha, _⟩ := id pa
  have key : ∀ {l : Addr} {ps : List (Int × Int)}, PL K H l ps → PL K H' l ps := by
    rintro l ps ⟨xs, g1, g2⟩
    have g1' : SqL K H' l xs := by
      rcases g1 with (g | ⟨o, g⟩) | g
      · by_cases c : l = a
        · subst c
          rw [ha] at g
          cases g
          cases ps with
          | nil => cases g2
          | cons z zs =>
            cases g2 with
            | cons k1 _ =>
              obtain ⟨t, q, _⟩ := dP_inv k1
              cases q
        · exact .inl (.inl (e _ _ c g))
      · exact .inl (.inr ⟨o, e _ _ (fun c => by rw [c, ha] at g; cases g) g⟩)
      · exact .inr g
    refine ⟨xs, g1', ?_⟩
    clear g1 g1'
    induction ps generalizing xs with
    | nil => cases g2; exact .nil
    | cons z zs ih =>
      cases g2 with
      | cons k1 k2 =>
        obtain ⟨t, rfl, ht⟩ := dP_inv k1
        exact .cons (dP_mk (smx_t pa e ht)) (ih _ k2)
  exact ⟨⟨dx, l, m, e _ _ (fun c => by rw [c, ha] at h1; cases h1) h1, key h2, key h3⟩, n6, h4, h5, h6, h7, h8, h9⟩
theorem dps_x {K : PySem.W.Frag} {a : Addr} {G G' : Hp} {xs : List V} {ps : List (Int × Int)} (h : DpAll K G xs (ps.map dP)) (pg : Pot G a) (e : SmX a G G') : DpAll K G' xs (ps.map dP) := by
  induction ps generalizing xs with
  | nil => cases h; exact .nil
  | cons z zs ih =>
    cases h with
    | cons h1 h2 =>
      obtain ⟨t, rfl, ht⟩ := dP_inv h1
      exact .cons (dP_mk (smx_t pg e ht)) (ih h2)
/-- where the drawing of a plan stands -/
structure LP (a po pa pt : Addr) (H0 H1 : Hp) (o : List Int) (ixA ixT : List (Nat × Nat)) : Prop where
  sx : SmX a H0 H1
  pot : Pot H1 a
  ho : H1 po = some (.lst (o.map V.int))
  hA : LT H1 pa (ixA.map (prA o))
  hT : LT H1 pt (ixT.map (prT o))
structure Dist (a po pa pt : Addr) (H0 : Hp) : Prop where
  n1 : po ≠ a
  n2 : pa ≠ a
  n3 : pt ≠ a
  n4 : po ≠ pa
  n5 : po ≠ pt
  n6 : pa ≠ pt
  fA : H0 pa = none
  fT : H0 pt = none
section
variable {a po pa pt : Addr} {H0 H1 H2 : Hp} {o : List Int} {ixA ixT : List (Nat × Nat)}
theorem lp_draw (d : Dist a po pa pt H0) (h : LP a po pa pt H0 H1 o ixA ixT) (e : SmX a H1 H2) (p : Pot H2 a) : LP a po pa pt H0 H2 o ixA ixT :=
  ⟨h.sx.trans e, p, e _ _ d.n1 h.ho, lt_x h.hA d.n2 h.pot e, lt_x h.hT d.n3 h.pot e⟩
theorem lp_arr (d : Dist a po pa pt H0) (h : LP a po pa pt H0 H1 o ixA ixT) {acc : List V} (hD : H1 pa = some (.lst acc)) {v : Addr} (hv : H1 v = none) (q : Nat × Nat) :
    LP a po pa pt H0 (upd (upd H1 v (.tup [.int (it o q.1), .int (it o q.2)])) pa (.lst (acc ++ [.ref v]))) o (ixA ++ [q]) ixT := by
  obtain ⟨acc', e1, e2⟩ := h.hA
  rw [hD] at e1
  cases e1
  obtain ⟨x, y, g, gg⟩ := h.pot
  have nva : a ≠ v := fun z => by rw [z, hv] at g; cases g
  have nvo : po ≠ v := fun z => by have := h.ho; rw [z, hv] at this; cases this
  refine ⟨?_, ⟨x, y, by rw [upd_ne d.n2.symm, upd_ne nva]; exact g, gg⟩, by rw [upd_ne d.n4, upd_ne nvo]; exact h.ho, ?_, ?_⟩
  · exact smx_mut (h.sx.trans (smx_of (same_new hv))) d.fA
  · rw [List.map_append]
    exact lt_put hD e2 hv
  · exact lt_other h.hT d.n6.symm hD hv
theorem lp_tie (d : Dist a po pa pt H0) (h : LP a po pa pt H0 H1 o ixA ixT) {acc : List V} (hD : H1 pt = some (.lst acc)) {v : Addr} (hv : H1 v = none) (q : Nat × Nat) :
    LP a po pa pt H0 (upd (upd H1 v (.tup [.int (prT o q).1, .int (prT o q).2])) pt (.lst (acc ++ [.ref v]))) o ixA (ixT ++ [q]) := by
  obtain ⟨acc', e1, e2⟩ := h.hT
  rw [hD] at e1
  cases e1
  obtain ⟨x, y, g, gg⟩ := h.pot
  have nva : a ≠ v := fun z => by rw [z, hv] at g; cases g
  have nvo : po ≠ v := fun z => by have := h.ho; rw [z, hv] at this; cases this
  refine ⟨?_, ⟨x, y, by rw [upd_ne d.n3.symm, upd_ne nva]; exact g, gg⟩, by rw [upd_ne d.n5, upd_ne nvo]; exact h.ho, ?_, ?_⟩
  · exact smx_mut (h.sx.trans (smx_of (same_new hv))) d.fT
  · exact lt_other h.hA d.n6 hD hv
  · rw [List.map_append]
    exact lt_put hD e2 hv
end

theorem at_it {o : List Int} {i : Nat} (h : i < o.length) : atI (o.map V.int) (i : Int) = some (V.int (it o i)) := atI_nat (by rw [List.getElem?_map, it_some h]; rfl)
theorem dps_rev {K : PySem.W.Frag} {H : Hp} : ∀ {xs : List V} {ps : List (Int × Int)}, DpAll K H xs (ps.map dP) → DpAll K H xs.reverse (ps.reverse.map dP)
  | _, [], h => by cases h; exact .nil
  | _, p :: ps, h => by
    cases h with
    | cons h1 h2 =>
      rw [List.reverse_cons, List.reverse_cons, List.map_append]
      exact dps_app (dps_rev h2) (.cons h1 .nil)
/-- sorted, the tuples still are themselves -/
theorem ta_sort {G : Hp} {xs ys : List V} {ps : List (Int × Int)} (ta : TA G xs ps ps.length) (stb : SrtO.Stb (ltP (prV G)) ys xs) : TA G ys (ys.map (prV G)) (ys.map (prV G)).length :=
  ⟨by simp, fun i y hy => by
    obtain ⟨k, hk⟩ := List.getElem?_of_mem (stb.perm.mem_iff.mp (List.mem_of_getElem? hy))
    obtain ⟨t, p, rfl, _, h3⟩ := ta.2 k y hk
    exact ⟨t, p, rfl, by rw [List.getElem?_map, hy]; show some (prV G (.ref t)) = _; rw [prV_eq h3], h3⟩⟩
def spWorldX (K : PySem.W.Frag) : Sp := fun vs H Q _ => ∃ (a : Addr) (n : Nat), vs = [.ref a, .int n] ∧ Pot H a ∧ n ≤ 6 ∧
  ∀ (H' : Hp) (p l m : Addr) (xs ys : List V) (as ts : List (Int × Int)), SmX a H H' → Pot H' a → H' p = some (.tup [.int n, .ref l, .ref m]) → H l = none → H m = none → l ≠ m → l ≠ a → m ≠ a →
    H' l = some (.lst xs) → H' m = some (.lst ys) → DpAll K H' xs (as.map dP) → DpAll K H' ys (ts.map dP) → Prs n as → Acy as → Prs n ts → (∀ q ∈ ts, q.1 < q.2) → TA H' xs as as.length → TA H' ys ts ts.length → Q (.ref p) H'
def spWorld (K : PySem.W.Frag) : Sp := fun vs H Q _ => ∃ (a : Addr) (n : Nat), vs = [.ref a, .int n] ∧ Pot H a ∧ n ≤ 6 ∧
  ∀ (H' : Hp) (p l m : Addr) (xs ys : List V) (as ts : List (Int × Int)), SmX a H H' → Pot H' a → H' p = some (.tup [.int n, .ref l, .ref m]) → H l = none → H m = none → l ≠ m → l ≠ a → m ≠ a →
    H' l = some (.lst xs) → H' m = some (.lst ys) → DpAll K H' xs (as.map dP) → DpAll K H' ys (ts.map dP) → Prs n as → Acy as → Prs n ts → (∀ q ∈ ts, q.1 < q.2) → Q (.ref p) H'
def spMade (K : PySem.W.Frag) (C : Addr) : Sp := fun vs H Q _ => ∃ (a p l m : Addr) (n : Nat) (xs ys : List V) (as ts : List (Int × Int)), vs = [.ref a, .ref p] ∧ Pot H a ∧ H p = some (.tup [.int n, .ref l, .ref m]) ∧ l ≠ a ∧ m ≠ a ∧
  H l = some (.lst xs) ∧ H m = some (.lst ys) ∧ DpAll K H xs (as.map dP) ∧ DpAll K H ys (ts.map dP) ∧ n ≤ 6 ∧ Prs n as ∧ Acy as ∧ Prs n ts ∧ (∀ q ∈ ts, q.1 < q.2) ∧
  ∀ (H' : Hp) (x : Addr) (as' ts' : List (Int × Int)), SmX a H H' → Pot H' a → as'.Perm as → ts'.Perm ts → PlanAt K C H' x n as' ts' → Q (.ref x) H'
section
variable {P : Program} {w : World} {K : PySem.W.Frag} {mg : Str → Option Value} {base : Heap}
abbrev nWorld : List Str := ["_law_pot_here", "_law_many", "_law_order_here", "_law_arrows", "_law_ties", "_law_dense", "_law_at", "_law_to"]
abbrev nMade : List Str := ["_law_pot_here", "_law_world_here", "_law_arrows", "_law_ties"]
end
end Tk

namespace Tk
open PySem PySem.Spec PyProof.Rows L2
theorem reach_sub {ps qs : List (Int × Int)} {a b : Int} (s : ∀ p ∈ ps, p ∈ qs) (h : Reach ps a b) : Reach qs a b := by
  induction h with
  | refl => exact .refl
  | tail _ hp ih => exact .tail ih (s _ hp)
theorem heads_congr {as as' : List (Int × Int)} {l : List Int} (e : as'.Perm as) : headsL as' l = headsL as l := by
  unfold headsL
  refine List.filter_congr fun x _ => ?_
  rw [Bool.eq_iff_iff, headB_iff, headB_iff]
  unfold IsHead
  constructor
  · exact fun h y hy => reach_sub (fun ⟨u, v⟩ hp => by rw [mem_upIn] at hp ⊢; exact ⟨e.mem_iff.mp hp.1, hp.2⟩) (h y hy)
  · exact fun h y hy => reach_sub (fun ⟨u, v⟩ hp => by rw [mem_upIn] at hp ⊢; exact ⟨e.mem_iff.mpr hp.1, hp.2⟩) (h y hy)
theorem hang_congr {ts ts' : List (Int × Int)} {l : List Int} (e : ts'.Perm ts) : hangB ts' l = hangB ts l := by
  rw [Bool.eq_iff_iff, hangB_iff, hangB_iff]
  cases l with
  | nil => exact Iff.rfl
  | cons x l =>
    constructor
    · exact fun h y hy => reach_sub (fun ⟨u, v⟩ hp => by rw [mem_tieIn] at hp ⊢; rw [e.mem_iff, e.mem_iff] at hp; exact hp) (h y hy)
    · exact fun h y hy => reach_sub (fun ⟨u, v⟩ hp => by rw [mem_tieIn] at hp ⊢; rw [e.mem_iff, e.mem_iff]; exact hp) (h y hy)
theorem pl_x {K : PySem.W.Frag} {a l : Addr} {H H' : Hp} {ps : List (Int × Int)} (h : PL K H l ps) (pa : Pot H a) (e : SmX a H H') : PL K H' l ps := by
  obtain ⟨x, y, ha, _⟩ := id pa
  obtain ⟨xs, g1, g2⟩ := h
  refine ⟨xs, ?_, dps_x g2 pa e⟩
  rcases g1 with (g | ⟨o, g⟩) | g
  · by_cases c : l = a
    · subst c
      rw [ha] at g
      cases g
      cases ps with
      | nil => cases g2
      | cons z zs =>
        cases g2 with
        | cons k1 _ =>
          obtain ⟨t, q, _⟩ := dP_inv k1
          cases q
    · exact .inl (.inl (e _ _ c g))
  · exact .inl (.inr ⟨o, e _ _ (fun c => by rw [c, ha] at g; cases g) g⟩)
  · exact .inr g
theorem str_eq {d e : PyData} (h : d = e) : V.bl (decide (V.str d.shown = V.str e.shown)) = V.bl true := by subst h; simp
theorem str_ne {d e : PyData} (h : d = e) : V.bl (!decide (V.str d.shown = V.str e.shown)) = V.bl false := by subst h; simp
/-- the data of the first of a list, or None -/
def topD : List Int → PyData
  | [] => .none
  | x :: _ => .int x
theorem dp_top {K : PySem.W.Frag} {H : Hp} : ∀ (l : List Int), Dp K H (topV l) (topD l)
  | [] => .non
  | x :: _ => .int x
theorem goodD_none : GoodD .none 0 64 := ⟨by simp [PyData.showable], by simp [PyData.hasDict], by simp [PyData.depth], by simp [PyData.canLay0], by simp [PyData.intsShort], by simp [PyData.weight]⟩
theorem goodD_int {x : Int} (h : x.natAbs < 10 ^ 12) : GoodD (.int x) 0 64 := by
  have g := goodA_ints (ns := [x]) fun y hy => by rw [List.mem_singleton.mp hy]; exact h
  refine ⟨?_, by simp [PyData.hasDict], by simp [PyData.depth], by simp [PyData.canLay0], ?_, ?_⟩
  · have := g.sh
    simpa [PyData.showableAll] using this
  · have := g.ish
    simpa [PyData.intsShortAll] using this
  · have := g.wt
    simp only [List.map_cons, List.map_nil, PyData.weightAll, List.length_cons, List.length_nil] at this
    omega
theorem top_rep {l : List Int} (h : ∀ x ∈ l, x.natAbs < 10 ^ 12) : RepOk (.list [topD l, topD l]) := by
  have g : GoodD (topD l) 0 64 := by
    cases l with
    | nil => exact goodD_none
    | cons x l => exact goodD_int (h x (List.mem_cons_self ..))
  exact goodD_rep (goodD_list (goodA_cons g (goodA_cons g goodA_nil))) (by decide) (by decide)
theorem rep_tup {ns : List Int} (h : ∀ n ∈ ns, n.natAbs < 10 ^ 12) (hl : ns.length ≤ 1000) : RepOk (.tuple (ns.map .int)) := by
  obtain ⟨a, b, c, d, e⟩ := ints_facts h
  refine ⟨by simp only [PyData.showable]; exact a, by simp only [PyData.hasDict]; exact b, by simp only [PyData.depth]; omega, ?_⟩
  refine PyData.shown_fits (B := 13) (by decide) (by decide) ?_ ?_
  · simp only [PyData.leavesShort]
    exact PyData.leavesShortAll_of_canLay0 13 _ d (PyData.intsShortAll_ints ns h)
  · simp only [PyData.weight]; omega
/-- what is given stands as a tuple or as a list -/
def GivenAt (K : PySem.W.Frag) (H : Hp) (g : Addr) (l : List Int) (d : PyData) : Prop := (SqT K H g (l.map V.int) ∧ d = .tuple (l.map .int)) ∨ (SqL K H g (l.map V.int) ∧ d = .list (l.map .int))
theorem given_s {K : PySem.W.Frag} {H H' : Hp} {g : Addr} {l : List Int} {d : PyData} (h : GivenAt K H g l d) (e : Same H H') : GivenAt K H' g l d :=
  h.elim (fun z => .inl ⟨same_t e z.1, z.2⟩) (fun z => .inr ⟨same_l e z.1, z.2⟩)
theorem given_a {K : PySem.W.Frag} {H : Hp} {g : Addr} {l : List Int} {d : PyData} (h : GivenAt K H g l d) : SqA K H g (l.map V.int) := h.elim (fun z => .inr z.1) (fun z => .inl z.1)
theorem given_d {K : PySem.W.Frag} {H : Hp} {g : Addr} {l : List Int} {d : PyData} (h : GivenAt K H g l d) : Dp K H (.ref g) d := by
  rcases h with ⟨h, rfl⟩ | ⟨h, rfl⟩
  · exact .tup h (dps_ints l)
  · exact .lst h (dps_ints l)
theorem given_rep {K : PySem.W.Frag} {H : Hp} {g : Addr} {l : List Int} {d : PyData} (h : GivenAt K H g l d) (sm : ∀ n ∈ l, n.natAbs < 10 ^ 12) (hl : l.length ≤ 1000) : RepOk d := by
  rcases h with ⟨h, rfl⟩ | ⟨h, rfl⟩
  · exact rep_tup sm hl
  · exact rep_ints sm hl
theorem lot_small {n : Nat} {l : List Int} (h : Lot n l) (n6 : n ≤ 6) : ∀ x ∈ l, x.natAbs < 10 ^ 12 := fun x hx => by
  have := mem_things.mp (h.2 x hx)
  have : (10 : Nat) ^ 12 = 1000000000000 := by decide
  omega
/-! which of the bent lots are lots -/
def LotY (n : Nat) (o : Option (List (Option Int))) (b : Bool) : Prop := b = true ↔ ∃ l, LotO n o l
theorem loty_rev {n : Nat} {l : List Int} (h : Lot n l) : LotY n (some (l.reverse.map some)) (decide (l.length < 2)) := by
  unfold LotY
  rw [decide_eq_true_eq]
  constructor
  · intro hl
    refine ⟨l, ?_, h⟩
    match l, hl with
    | [], _ => rfl
    | [x], _ => rfl
  · rintro ⟨m, e, hm⟩
    have e' := some_inj (Option.some.inj e)
    subst e'
    match l, h, hm with
    | [], _, _ => simp
    | [x], _, _ => simp
    | x :: y :: l, h, hm =>
      have h1 := (List.pairwise_cons.mp h.1).1 y (by simp)
      have h2 := List.pairwise_reverse.mp hm.1
      have h3 := (List.pairwise_cons.mp h2).1 y (by simp)
      omega
theorem loty_dup {n : Nat} {l : List Int} (h : Lot n l) : LotY n (some ((l ++ l.take 1).map some)) (decide (l = [])) := by
  unfold LotY
  rw [decide_eq_true_eq]
  constructor
  · rintro rfl
    exact ⟨[], rfl, h⟩
  · rintro ⟨m, e, hm⟩
    have e' := some_inj (Option.some.inj e)
    subst e'
    cases l with
    | nil => rfl
    | cons x l =>
      have nd := lt_nd hm.1
      simp at nd
theorem loty_big {n : Nat} {l : List Int} : LotY n (some ((l ++ [(n : Int)]).map some)) false := by
  refine ⟨fun z => (nomatch z), ?_⟩
  rintro ⟨m, e, hm⟩
  have e' := some_inj (Option.some.inj e)
  subst e'
  have := mem_things.mp (hm.2 (n : Int) (by simp))
  omega
theorem loty_none {n : Nat} {os : List (Option Int)} : LotY n (some (none :: os)) false := by
  refine ⟨fun z => (nomatch z), ?_⟩
  rintro ⟨m, e, hm⟩
  cases m with
  | nil => cases Option.some.inj e
  | cons x m =>
    have := (List.cons.inj (Option.some.inj e)).1
    cases this
theorem each_app {K : PySem.W.Frag} {H : Hp} : ∀ {xs ys : List V} {os ps : List (Option Int)}, EachV K H xs os → EachV K H ys ps → EachV K H (xs ++ ys) (os ++ ps)
  | [], _, [], _, _, h => h
  | x :: xs, _, o :: os, _, ⟨h1, h2⟩, h => ⟨h1, each_app h2 h⟩
  | [], _, _ :: _, _, h, _ => h.elim
  | _ :: _, _, [], _, h, _ => h.elim
theorem tail_cut (l : List Int) : cutV (l.map V.int) (some 1) none = (l.drop 1).map V.int := by
  cases l with
  | nil => rfl
  | cons x l =>
    unfold cutV HT.sIx
    simp
    exact List.take_of_length_le (by simp)
theorem head_cut (l : List Int) : cutV (l.map V.int) none (some 1) = (l.take 1).map V.int := by
  cases l with
  | nil => rfl
  | cons n ns =>
    unfold cutV HT.sIx
    simp [List.length_map]
end Tk

namespace Tk
open PySem PySem.Spec PyProof.Rows L2
def spPick (K : PySem.W.Frag) : Sp := fun vs H Q _ => ∃ (a b : Addr) (xs : List V), vs = [.ref a, .ref b] ∧ Pot H a ∧ H b = some (.lst xs) ∧ b ≠ a ∧ xs ≠ [] ∧ xs.length ≤ 1000 ∧
  ∀ (H' : Hp) (i : Nat) (v : V), SmX a H H' → Pot H' a → xs[i]? = some v → Q v H'
section
variable {P : Program} {w : World} {K : PySem.W.Frag} {mg : Str → Option Value} {base : Heap}
theorem sc_pick : FnScope ["_law_pot_here", "_law_some"] ["_law_pot_here", "_law_some"] (defScope sPick) := ⟨rfl, rfl, rfl, by decide +kernel, rfl, by decide +kernel, by decide +kernel⟩
theorem ok_pick {f f1 : Addr} {fd fd1 : FuncData} (F : Fun K "_law_pick" "_law_pick" sPick f fd) (D1 : Df K mg "_law_draw" sDraw ["_law_pot_here", "_law_room"] f1 fd1) (B : Bl mg) :
    FnOk P w K mg base CX0 2 f fd ["_law_pot_here", "_law_some"] (spPick K) := by
  have G1 : FnOk P w K mg base CX0 1 f1 fd1 ["_law_pot_here", "_law_room"] spDraw := ok_draw D1.F B
  refine F.ok sc_pick (fun vs H Q E h => ?_) (fun cdv A outer s H vs Q E hr h => ?_)
  · obtain ⟨a, b, xs, rfl, _⟩ := h
    rfl
  · obtain ⟨a, b, xs, rfl, pa, hb, nba, ne, few, q⟩ := h
    refine ⟨_, pss_one (ps_ret (pe_ix ix_list (pv 1) (pe_call G1 hr rfl D1.g D1.F.kp D1.b .nil pass0 (pa_cons (pv 0) (pa_cons (pe_callB call_len_seq (by rfl) B.len PySem.boot_len (pa_cons (pv 1) pa_nil)) pa_nil))) (fun _ _ => rfl))), ?_⟩
    have pos := List.length_pos_iff.mpr ne
    refine ⟨_, rfl, _, rfl, _, rfl, b, xs, rfl, .inl (sl_of hb), a, _, rfl, pa, by omega, by omega, fun H1 d s1 p1 d0 d1 => ?_⟩
    obtain ⟨i, rfl⟩ : ∃ i : Nat, d = (i : Int) := ⟨d.toNat, by omega⟩
    have il : i < xs.length := by omega
    exact ⟨b, xs, _, xs[i], rfl, rfl, sl_of (s1 _ _ nba hb), atI_nat (List.getElem?_eq_getElem il), q H1 i _ s1 p1 (List.getElem?_eq_getElem il)⟩

end
end Tk

namespace Tk
open PySem PySem.Spec PyProof.Rows L2
abbrev sRawR : Stmt := top 26
/-! ## lowest terms -/
theorem com_dvd {t b : Int} : comQ t b ∣ t ∧ comQ t b ∣ b := by
  have h1 : ((Nat.gcd t.natAbs b.natAbs : Nat) : Int) ∣ t := by
    have := Nat.gcd_dvd_left t.natAbs b.natAbs
    exact Int.ofNat_dvd_left.mpr this
  have h2 : ((Nat.gcd t.natAbs b.natAbs : Nat) : Int) ∣ b := by
    have := Nat.gcd_dvd_right t.natAbs b.natAbs
    exact Int.ofNat_dvd_left.mpr this
  unfold comQ
  split
  · exact ⟨h1, h2⟩
  · exact ⟨Int.neg_dvd.mpr h1, Int.neg_dvd.mpr h2⟩
theorem low_fac {t b : Int} (b0 : b ≠ 0) : ∃ k l : Int, lowQ t b = (k, l) ∧ t = comQ t b * k ∧ b = comQ t b * l := by
  obtain ⟨⟨k, hk⟩, ⟨l, hl⟩⟩ := com_dvd (t := t) (b := b)
  refine ⟨k, l, ?_, hk, hl⟩
  have c0 := com_ne (t := t) b0
  have e1 : t.fdiv (comQ t b) = k := by
    conv => lhs; rw [hk]
    rw [← hk]
    conv => lhs; arg 1; rw [hk]
    exact Int.mul_fdiv_cancel_left k c0
  have e2 : b.fdiv (comQ t b) = l := by
    conv => lhs; arg 1; rw [hl]
    exact Int.mul_fdiv_cancel_left l c0
  unfold lowQ
  rw [e1, e2]
structure LowOk (t b : Int) (q : Int × Int) : Prop where
  pos : 0 < q.2
  cop : Nat.gcd q.1.natAbs q.2.natAbs = 1
  top : q.1.natAbs ≤ t.natAbs
  bot : q.2.natAbs ≤ b.natAbs
  sgn : 0 < b → (q.1 < 0 ↔ t < 0) ∧ (q.1 = 0 ↔ t = 0)
theorem low_ok {t b : Int} (b0 : b ≠ 0) : LowOk t b (lowQ t b) := by
  obtain ⟨k, l, e, hk, hl⟩ := low_fac (t := t) b0
  rw [e]
  have c0 := com_ne (t := t) b0
  have ca := com_abs t b
  have g0 : 0 < Nat.gcd t.natAbs b.natAbs := Nat.gcd_pos_of_pos_right _ (by omega)
  have ak : t.natAbs = (comQ t b).natAbs * k.natAbs := by conv => lhs; rw [hk]; rw [Int.natAbs_mul]
  have al : b.natAbs = (comQ t b).natAbs * l.natAbs := by conv => lhs; rw [hl]; rw [Int.natAbs_mul]
  have cs : (0 < b → 0 < comQ t b) ∧ (¬ 0 < b → comQ t b < 0) := by
    unfold comQ
    refine ⟨fun h => ?_, fun h => ?_⟩
    · rw [if_pos h]; omega
    · rw [if_neg h]; omega
  generalize comQ t b = c at *
  refine ⟨?_, ?_, ?_, ?_, fun hb => ?_⟩
  · show 0 < l
    by_cases hb : 0 < b
    · have := cs.1 hb
      rw [hl] at hb
      rcases Int.lt_trichotomy l 0 with h | h | h
      · have := Int.mul_neg_of_pos_of_neg this h
        omega
      · rw [h] at hb; simp at hb
      · exact h
    · have h1 := cs.2 hb
      have hb2 : c * l < 0 := by rw [← hl]; omega
      rcases Int.lt_trichotomy l 0 with h | h | h
      · have := Int.mul_pos_of_neg_of_neg h1 h
        omega
      · rw [h] at hb2; simp at hb2
      · exact h
  · show Nat.gcd k.natAbs l.natAbs = 1
    have h := ca
    rw [ak, al, Nat.gcd_mul_left] at h
    have hc : 0 < c.natAbs := by omega
    have h2 : c.natAbs * 1 = c.natAbs * Nat.gcd k.natAbs l.natAbs := by rw [Nat.mul_one]; exact h
    exact (Nat.eq_of_mul_eq_mul_left hc h2).symm
  · show k.natAbs ≤ t.natAbs
    rw [ak]
    exact Nat.le_mul_of_pos_left _ (by omega)
  · show l.natAbs ≤ b.natAbs
    rw [al]
    exact Nat.le_mul_of_pos_left _ (by omega)
  · have h1 := cs.1 hb
    show (k < 0 ↔ t < 0) ∧ (k = 0 ↔ t = 0)
    rcases Int.lt_trichotomy k 0 with h | h | h
    · have : c * k < 0 := Int.mul_neg_of_pos_of_neg h1 h
      constructor <;> constructor <;> intro <;> omega
    · subst h
      simp at hk
      constructor <;> constructor <;> intro <;> omega
    · have : 0 < c * k := Int.mul_pos h1 h
      constructor <;> constructor <;> intro <;> omega
/-- in lowest terms already -/
theorem low_self {k l : Int} (l0 : 0 < l) (h : Nat.gcd k.natAbs l.natAbs = 1) : lowQ k l = (k, l) := by
  have c1 : comQ k l = 1 := by
    unfold comQ
    rw [if_pos l0, h]
    rfl
  unfold lowQ
  rw [c1, Int.fdiv_one, Int.fdiv_one]
theorem add_comQ (x y : Int × Int) : addQ x y = addQ y x := by
  unfold addQ
  rw [Int.add_comm, Int.mul_comm x.2 y.2]
theorem mul_comQ (x y : Int × Int) : mulQ x y = mulQ y x := by
  unfold mulQ
  rw [Int.mul_comm x.1 y.1, Int.mul_comm x.2 y.2]
/-- what the law draws, not in lowest terms -/
structure RawOk (q : Int × Int) : Prop where
  ne : q.2 ≠ 0
  top : q.1.natAbs < 2 ^ 120
  bot : q.2.natAbs < 2 ^ 110
structure Fine (q : Int × Int) : Prop where
  pos : 0 < q.2
  cop : Nat.gcd q.1.natAbs q.2.natAbs = 1
  top : q.1.natAbs < 2 ^ 120
  bot : q.2.natAbs < 2 ^ 110
theorem raw_fine {q : Int × Int} (h : RawOk q) : Fine (lowQ q.1 q.2) := by
  have g := low_ok (t := q.1) h.ne
  exact ⟨g.pos, g.cop, Nat.lt_of_le_of_lt g.top h.top, Nat.lt_of_le_of_lt g.bot h.bot⟩
theorem log_of {n k : Nat} (h : n < 2 ^ k) (k0 : 0 < k) : n.log2 < k := by
  by_cases h0 : n = 0
  · rw [h0]; simpa using k0
  · exact (Nat.log2_lt h0).mpr h
theorem fine_small {q : Int × Int} (h : Fine q) : Small q := ⟨h.pos, Nat.lt_of_lt_of_le (log_of h.bot (by decide)) (by decide), Nat.lt_of_lt_of_le (log_of h.top (by decide)) (by decide)⟩
theorem fine_tiny {q : Int × Int} (h : Fine q) : Tiny q := ⟨Nat.lt_trans h.top (by decide), Nat.lt_trans h.bot (by decide)⟩
theorem fine_top {q : Int × Int} (h : Fine q) : q.1.natAbs.log2 < 4000 := Nat.lt_of_lt_of_le (log_of h.top (by decide)) (by decide)
theorem fine_int {i : Int} (h : i.natAbs < 1000) : Fine (i, 1) := ⟨by show (0 : Int) < 1; decide, by show Nat.gcd i.natAbs 1 = 1; simp, Nat.lt_trans h (by decide), by show (1 : Nat) < 2 ^ 110; decide⟩
theorem neg_fine {q : Int × Int} (h : Fine q) : lowQ (-q.1) q.2 = (0 - q.1, q.2) := by
  rw [low_self h.pos (by rw [Int.natAbs_neg]; exact h.cop), Int.zero_sub]
theorem sub_zero {q : Int × Int} (h : Fine q) : subQ (0, 1) q = (0 - q.1, q.2) := by
  unfold subQ
  show lowQ (0 * q.2 - q.1 * 1) (1 * q.2) = _
  rw [Int.zero_mul, Int.mul_one, Int.one_mul, low_self h.pos (by rw [Int.zero_sub, Int.natAbs_neg]; exact h.cop)]
theorem abs_fine {q : Int × Int} (h : Fine q) : lowQ (if q.1 < 0 then -q.1 else q.1) q.2 = (if q.1 < 0 then -q.1 else q.1, q.2) := by
  refine low_self h.pos ?_
  split
  · rw [Int.natAbs_neg]; exact h.cop
  · exact h.cop
theorem sub_sgn {x y : Int × Int} (hx : 0 < x.2) (hy : 0 < y.2) : (sgnQ (subQ x y).1 < 0 ↔ x.1 * y.2 < y.1 * x.2) ∧ (sgnQ (subQ x y).1 ≤ 0 ↔ x.1 * y.2 ≤ y.1 * x.2) := by
  have b0 : 0 < x.2 * y.2 := Int.mul_pos hx hy
  have g := (low_ok (t := x.1 * y.2 - y.1 * x.2) (Int.ne_of_gt b0)).sgn b0
  have e : (subQ x y) = lowQ (x.1 * y.2 - y.1 * x.2) (x.2 * y.2) := rfl
  rw [← e] at g
  generalize x.1 * y.2 = u at g
  generalize y.1 * x.2 = v at g
  unfold sgnQ
  constructor
  · split
    · constructor <;> intro <;> omega
    · split <;> constructor <;> intro <;> omega
  · split
    · constructor <;> intro <;> omega
    · split <;> constructor <;> intro <;> omega
end Tk

namespace Tk
open PySem PySem.Spec PyProof.Rows L2
def spRawR : Sp := fun vs H Q _ => ∃ a : Addr, vs = [.ref a] ∧ Pot H a ∧ ∀ (H' : Hp) (r : Addr) (q : Int × Int), SmX a H H' → Pot H' a → H r = none → H' r = some (.tup [.int q.1, .int q.2]) → RawOk q → RawOk (q.1 * 3, q.2 * 3) → Q (.ref r) H'
section
variable {P : Program} {w : World} {K : PySem.W.Frag} {mg : Str → Option Value} {base : Heap}
abbrev nRawR : List Str := ["_law_pot_here", "_law_top", "_law_bottom", "_law_common", "_law_sign"]
theorem sc_rawR : FnScope nRawR ["_law_pot_here"] (defScope sRawR) := ⟨rfl, rfl, rfl, by decide +kernel, rfl, by decide +kernel, by decide +kernel⟩
theorem ok_rawR {f f1 f2 : Addr} {fd fd1 fd2 : FuncData} (F : Fun K "_law_raw" "_law_raw" sRawR f fd) (D1 : Df K mg "_law_draw" sDraw ["_law_pot_here", "_law_room"] f1 fd1) (D2 : Df K mg "_law_pick" sPick ["_law_pot_here", "_law_some"] f2 fd2) (B : Bl mg) : FnOk P w K mg base CX0 3 f fd ["_law_pot_here"] spRawR := by
  have G1 : FnOk P w K mg base CX0 1 f1 fd1 ["_law_pot_here", "_law_room"] spDraw := ok_draw D1.F B
  have G2 : FnOk P w K mg base CX0 2 f2 fd2 ["_law_pot_here", "_law_some"] (spPick K) := ok_pick D2.F D1 B
  refine F.ok sc_rawR (fun vs H Q E h => ?_) (fun cdv A outer s H vs Q E hr h => ?_)
  · obtain ⟨a, rfl, _⟩ := h
    rfl
  · obtain ⟨a, rfl, pot, q⟩ := h
    have hr1 : Room 1 _ := hr.mono (by decide)
    refine ⟨_, pss_cons (ps_set (i := 1) sc_rawR.nd rfl (Or.inl rfl) (pe_op op_sub (pe_call G1 hr1 rfl D1.g D1.F.kp D1.b .nil pass0 (pa_cons (pv 0) (pa_cons pe_int pa_nil))) pe_int))
      (pss_cons (ps_set (i := 2) sc_rawR.nd rfl (Or.inl rfl) (pe_op op_add pe_int (pe_call G1 hr1 rfl D1.g D1.F.kp D1.b .nil pass0 (pa_cons (pv 0) (pa_cons pe_int pa_nil)))))
      (C8.pss_cut (ps_if (pt_cmpR op_eq (pe_call G1 hr1 rfl D1.g D1.F.kp D1.b .nil pass0 (pa_cons (pv 0) (pa_cons pe_int pa_nil))) pe_int (nomark _))
          (pss_cons (ps_set (i := 1) sc_rawR.nd rfl (Or.inl rfl) (pe_op op_add (pe_op op_mul (pv 1) (pe_op op_pow pe_int pe_int)) (pe_call G1 hr1 rfl D1.g D1.F.kp D1.b .nil pass0 (pa_cons (pv 0) (pa_cons pe_int pa_nil)))))
          (pss_one (ps_set (i := 2) sc_rawR.nd rfl (Or.inl rfl) (pe_op op_add (pe_op op_add (pe_op op_mul (pv 2) (pe_op op_pow pe_int pe_int)) (pe_call G1 hr1 rfl D1.g D1.F.kp D1.b .nil pass0 (pa_cons (pv 0) (pa_cons pe_int pa_nil)))) pe_int)))) pss_nil)
      (pss_cons (ps_set (i := 3) sc_rawR.nd rfl (Or.inl rfl) (pe_call G2 hr rfl D2.g D2.F.kp D2.b .nil pass0 (pa_cons (pv 0) (pa_cons (pe_lst (pa_cons pe_int (pa_cons pe_int (pa_cons pe_int (pa_cons (pe_op op_pow pe_int pe_int) pa_nil))))) pa_nil))))
      (pss_cons (ps_set (i := 4) sc_rawR.nd rfl (Or.inl rfl) (pe_call G2 hr rfl D2.g D2.F.kp D2.b .nil pass0 (pa_cons (pv 0) (pa_cons (pe_lst (pa_cons pe_int (pa_cons (pe_un un_neg pe_int) pa_nil))) pa_nil))))
      (pss_one (ps_ret (pe_tup (pa_cons (pe_op op_mul (pe_op op_mul (pv 1) (pv 3)) (pv 4)) (pa_cons (pe_op op_mul (pe_op op_mul (pv 2) (pv 3)) (pv 4)) pa_nil))))))))), ?_⟩
    refine ⟨_, rfl, a, 25, rfl, pot, by decide, by decide, fun H1 d1 s1 p1 d10 d11 => ⟨_, _, rfl, rfl, ?_⟩⟩
    refine ⟨_, rfl, a, 12, rfl, p1, by decide, by decide, fun H2 d2 s2 p2 d20 d21 => ⟨_, _, rfl, rfl, ?_⟩⟩
    refine ⟨fun σ G => ∃ t b : Int, σ = [some (V.ref a), some (V.int t), some (V.int b), none, none] ∧ SmX a H G ∧ Pot G a ∧ t.natAbs ≤ 13 * 10007 ^ 6 ∧ 0 < b ∧ b ≤ 13 * 10 ^ 20, ?_, ?_⟩
    · refine ⟨_, rfl, a, 3, rfl, p2, by decide, by decide, fun H3 d3 s3 p3 d30 d31 => ⟨rfl, _, rfl, ?_⟩⟩
      have s03 := (s1.trans s2).trans s3
      refine ite2 (fun c => ?_) (fun c => ?_)
      · refine ⟨_, rfl, _, _, rfl, rfl, ⟨by decide, by decide, by decide⟩, _, _, rfl, rfl, .inl ⟨by omega, by omega⟩, _, rfl, a, 9, rfl, p3, by decide, by decide, fun H4 d4 s4 p4 d40 d41 => ⟨_, _, rfl, rfl, ?_⟩⟩
        refine ⟨_, rfl, _, _, rfl, rfl, ⟨by decide, by decide, by decide⟩, _, _, rfl, rfl, .inl ⟨by omega, by omega⟩, _, rfl, a, 9, rfl, p4, by decide, by decide, fun H5 d5 s5 p5 d50 d51 => ⟨_, _, rfl, rfl, _, _, rfl, rfl, ?_⟩⟩
        refine ⟨_, _, rfl, (s03.trans s4).trans s5, p5, ?_, ?_, ?_⟩
        · show ((d1 - 12) * 10007 ^ 6 + d4).natAbs ≤ _
          omega
        · show 0 < (1 + d2) * 10 ^ 20 + d5 + 1
          omega
        · show (1 + d2) * 10 ^ 20 + d5 + 1 ≤ _
          omega
      · exact ⟨_, _, rfl, s03, p3, by omega, by omega, by omega⟩
    · rintro σ G ⟨t, b, rfl, sG, pG, ht, b0, b1⟩
      -- a common part
      refine ⟨_, rfl, _, _, rfl, rfl, ⟨by decide, by decide, by decide⟩, szle (by show 4 ≤ 100000; decide), fun lw hlw => ?_⟩
      have slw := same_new (o := .lst [V.int 1, V.int 6, V.int 35, V.int (10 ^ (9 : Int).toNat)]) hlw
      have nlw : lw ≠ a := fun e => by obtain ⟨u, v, g, _⟩ := pG; rw [e, g] at hlw; cases hlw
      refine ⟨a, lw, [V.int 1, V.int 6, V.int 35, V.int (10 ^ (9 : Int).toNat)], rfl, pot_s pG slw, upd_same, nlw, by simp, by decide, fun H6 i v s6 p6 hv => ?_⟩
      obtain ⟨c, hc, rfl⟩ := int_at (ns := [1, 6, 35, 10 ^ (9 : Int).toNat]) hv
      have c4 : c = 1 ∨ c = 6 ∨ c = 35 ∨ c = 10 ^ 9 := by
        have := List.mem_of_getElem? hc
        simpa using this
      have s06 : SmX a H H6 := (sG.trans (smx_of slw)).trans s6
      clear hv hc s6 slw nlw hlw pG sG
      -- a sign
      refine ⟨_, rfl, _, rfl, szle (by show 2 ≤ 100000; decide), fun lx hlx => ?_⟩
      have slx := same_new (o := .lst [V.int 1, V.int (-1)]) hlx
      have nlx : lx ≠ a := fun e => by obtain ⟨u, v, g, _⟩ := p6; rw [e, g] at hlx; cases hlx
      refine ⟨a, lx, [V.int 1, V.int (-1)], rfl, pot_s p6 slx, upd_same, nlx, by simp, by decide, fun H7 i v s7 p7 hv => ?_⟩
      obtain ⟨e, he, rfl⟩ := int_at (ns := [1, -1]) hv
      have e2 : e = 1 ∨ e = -1 := by
        have := List.mem_of_getElem? he
        simpa using this
      have s07 : SmX a H H7 := (s06.trans (smx_of slx)).trans s7
      have bnd : ∀ x : Int, x.natAbs ≤ 13 * 10007 ^ 6 → (x * c * e).natAbs < 2 ^ 118 := fun x hx => by
        rcases c4 with rfl | rfl | rfl | rfl <;> rcases e2 with rfl | rfl <;> omega
      have bnd2 : (b * c * e).natAbs < 2 ^ 108 ∧ b * c * e ≠ 0 := by
        rcases c4 with rfl | rfl | rfl | rfl <;> rcases e2 with rfl | rfl <;> omega
      have mc : ∀ x : Int, CMul x c := fun x => .inr (by rcases c4 with rfl | rfl | rfl | rfl <;> decide)
      have me : ∀ x : Int, CMul x e := fun x => .inr (by rcases e2 with rfl | rfl <;> decide)
      refine ⟨_, rfl, _, rfl, _, _, rfl, rfl, mc t, _, rfl, _, _, rfl, rfl, me _, ?_⟩
      refine ⟨_, rfl, _, rfl, _, _, rfl, rfl, mc b, _, rfl, _, _, rfl, rfl, me _, szle (by show 2 ≤ 100000; decide), fun r hr0 => ?_⟩
      have nra : r ≠ a := fun e => by obtain ⟨u, v, g, _⟩ := p7; rw [e, g] at hr0; cases hr0
      exact q _ r (t * c * e, b * c * e) (s07.trans (smx_of (same_new hr0))) (pot_s p7 (same_new hr0)) (smx_free s07 nra hr0) upd_same ⟨bnd2.2, (by have := bnd t ht; show (t * c * e).natAbs < 2 ^ 120; omega), (by have := bnd2.1; show (b * c * e).natAbs < 2 ^ 110; omega)⟩ ⟨(by have := bnd2.2; show b * c * e * 3 ≠ 0; omega), (by have := bnd t ht; show (t * c * e * 3).natAbs < 2 ^ 120; omega), (by have := bnd2.1; show (b * c * e * 3).natAbs < 2 ^ 110; omega)⟩
end
end Tk

/-! plain mathematics: walks along pairs, roads -/
namespace Tk
theorem fm_congr {α β : Type} {f g : α → List β} {l : List α} (h : ∀ x ∈ l, f x = g x) : l.flatMap f = l.flatMap g := by
  induction l with
  | nil => rfl
  | cons x l ih =>
    rw [List.flatMap_cons, List.flatMap_cons, h x (List.mem_cons_self ..), ih fun y hy => h y (List.mem_cons_of_mem _ hy)]
theorem flatMap_permL {α β : Type} {f g : α → List β} (l : List α) (h : ∀ x ∈ l, (f x).Perm (g x)) : (l.flatMap f).Perm (l.flatMap g) := by
  induction l with
  | nil => exact .refl _
  | cons x l ih =>
    rw [List.flatMap_cons, List.flatMap_cons]
    exact (h x (List.mem_cons_self ..)).append (ih fun y hy => h y (List.mem_cons_of_mem _ hy))
theorem flatMap_cons_perm {α β : Type} (f : α → β) (g : α → List β) (l : List α) : (l.flatMap fun x => f x :: g x).Perm (l.map f ++ l.flatMap g) := by
  induction l with
  | nil => exact .refl _
  | cons x l ih =>
    rw [List.flatMap_cons, List.flatMap_cons, List.map_cons, List.cons_append, List.cons_append]
    refine .cons _ ?_
    refine ((List.Perm.refl (g x)).append ih).trans ?_
    rw [← List.append_assoc, ← List.append_assoc]
    exact List.perm_append_comm.append (.refl _)
theorem swap_perm {α β : Type} (U : List α) (D : List β) : (U.flatMap fun u => D.map fun d => (u, d)).Perm (D.flatMap fun d => U.map fun u => (u, d)) := by
  induction U with
  | nil =>
    have : (D.flatMap fun d => ([] : List α).map fun u => (u, d)) = [] := by
      induction D with
      | nil => rfl
      | cons d D ih => rw [List.flatMap_cons, ih]; rfl
    rw [this]
    exact .refl _
  | cons u U ih =>
    rw [List.flatMap_cons]
    exact ((List.Perm.refl _).append ih).trans (flatMap_cons_perm (fun d => (u, d)) (fun d => U.map fun u => (u, d)) D).symm
/-- an order of all things along arrows without rings -/
theorem topo_ex {n : Nat} {ps : List (Int × Int)} (ha : Acy ps) (hr : ∀ p ∈ ps, p.1 ∈ things n) : ∀ (k : Nat) (o l : List Int), l.length = k → OInv n ps o l → ∃ o', Topo n ps o' := by
  intro k
  induction k with
  | zero =>
    intro o l hl inv
    rw [List.length_eq_zero_iff.mp hl] at inv
    exact ⟨o, oinv_end inv⟩
  | succ k ih =>
    intro o l hl inv
    have ne : l ≠ [] := fun e => by rw [e] at hl; simp at hl
    obtain ⟨x, hx⟩ := List.exists_mem_of_ne_nil _ (freeL_ne ha ne)
    have hxl := (mem_freeL.mp hx).1
    exact ih (o ++ [x]) (l.erase x) (by rw [List.length_erase_of_mem hxl]; omega) (oinv_step inv hr hx)
/-- a numbering of the things that rises along the arrows -/
structure Rank (n : Nat) (ps : List (Int × Int)) (r : Int → Nat) : Prop where
  up : ∀ p ∈ ps, r p.2 < r p.1
  lt : ∀ x ∈ things n, r x < n
  inj : ∀ x ∈ things n, ∀ y ∈ things n, r x = r y → x = y
theorem rank_ex {n : Nat} {as : List (Int × Int)} (ha : Acy as) (hi : ∀ p ∈ as, p.1 ∈ things n ∧ p.2 ∈ things n) : ∃ r, Rank n (as.map fun p => (p.2, p.1)) r := by
  obtain ⟨o, T⟩ := topo_ex ha (fun p hp => (hi p hp).1) _ [] (things n) rfl (oinv_0 n as)
  have at' : ∀ x ∈ things n, o[o.idxOf x]? = some x := fun x hx => by
    have h := List.idxOf_lt_length_of_mem ((T.mem x).mpr hx)
    rw [List.getElem?_eq_getElem h, List.getElem_idxOf h]
  refine ⟨fun x => o.idxOf x, fun p hp => ?_, fun x hx => ?_, fun x hx y hy e => ?_⟩
  · obtain ⟨q, hq, rfl⟩ := List.mem_map.mp hp
    exact T.at_ q hq _ _ (at' _ (hi q hq).1) (at' _ (hi q hq).2)
  · have h := List.idxOf_lt_length_of_mem ((T.mem x).mpr hx)
    rw [topo_len T] at h
    exact h
  · have h1 := at' x hx
    have h2 := at' y hy
    rw [show o.idxOf x = o.idxOf y from e, h2] at h1
    exact (Option.some.inj h1).symm
def lastW (w : List Int) : Int := w.getLast?.getD 0
theorem lastW_snoc {w : List Int} {x : Int} : lastW (w ++ [x]) = x := by simp [lastW]
/-- a walk, one step longer -/
def nxW (ps : List (Int × Int)) (w : List Int) : List (List Int) := (ps.filter fun p => decide (p.1 = lastW w)).map fun p => w ++ [p.2]
/-- all walks that begin so, by at most k steps more -/
def exts (ps : List (Int × Int)) : Nat → List Int → List (List Int)
  | 0, w => [w]
  | k + 1, w => w :: (nxW ps w).flatMap (exts ps k)
section
variable {n : Nat} {ps ps' : List (Int × Int)} {r : Int → Nat}
theorem mem_nx {w v : List Int} : v ∈ nxW ps w ↔ ∃ p ∈ ps, p.1 = lastW w ∧ v = w ++ [p.2] := by
  unfold nxW
  rw [List.mem_map]
  constructor
  · rintro ⟨p, hp, rfl⟩
    obtain ⟨h1, h2⟩ := List.mem_filter.mp hp
    exact ⟨p, h1, of_decide_eq_true h2, rfl⟩
  · rintro ⟨p, h1, h2, rfl⟩
    exact ⟨p, List.mem_filter.mpr ⟨h1, decide_eq_true h2⟩, rfl⟩
theorem nx_less (up : ∀ p ∈ ps, r p.2 < r p.1) {w v : List Int} (h : v ∈ nxW ps w) : r (lastW v) < r (lastW w) := by
  obtain ⟨p, hp, e, rfl⟩ := mem_nx.mp h
  rw [lastW_snoc, ← e]
  exact up p hp
theorem exts_self {k : Nat} {w : List Int} : w ∈ exts ps k w := by
  cases k with
  | zero => exact List.mem_singleton.mpr rfl
  | succ k => exact List.mem_cons_self ..
theorem exts_ne {k : Nat} {w : List Int} : exts ps k w ≠ [] := fun e => by
  have := exts_self (ps := ps) (k := k) (w := w)
  rw [e] at this
  exact nomatch this
theorem exts_more (up : ∀ p ∈ ps, r p.2 < r p.1) : ∀ (k : Nat) (w : List Int), r (lastW w) ≤ k → exts ps (k + 1) w = exts ps k w := by
  intro k
  induction k with
  | zero =>
    intro w h
    have : nxW ps w = [] := by
      cases e : nxW ps w with
      | nil => rfl
      | cons v l =>
        have := nx_less up (w := w) (v := v) (by rw [e]; exact List.mem_cons_self ..)
        omega
    show w :: (nxW ps w).flatMap _ = [w]
    rw [this]
    rfl
  | succ k ih =>
    intro w h
    show w :: (nxW ps w).flatMap (exts ps (k + 1)) = w :: (nxW ps w).flatMap (exts ps k)
    congr 1
    refine fm_congr fun v hv => ih v ?_
    have := nx_less up hv
    omega
theorem exts_step (up : ∀ p ∈ ps, r p.2 < r p.1) {k : Nat} {w : List Int} (h : r (lastW w) ≤ k) : exts ps k w = w :: (nxW ps w).flatMap (exts ps k) := by
  rw [← exts_more up k w h]
  rfl
theorem exts_closed (up : ∀ p ∈ ps, r p.2 < r p.1) : ∀ (k : Nat) (w v u : List Int), r (lastW w) ≤ k → v ∈ exts ps k w → u ∈ nxW ps v → u ∈ exts ps k w := by
  intro k
  induction k with
  | zero =>
    intro w v u h hv hu
    rw [List.mem_singleton.mp hv] at hu
    have := nx_less up hu
    omega
  | succ k ih =>
    intro w v u h hv hu
    rcases List.mem_cons.mp hv with rfl | hv
    · exact List.mem_cons_of_mem _ (List.mem_flatMap.mpr ⟨u, hu, exts_self⟩)
    · obtain ⟨z, hz, hv⟩ := List.mem_flatMap.mp hv
      have := nx_less up hz
      exact List.mem_cons_of_mem _ (List.mem_flatMap.mpr ⟨z, hz, ih z v u (by omega) hv hu⟩)
theorem exts_pre : ∀ (k : Nat) (w v : List Int), v ∈ exts ps k w → ∃ u, v = w ++ u := by
  intro k
  induction k with
  | zero => intro w v h; exact ⟨[], by rw [List.mem_singleton.mp h, List.append_nil]⟩
  | succ k ih =>
    intro w v h
    rcases List.mem_cons.mp h with rfl | h
    · exact ⟨[], (List.append_nil _).symm⟩
    · obtain ⟨z, hz, h⟩ := List.mem_flatMap.mp h
      obtain ⟨p, _, _, rfl⟩ := mem_nx.mp hz
      obtain ⟨u, rfl⟩ := ih _ v h
      exact ⟨p.2 :: u, by rw [List.append_assoc]; rfl⟩
theorem exts_in {S : Int → Prop} (hp : ∀ p ∈ ps, S p.2) : ∀ (k : Nat) (w v : List Int), (∀ y ∈ w, S y) → v ∈ exts ps k w → ∀ y ∈ v, S y := by
  intro k
  induction k with
  | zero => intro w v hw h; rw [List.mem_singleton.mp h]; exact hw
  | succ k ih =>
    intro w v hw h
    rcases List.mem_cons.mp h with rfl | h
    · exact hw
    · obtain ⟨z, hz, h⟩ := List.mem_flatMap.mp h
      obtain ⟨p, h1, _, rfl⟩ := mem_nx.mp hz
      refine ih _ v (fun y hy => ?_) h
      rcases List.mem_append.mp hy with h | h
      · exact hw y h
      · rw [List.mem_singleton.mp h]; exact hp p h1
theorem exts_len (up : ∀ p ∈ ps, r p.2 < r p.1) : ∀ (k : Nat) (w v : List Int), v ∈ exts ps k w → v.length + r (lastW v) ≤ w.length + r (lastW w) := by
  intro k
  induction k with
  | zero => intro w v h; rw [List.mem_singleton.mp h]; exact Nat.le_refl _
  | succ k ih =>
    intro w v h
    rcases List.mem_cons.mp h with rfl | h
    · exact Nat.le_refl _
    · obtain ⟨z, hz, h⟩ := List.mem_flatMap.mp h
      have h1 := ih z v h
      have h2 := nx_less up hz
      obtain ⟨p, _, _, rfl⟩ := mem_nx.mp hz
      rw [List.length_append, List.length_singleton] at h1
      omega
theorem exts_reach (up : ∀ p ∈ ps, r p.2 < r p.1) {k : Nat} {s t : Int} (h : r s ≤ k) {R : Int → Int → Prop} (r0 : R s s) (r1 : ∀ u p, R s u → p ∈ ps → p.1 = u → R s p.2) : ∀ v ∈ exts ps k [s], R s (lastW v) := by
  have key : ∀ (k : Nat) (w v : List Int), R s (lastW w) → v ∈ exts ps k w → R s (lastW v) := by
    intro k
    induction k with
    | zero => intro w v hw h; rw [List.mem_singleton.mp h]; exact hw
    | succ k ih =>
      intro w v hw h
      rcases List.mem_cons.mp h with rfl | h
      · exact hw
      · obtain ⟨z, hz, h⟩ := List.mem_flatMap.mp h
        obtain ⟨p, h1, h2, rfl⟩ := mem_nx.mp hz
        refine ih _ v ?_ h
        rw [lastW_snoc]
        exact r1 _ p hw h1 h2
  exact fun v hv => key k [s] v r0 hv
/-- in another sequence of pairs -/
theorem nx_perm (pm : ps.Perm ps') {w : List Int} : (nxW ps w).Perm (nxW ps' w) := (pm.filter _).map _
theorem exts_perm (pm : ps.Perm ps') : ∀ (k : Nat) (w : List Int), (exts ps k w).Perm (exts ps' k w) := by
  intro k
  induction k with
  | zero => intro w; exact .refl _
  | succ k ih =>
    intro w
    refine .cons _ (((nx_perm pm).flatMap_right _).trans (flatMap_permL _ fun v _ => ih v))
/-- in other names -/
theorem last_map {f : Int → Int} {w : List Int} (h : w ≠ []) : lastW (w.map f) = f (lastW w) := by
  rw [← List.dropLast_concat_getLast h]
  rw [List.map_append, List.map_cons, List.map_nil, lastW_snoc, lastW_snoc]
theorem last_mem {w : List Int} (h : w ≠ []) : lastW w ∈ w := by
  have e : lastW w = w.getLast h := by unfold lastW; rw [List.getLast?_eq_some_getLast h]; rfl
  rw [e]
  exact List.getLast_mem h
theorem exts_map {f : Int → Int} {S : Int → Prop} (inj : ∀ x y, S x → S y → f x = f y → x = y) (hp : ∀ p ∈ ps, S p.1 ∧ S p.2) : ∀ (k : Nat) (w : List Int), w ≠ [] → (∀ y ∈ w, S y) → exts (ps.map fun p => (f p.1, f p.2)) k (w.map f) = (exts ps k w).map (List.map f) := by
  intro k
  induction k with
  | zero => intro w _ _; rfl
  | succ k ih =>
    intro w ne hw
    have hl := hw _ (last_mem ne)
    have e : nxW (ps.map fun p => (f p.1, f p.2)) (w.map f) = (nxW ps w).map (List.map f) := by
      unfold nxW
      rw [List.filter_map, List.map_map, List.map_map, last_map ne]
      have e1 : ps.filter ((fun p : Int × Int => decide (p.1 = f (lastW w))) ∘ fun p => (f p.1, f p.2)) = ps.filter fun p => decide (p.1 = lastW w) := by
        refine List.filter_congr fun p hp' => ?_
        show decide (f p.1 = f (lastW w)) = _
        by_cases c : p.1 = lastW w
        · rw [c]; simp
        · rw [decide_eq_false c, decide_eq_false fun z => c (inj _ _ (hp p hp').1 hl z)]
      rw [e1]
      refine List.map_congr_left fun p _ => ?_
      show w.map f ++ [f p.2] = (w ++ [p.2]).map f
      rw [List.map_append]
      rfl
    show w.map f :: (nxW _ (w.map f)).flatMap _ = _
    rw [e, List.flatMap_map]
    show _ = (w :: (nxW ps w).flatMap (exts ps k)).map (List.map f)
    rw [List.map_cons, List.map_flatMap]
    congr 1
    refine fm_congr fun v hv => ?_
    obtain ⟨p, h1, _, rfl⟩ := mem_nx.mp hv
    refine ih _ (by simp) fun y hy => ?_
    rcases List.mem_append.mp hy with h | h
    · exact hw y h
    · rw [List.mem_singleton.mp h]; exact (hp p h1).2
/-- how many -/
theorem pow_sum : ∀ (m : Nat) (l : List Nat), l.Nodup → (∀ x ∈ l, x < m) → (l.map fun x => 2 ^ x).sum + 1 ≤ 2 ^ m := by
  intro m
  induction m with
  | zero =>
    intro l _ h
    cases l with
    | nil => simp
    | cons x l => exact absurd (h x (List.mem_cons_self ..)) (by omega)
  | succ m ih =>
    intro l nd h
    by_cases c : m ∈ l
    · have pe := List.perm_cons_erase c
      have nd' := pe.nodup_iff.mp nd
      have h1 := ih (l.erase m) (List.nodup_cons.mp nd').2 fun x hx => by
        have h2 := h x (List.mem_of_mem_erase hx)
        have h3 : x ≠ m := fun e => (List.nodup_cons.mp nd').1 (e ▸ hx)
        omega
      have e := (pe.map fun x => 2 ^ x).sum_nat
      rw [List.map_cons, List.sum_cons] at e
      rw [e, Nat.pow_succ]
      omega
    · have h1 := ih l nd fun x hx => by
        have h2 := h x hx
        have h3 : x ≠ m := fun e => c (e ▸ hx)
        omega
      rw [Nat.pow_succ]
      omega
theorem sum_le {α : Type} {f g : α → Nat} : ∀ (l : List α), (∀ x ∈ l, f x ≤ g x) → (l.map f).sum ≤ (l.map g).sum
  | [], _ => Nat.le_refl _
  | x :: l, h => by
    rw [List.map_cons, List.map_cons, List.sum_cons, List.sum_cons]
    exact Nat.add_le_add (h x (List.mem_cons_self ..)) (sum_le l fun y hy => h y (List.mem_cons_of_mem _ hy))
theorem exts_count (up : ∀ p ∈ ps, r p.2 < r p.1) (inj : ∀ p ∈ ps, ∀ q ∈ ps, r p.2 = r q.2 → p.2 = q.2) (nd : ps.Nodup) : ∀ (k : Nat) (w : List Int), (exts ps k w).length ≤ 2 ^ r (lastW w) := by
  intro k
  induction k with
  | zero => intro w; exact Nat.one_le_two_pow
  | succ k ih =>
    intro w
    show (w :: (nxW ps w).flatMap (exts ps k)).length ≤ _
    rw [List.length_cons, List.length_flatMap]
    have h1 : ((nxW ps w).map fun v => (exts ps k v).length).sum ≤ ((nxW ps w).map fun v => 2 ^ r (lastW v)).sum := sum_le _ fun v _ => ih v
    have h2 : (nxW ps w).map (fun v => 2 ^ r (lastW v)) = (((nxW ps w).map fun v => r (lastW v)).map fun x => 2 ^ x) := by rw [List.map_map]; rfl
    have h3 : ((nxW ps w).map fun v => r (lastW v)).Nodup := by
      unfold nxW
      rw [List.map_map]
      show List.Pairwise _ _
      rw [List.pairwise_map]
      refine List.Pairwise.imp_of_mem (fun {p q} hp hq ne e => ?_) (nd.sublist List.filter_sublist)
      obtain ⟨a1, a2⟩ := List.mem_filter.mp hp
      obtain ⟨b1, b2⟩ := List.mem_filter.mp hq
      have e' : r p.2 = r q.2 := by
        have : r (lastW (w ++ [p.2])) = r (lastW (w ++ [q.2])) := e
        rwa [lastW_snoc, lastW_snoc] at this
      exact ne (Prod.ext ((of_decide_eq_true a2).trans (of_decide_eq_true b2).symm) (inj p a1 q b1 e'))
    have h4 := pow_sum (r (lastW w)) _ h3 fun x hx => by
      obtain ⟨v, hv, rfl⟩ := List.mem_map.mp hx
      exact nx_less up hv
    rw [h2] at h1
    omega
end
/-! ## roads -/
def topB (ts : List (Int × Int)) (a b : Int) : Bool := decide (a = b ∨ (a, b) ∈ ts ∨ (b, a) ∈ ts)
def rdsL (ts : List (Int × Int)) (U D : List (List Int)) : List (List Int × List Int) := U.flatMap fun u => (D.filter fun d => topB ts (lastW u) (lastW d)).map fun d => (u, d.reverse)
def rds (as ts : List (Int × Int)) (k : Nat) (s e : Int) : List (List Int × List Int) := rdsL ts (exts (as.map fun p => (p.2, p.1)) k [s]) (exts (as.map fun p => (p.2, p.1)) k [e])
theorem topB_sym {ts : List (Int × Int)} {a b : Int} : topB ts a b = topB ts b a := by
  unfold topB
  rw [Bool.eq_iff_iff, decide_eq_true_eq, decide_eq_true_eq]
  constructor
  · rintro (h | h | h)
    · exact .inl h.symm
    · exact .inr (.inr h)
    · exact .inr (.inl h)
  · rintro (h | h | h)
    · exact .inl h.symm
    · exact .inr (.inr h)
    · exact .inr (.inl h)
theorem topB_congr {ts ts' : List (Int × Int)} (h : ∀ p, p ∈ ts ↔ p ∈ ts') {a b : Int} : topB ts a b = topB ts' a b := by
  unfold topB
  rw [Bool.eq_iff_iff, decide_eq_true_eq, decide_eq_true_eq, h, h]
theorem rdsL_perm {ts ts' : List (Int × Int)} {U U' D D' : List (List Int)} (h : ∀ p, p ∈ ts ↔ p ∈ ts') (pU : U.Perm U') (pD : D.Perm D') : (rdsL ts U D).Perm (rdsL ts' U' D') := by
  unfold rdsL
  refine (pU.flatMap_right _).trans (flatMap_permL _ fun u _ => ?_)
  have e : (fun d => topB ts (lastW u) (lastW d)) = fun d => topB ts' (lastW u) (lastW d) := by
    funext d
    exact topB_congr h
  rw [e]
  exact (pD.filter _).map _
theorem rds_perm {as as' ts ts' : List (Int × Int)} {k : Nat} {s e : Int} (pa : as.Perm as') (h : ∀ p, p ∈ ts ↔ p ∈ ts') : (rds as ts k s e).Perm (rds as' ts' k s e) :=
  rdsL_perm h (exts_perm (pa.map _) k _) (exts_perm (pa.map _) k _)
theorem rds_as {ts : List (Int × Int)} {U D : List (List Int)} : rdsL ts U D = ((U.flatMap fun u => D.map fun d => (u, d)).filter fun q => topB ts (lastW q.1) (lastW q.2)).map fun q => (q.1, q.2.reverse) := by
  unfold rdsL
  rw [List.filter_flatMap, List.map_flatMap]
  refine fm_congr fun u _ => ?_
  rw [List.filter_map, List.map_map]
  rfl
/-- from the end to the start -/
theorem rds_turn {ts : List (Int × Int)} {U D : List (List Int)} : (rdsL ts D U).Perm ((rdsL ts U D).map fun q => (q.2.reverse, q.1.reverse)) := by
  rw [rds_as, rds_as, List.map_map]
  have e1 : ((fun q : List Int × List Int => (q.2.reverse, q.1.reverse)) ∘ fun q : List Int × List Int => (q.1, q.2.reverse)) = (fun q : List Int × List Int => (q.1, q.2.reverse)) ∘ fun q : List Int × List Int => (q.2, q.1) := by
    funext q
    show (q.2.reverse.reverse, q.1.reverse) = (q.2, q.1.reverse)
    rw [List.reverse_reverse]
  rw [e1, ← List.map_map]
  refine List.Perm.map _ ?_
  have e2 : (D.flatMap fun u => U.map fun d => (u, d)) = (D.flatMap fun d => U.map fun u => (u, d)).map fun q : List Int × List Int => (q.2, q.1) := by
    rw [List.map_flatMap]
    refine fm_congr fun d _ => ?_
    rw [List.map_map]
    rfl
  rw [e2, List.filter_map]
  refine List.Perm.map _ ?_
  have e3 : ((fun q : List Int × List Int => topB ts (lastW q.1) (lastW q.2)) ∘ fun q : List Int × List Int => (q.2, q.1)) = fun q => topB ts (lastW q.1) (lastW q.2) := by
    funext q
    exact topB_sym
  rw [e3]
  exact (swap_perm U D).symm.filter _
theorem rds_len {ts : List (Int × Int)} {U D : List (List Int)} : (rdsL ts U D).length ≤ U.length * D.length := by
  rw [rds_as, List.length_map]
  refine Nat.le_trans (List.length_filter_le ..) ?_
  induction U with
  | nil => simp
  | cons u U ih =>
    rw [List.flatMap_cons, List.length_append, List.length_map, List.length_cons, Nat.succ_mul]
    omega
theorem mem_rds {ts : List (Int × Int)} {U D : List (List Int)} {q : List Int × List Int} : q ∈ rdsL ts U D ↔ q.1 ∈ U ∧ ∃ d ∈ D, topB ts (lastW q.1) (lastW d) = true ∧ q.2 = d.reverse := by
  unfold rdsL
  rw [List.mem_flatMap]
  constructor
  · rintro ⟨u, hu, h⟩
    obtain ⟨d, hd, rfl⟩ := List.mem_map.mp h
    obtain ⟨h1, h2⟩ := List.mem_filter.mp hd
    exact ⟨hu, d, h1, h2, rfl⟩
  · rintro ⟨hu, d, hd, h, e⟩
    exact ⟨q.1, hu, List.mem_map.mpr ⟨d, List.mem_filter.mpr ⟨hd, h⟩, Prod.ext rfl e.symm⟩⟩
/-- in other names -/
theorem rdsL_map {ts ts' : List (Int × Int)} {f : Int → Int} {U D : List (List Int)} (hU : ∀ u ∈ U, u ≠ []) (hD : ∀ u ∈ D, u ≠ []) (h : ∀ u ∈ U, ∀ d ∈ D, topB ts' (f (lastW u)) (f (lastW d)) = topB ts (lastW u) (lastW d)) :
    rdsL ts' (U.map (List.map f)) (D.map (List.map f)) = (rdsL ts U D).map fun q => (q.1.map f, q.2.map f) := by
  unfold rdsL
  rw [List.flatMap_map, List.map_flatMap]
  refine fm_congr fun u hu => ?_
  rw [List.filter_map, List.map_map, List.map_map]
  have e : D.filter ((fun d => topB ts' (lastW (u.map f)) (lastW d)) ∘ List.map f) = D.filter fun d => topB ts (lastW u) (lastW d) := by
    refine List.filter_congr fun d hd => ?_
    show topB ts' (lastW (u.map f)) (lastW (d.map f)) = _
    rw [last_map (hU u hu), last_map (hD d hd)]
    exact h u hu d hd
  rw [e]
  refine List.map_congr_left fun d _ => ?_
  show (u.map f, (d.map f).reverse) = (u.map f, d.reverse.map f)
  rw [List.map_reverse]
end Tk

/-! plain mathematics of greatest lots -/
namespace Tk
theorem reach_mono {ps qs : List (Int × Int)} {a b : Int} (s : ∀ p ∈ ps, p ∈ qs) (h : Reach ps a b) : Reach qs a b := by
  induction h with
  | refl => exact .refl
  | tail _ hp ih => exact .tail ih (s _ hp)
theorem things_lt (n : Nat) : (things n).Pairwise (· < ·) := by
  unfold things
  rw [List.pairwise_map]
  exact List.Pairwise.imp (fun {a b} h => by show (a : Int) < (b : Int); omega) List.pairwise_lt_range
theorem up_mono {as : List (Int × Int)} {l m : List Int} (s : ∀ y ∈ l, y ∈ m) {a b : Int} (h : Reach (upIn as l) a b) : Reach (upIn as m) a b :=
  reach_mono (fun ⟨x, y⟩ hp => by rw [mem_upIn] at hp ⊢; exact ⟨hp.1, s _ hp.2.1, s _ hp.2.2⟩) h
theorem tie_mono {ts : List (Int × Int)} {l m : List Int} (s : ∀ y ∈ l, y ∈ m) {a b : Int} (h : Reach (tieIn ts l) a b) : Reach (tieIn ts m) a b :=
  reach_mono (fun ⟨x, y⟩ hp => by rw [mem_tieIn] at hp ⊢; exact ⟨hp.1, s _ hp.2.1, s _ hp.2.2⟩) h
theorem tie_sym {ts : List (Int × Int)} {l : List Int} {a b : Int} (h : Reach (tieIn ts l) a b) : Reach (tieIn ts l) b a := both_sym h
theorem reach_trans {ps : List (Int × Int)} {a b c : Int} (h : Reach ps a b) (g : Reach ps b c) : Reach ps a c := by
  induction g with
  | refl => exact h
  | tail _ hp ih => exact .tail ih hp
/-- a lot with the head x that hangs together -/
structure Good (n : Nat) (as ts : List (Int × Int)) (x : Int) (l : List Int) : Prop where
  lot : Lot n l
  mem : x ∈ l
  up : IsHead as l x
  tie : ∀ y ∈ l, Reach (tieIn ts l) x y
theorem hang_iff {ts : List (Int × Int)} {l : List Int} {x : Int} (hx : x ∈ l) : hangB ts l = true ↔ ∀ y ∈ l, Reach (tieIn ts l) x y := by
  rw [hangB_iff]
  cases l with
  | nil => cases hx
  | cons z l =>
    constructor
    · exact fun h y hy => reach_trans (tie_sym (h x hx)) (h y hy)
    · exact fun h y hy => reach_trans (tie_sym (h z (List.mem_cons_self ..))) (h y hy)
noncomputable def inGl (n : Nat) (as ts : List (Int × Int)) (x y : Int) : Bool := @decide (∃ l, Good n as ts x l ∧ y ∈ l) (Classical.propDecidable _)
noncomputable def gl (n : Nat) (as ts : List (Int × Int)) (x : Int) : List Int := (things n).filter (inGl n as ts x)
theorem mem_gl {n : Nat} {as ts : List (Int × Int)} {x y : Int} : y ∈ gl n as ts x ↔ ∃ l, Good n as ts x l ∧ y ∈ l := by
  unfold gl
  rw [List.mem_filter]
  unfold inGl
  rw [@decide_eq_true_iff _ (Classical.propDecidable _)]
  exact ⟨fun h => h.2, fun h => ⟨let ⟨l, g, hy⟩ := h; g.lot.2 y hy, h⟩⟩
theorem gl_lot {n : Nat} {as ts : List (Int × Int)} {x : Int} : Lot n (gl n as ts x) := ⟨(things_lt n).sublist List.filter_sublist, fun _ hy => (List.mem_filter.mp hy).1⟩
theorem good_one {n : Nat} {as ts : List (Int × Int)} {x : Int} (hx : x ∈ things n) : Good n as ts x [x] :=
  ⟨⟨by simp, fun y hy => by rw [List.mem_singleton.mp hy]; exact hx⟩, by simp, fun y hy => by rw [List.mem_singleton.mp hy]; exact .refl, fun y hy => by rw [List.mem_singleton.mp hy]; exact .refl⟩
theorem good_sub {n : Nat} {as ts : List (Int × Int)} {x : Int} {l : List Int} (h : Good n as ts x l) : ∀ y ∈ l, y ∈ gl n as ts x := fun y hy => mem_gl.mpr ⟨l, h, hy⟩
theorem gl_good {n : Nat} {as ts : List (Int × Int)} {x : Int} (hx : x ∈ things n) : Good n as ts x (gl n as ts x) := by
  refine ⟨gl_lot, mem_gl.mpr ⟨[x], good_one hx, by simp⟩, fun y hy => ?_, fun y hy => ?_⟩
  · obtain ⟨l, g, hl⟩ := mem_gl.mp hy
    exact up_mono (good_sub g) (g.up y hl)
  · obtain ⟨l, g, hl⟩ := mem_gl.mp hy
    exact tie_mono (good_sub g) (g.tie y hl)
theorem gl_eq {n : Nat} {as ts : List (Int × Int)} {x : Int} {l : List Int} (h : Good n as ts x l) (all : ∀ m, Good n as ts x m → ∀ y ∈ m, y ∈ l) : l = gl n as ts x :=
  rise_eq h.lot.1 gl_lot.1 fun y => ⟨good_sub h y, fun hy => let ⟨m, g, hm⟩ := mem_gl.mp hy; all m g y hm⟩
/-- two lots of one head make one -/
theorem good_both {n : Nat} {as ts : List (Int × Int)} {x : Int} {l m k : List Int} (h : Good n as ts x l) (g : Good n as ts x m) (rk : k.Pairwise (· < ·)) (e : ∀ y, y ∈ k ↔ y ∈ l ∨ y ∈ m) : Good n as ts x k := by
  refine ⟨⟨rk, fun y hy => ?_⟩, (e x).mpr (.inl h.mem), fun y hy => ?_, fun y hy => ?_⟩
  · exact ((e y).mp hy).elim (h.lot.2 y) (g.lot.2 y)
  · rcases (e y).mp hy with z | z
    · exact up_mono (fun w hw => (e w).mpr (.inl hw)) (h.up y z)
    · exact up_mono (fun w hw => (e w).mpr (.inr hw)) (g.up y z)
  · rcases (e y).mp hy with z | z
    · exact tie_mono (fun w hw => (e w).mpr (.inl hw)) (h.tie y z)
    · exact tie_mono (fun w hw => (e w).mpr (.inr hw)) (g.tie y z)
/-- one step of leaving out -/
def StepG (as ts : List (Int × Int)) (x : Int) (l fo m : List Int) : Prop := (∀ y, y ∈ fo ↔ Reach (withinL (turnL as) l) x y) ∧ ∀ y, y ∈ m ↔ Reach (withinL (both ts) fo) x y
theorem wt_up {as : List (Int × Int)} {l : List Int} {a b : Int} : Reach (withinL (turnL as) l) a b ↔ Reach (upIn as l) a b := by
  constructor
  · exact reach_mono fun ⟨x, y⟩ hp => by
      rw [mem_withinL, mem_turnL] at hp
      rw [mem_upIn]
      exact ⟨hp.1, hp.2.2, hp.2.1⟩
  · exact reach_mono fun ⟨x, y⟩ hp => by
      rw [mem_withinL, mem_turnL]
      rw [mem_upIn] at hp
      exact ⟨hp.1, hp.2.2, hp.2.1⟩
theorem wb_tie {ts : List (Int × Int)} {l : List Int} {a b : Int} : Reach (withinL (both ts) l) a b ↔ Reach (tieIn ts l) a b := by
  constructor
  · exact reach_mono fun ⟨x, y⟩ hp => by
      rw [mem_withinL, mem_both] at hp
      rw [mem_tieIn]
      exact hp
  · exact reach_mono fun ⟨x, y⟩ hp => by
      rw [mem_withinL, mem_both]
      rw [mem_tieIn] at hp
      exact hp
section
variable {n : Nat} {as ts : List (Int × Int)} {x : Int} {l fo m : List Int}
theorem step_sub (h : StepG as ts x l fo m) (hx : x ∈ l) : (∀ y ∈ fo, y ∈ l) ∧ (∀ y ∈ m, y ∈ fo) ∧ x ∈ m :=
  ⟨fun y hy => up_in (wt_up.mp ((h.1 y).mp hy)) hx, fun y hy => tie_in (wb_tie.mp ((h.2 y).mp hy)) ((h.1 x).mpr .refl), (h.2 x).mpr .refl⟩
theorem step_keep (h : StepG as ts x l fo m) {k : List Int} (g : Good n as ts x k) (s : ∀ y ∈ k, y ∈ l) : ∀ y ∈ k, y ∈ m := by
  have s1 : ∀ y ∈ k, y ∈ fo := fun y hy => (h.1 y).mpr (wt_up.mpr (up_mono s (g.up y hy)))
  exact fun y hy => (h.2 y).mpr (wb_tie.mpr (tie_mono s1 (g.tie y hy)))
theorem step_fix (h : StepG as ts x l fo l) (lot : Lot n l) (hx : x ∈ l) : Good n as ts x l := by
  obtain ⟨s1, s2, _⟩ := step_sub h hx
  refine ⟨lot, hx, fun y hy => wt_up.mp ((h.1 y).mp (s2 y hy)), fun y hy => ?_⟩
  exact tie_mono s1 (wb_tie.mp ((h.2 y).mp hy))
end
/-- a lot that is barred -/
structure Bar (n : Nat) (as ts : List (Int × Int)) (l : List Int) : Prop where
  lot : Lot n l
  two : 1 < l.length
  hang : hangB ts l = true
  head : headsL as l ≠ []
theorem bar_good {n : Nat} {as ts : List (Int × Int)} {l : List Int} (h : Bar n as ts l) : ∃ x, Good n as ts x l := by
  cases e : headsL as l with
  | nil => exact absurd e h.head
  | cons x t =>
    have hx : x ∈ headsL as l := by rw [e]; exact List.mem_cons_self ..
    obtain ⟨h1, h2⟩ := List.mem_filter.mp hx
    exact ⟨x, h.lot, h1, headB_iff.mp h2, (hang_iff h1).mp h.hang⟩
theorem good_bar {n : Nat} {as ts : List (Int × Int)} {x : Int} {l : List Int} (h : Good n as ts x l) (two : 1 < l.length) : Bar n as ts l := by
  refine ⟨h.lot, two, (hang_iff h.mem).mpr h.tie, fun e => ?_⟩
  have : x ∈ headsL as l := List.mem_filter.mpr ⟨h.mem, headB_iff.mpr h.up⟩
  rw [e] at this
  cases this
/-- plain: all greatest lots are of one thing -/
def PlainP (n : Nat) (as ts : List (Int × Int)) : Prop := ∀ x ∈ things n, (gl n as ts x).length ≤ 1
noncomputable def plainB (n : Nat) (as ts : List (Int × Int)) : Bool := @decide (PlainP n as ts) (Classical.propDecidable _)
theorem plainB_iff {n : Nat} {as ts : List (Int × Int)} : plainB n as ts = true ↔ PlainP n as ts := by
  unfold plainB
  exact @decide_eq_true_iff _ (Classical.propDecidable _)
theorem plain_bars {n : Nat} {as ts : List (Int × Int)} : PlainP n as ts ↔ ∀ l, ¬ Bar n as ts l := by
  constructor
  · intro h l b
    obtain ⟨x, g⟩ := bar_good b
    have := nodup_le (lt_nd g.lot.1) (m := gl n as ts x) (good_sub g)
    have := h x (g.lot.2 x g.mem)
    have := b.two
    omega
  · intro h x hx
    refine Nat.not_lt.mp fun c => h _ (good_bar (gl_good hx) c)
end Tk

namespace Tk
/-! parts by ties -/
noncomputable def bR (ps : List (Int × Int)) (i y : Int) : Bool := @decide (Reach ps i y) (Classical.propDecidable _)
theorem bR_iff {ps : List (Int × Int)} {i y : Int} : bR ps i y = true ↔ Reach ps i y := by
  unfold bR
  exact @decide_eq_true_iff _ (Classical.propDecidable _)
noncomputable def cl (n : Nat) (ts : List (Int × Int)) (t : Int) : List Int := (things n).filter (bR (both ts) t)
theorem mem_cl {n : Nat} {ts : List (Int × Int)} {t y : Int} : y ∈ cl n ts t ↔ y ∈ things n ∧ Reach (both ts) t y := by
  unfold cl
  rw [List.mem_filter, bR_iff]
theorem cl_eq {n : Nat} {ts : List (Int × Int)} {t y : Int} (h : Reach (both ts) t y) : cl n ts t = cl n ts y := by
  refine List.filter_congr fun z _ => ?_
  have : Reach (both ts) t z ↔ Reach (both ts) y z := ⟨fun r => (both_sym h).trans r, fun r => h.trans r⟩
  rw [Bool.eq_iff_iff, bR_iff, bR_iff]
  exact this
noncomputable def isHd (n : Nat) (ts : List (Int × Int)) (t : Int) : Bool := decide ((cl n ts t).headD (-1) = t)
/-- the parts, told in the sequence of their least things -/
noncomputable def partsL (n : Nat) (ts : List (Int × Int)) : List (List Int) := ((things n).filter (isHd n ts)).map (cl n ts)
theorem hd_mem {l : List Int} (h : l ≠ []) : l.headD (-1) ∈ l := by
  cases l with
  | nil => exact absurd rfl h
  | cons x l => simp
theorem cl_self {n : Nat} {ts : List (Int × Int)} {x : Int} (hx : x ∈ things n) : x ∈ cl n ts x := mem_cl.mpr ⟨hx, .refl⟩
theorem cl_hd {n : Nat} {ts : List (Int × Int)} {x : Int} (hx : x ∈ things n) : (cl n ts x).headD (-1) ∈ things n ∧ cl n ts ((cl n ts x).headD (-1)) = cl n ts x := by
  have hne : cl n ts x ≠ [] := fun e => by have := cl_self (ts := ts) hx; rw [e] at this; exact nomatch this
  have hm := mem_cl.mp (hd_mem hne)
  exact ⟨hm.1, (cl_eq hm.2).symm⟩
/-- a list of ints that rises, with these members -/
theorem rise_cl {n : Nat} {ts : List (Int × Int)} {t : Int} {l : List Int} (h : l.Pairwise (· < ·)) (hm : ∀ y, y ∈ l ↔ y ∈ things n ∧ Reach (both ts) t y) : l = cl n ts t :=
  rise_eq h ((things_rise n).filter _) fun y => by rw [hm y]; exact mem_cl.symm
theorem both_congr {ts us : List (Int × Int)} (h : ∀ p, p ∈ ts ↔ p ∈ us) {a b : Int} : Reach (both ts) a b ↔ Reach (both us) a b :=
  ⟨fun r => r.sub fun p hp => by
    rcases mem_both.mp hp with c | c
    · exact mem_both.mpr (.inl ((h p).mp c))
    · exact mem_both.mpr (.inr ((h _).mp c)), fun r => r.sub fun p hp => by
    rcases mem_both.mp hp with c | c
    · exact mem_both.mpr (.inl ((h p).mpr c))
    · exact mem_both.mpr (.inr ((h _).mpr c))⟩
theorem partsL_congr {n : Nat} {ts us : List (Int × Int)} (h : ∀ p, p ∈ ts ↔ p ∈ us) : partsL n ts = partsL n us := by
  have e : cl n ts = cl n us := by
    funext t
    refine List.filter_congr fun z _ => ?_
    rw [Bool.eq_iff_iff, bR_iff, bR_iff]
    exact both_congr h
  unfold partsL isHd
  rw [e]
theorem parts_flat_mem {n : Nat} {ts : List (Int × Int)} {y : Int} : y ∈ (partsL n ts).flatten ↔ y ∈ things n := by
  rw [List.mem_flatten]
  constructor
  · rintro ⟨l, hl, hy⟩
    obtain ⟨t, _, rfl⟩ := List.mem_map.mp hl
    exact (mem_cl.mp hy).1
  · intro hy
    obtain ⟨a, b⟩ := cl_hd (ts := ts) hy
    refine ⟨cl n ts ((cl n ts y).headD (-1)), List.mem_map.mpr ⟨_, List.mem_filter.mpr ⟨a, ?_⟩, rfl⟩, ?_⟩
    · unfold isHd
      rw [decide_eq_true_eq, b]
    · rw [b]
      exact cl_self hy
theorem parts_flat_nodup {n : Nat} {ts : List (Int × Int)} : (partsL n ts).flatten.Nodup := by
  show List.Pairwise _ _
  rw [List.pairwise_flatten]
  constructor
  · intro l hl
    obtain ⟨t, _, rfl⟩ := List.mem_map.mp hl
    exact (things_nodup n).filter _
  · unfold partsL
    rw [List.pairwise_map]
    refine List.Pairwise.imp_of_mem (fun {a b} ha hb hne x hx y hy e => hne ?_) ((things_nodup n).filter _)
    subst e
    have e1 := cl_eq (n := n) (mem_cl.mp hx).2
    have e2 := cl_eq (n := n) (mem_cl.mp hy).2
    have h1 : (cl n ts a).headD (-1) = a := by simpa [isHd] using (List.mem_filter.mp ha).2
    have h2 : (cl n ts b).headD (-1) = b := by simpa [isHd] using (List.mem_filter.mp hb).2
    rw [← h1, ← h2, e1, e2]
end Tk

namespace Tk
/-! the order, exactly; all lists of all things -/
def ordGo (ps : List (Int × Int)) : Nat → List Int → List Int
  | 0, _ => []
  | k + 1, l => match freeL ps l with
    | [] => []
    | x :: _ => x :: ordGo ps k (l.erase x)
def ordL (n : Nat) (ps : List (Int × Int)) : List Int := ordGo ps n (things n)
theorem ordGo_stop {ps : List (Int × Int)} {l : List Int} (h : freeL ps l = []) : ∀ k, ordGo ps k l = []
  | 0 => rfl
  | k + 1 => by unfold ordGo; rw [h]
theorem ordGo_nil {ps : List (Int × Int)} (k : Nat) : ordGo ps k [] = [] := ordGo_stop rfl k
theorem ordGo_step {ps : List (Int × Int)} {l fr : List Int} {x : Int} (h : freeL ps l = x :: fr) : ordGo ps l.length l = x :: ordGo ps (l.erase x).length (l.erase x) := by
  have hx : x ∈ l := (mem_freeL.mp (by rw [h]; exact List.mem_cons_self ..)).1
  have e := List.length_erase_of_mem hx
  have hp : 0 < l.length := List.length_pos_of_mem hx
  obtain ⟨k, hk⟩ : ∃ k, l.length = k + 1 := ⟨l.length - 1, by omega⟩
  rw [hk, e, hk]
  show (match freeL ps l with | [] => [] | x :: _ => x :: ordGo ps k (l.erase x)) = _
  rw [h]; rfl
def ext (n : Nat) (o : List Int) : List (List Int) := ((things n).filter (fun x => !decide (x ∈ o))).map (fun x => o ++ [x])
def lsts (n : Nat) : Nat → List (List Int)
  | 0 => [[]]
  | k + 1 => (lsts n k).flatMap (ext n)
def ex (n : Nat) : Nat → List Int → List (List Int)
  | 0, o => [o]
  | k + 1, o => (ext n o).flatMap (ex n k)
theorem ex_snoc (n : Nat) : ∀ (k : Nat) (o : List Int), ex n (k + 1) o = (ex n k o).flatMap (ext n)
  | 0, o => by
    show (ext n o).flatMap (fun o => [o]) = [o].flatMap (ext n)
    simp
  | k + 1, o => by
    show (ext n o).flatMap (ex n (k + 1)) = ((ext n o).flatMap (ex n k)).flatMap (ext n)
    rw [List.flatMap_assoc]
    congr 1
    funext o'
    exact ex_snoc n k o'
theorem lsts_ex (n : Nat) : ∀ k : Nat, lsts n k = ex n k []
  | 0 => rfl
  | k + 1 => by
    rw [ex_snoc, ← lsts_ex n k]; rfl
def tOk (ps : List (Int × Int)) (o : List Int) : Bool := ps.all fun p => decide (o.idxOf p.1 < o.idxOf p.2)
theorem tOk_iff {ps : List (Int × Int)} {o : List Int} : tOk ps o = true ↔ ∀ p ∈ ps, o.idxOf p.1 < o.idxOf p.2 := by
  unfold tOk
  simp [List.all_eq_true]
theorem tOk_acy {ps : List (Int × Int)} {o : List Int} (h : tOk ps o = true) : Acy ps := ⟨fun x => o.idxOf x, tOk_iff.mp h⟩
theorem find_none {ps : List (Int × Int)} (h : ¬ Acy ps) (ls : List (List Int)) : ls.find? (tOk ps) = none := by
  rw [List.find?_eq_none]
  intro o _ c
  exact h (tOk_acy c)
theorem idx_at {o : List Int} {x : Int} (h : x ∈ o) : o[o.idxOf x]? = some x := by
  have hl := List.idxOf_lt_length_iff.mpr h
  rw [List.getElem?_eq_getElem hl, List.getElem_idxOf]
theorem topo_ok {n : Nat} {ps : List (Int × Int)} {o : List Int} (h : OInv n ps o []) (hr : ∀ p ∈ ps, p.1 ∈ things n ∧ p.2 ∈ things n) : tOk ps o = true := by
  refine tOk_iff.mpr fun p hp => ?_
  have mem : ∀ x, x ∈ things n → x ∈ o := fun x hx => by
    rcases (h.al x).mp hx with q | q
    · exact q
    · exact nomatch q
  exact h.at_ p hp _ _ (idx_at (mem _ (hr p hp).1)) (idx_at (mem _ (hr p hp).2))
theorem ex_pre {n : Nat} : ∀ {k : Nat} {o o' : List Int}, o' ∈ ex n k o → ∃ r, o' = o ++ r
  | 0, o, o', h => by
    have : o' = o := by simpa [ex] using h
    exact ⟨[], by simp [this]⟩
  | k + 1, o, o', h => by
    obtain ⟨o1, h1, h2⟩ := List.mem_flatMap.mp h
    obtain ⟨x, _, rfl⟩ := List.mem_map.mp h1
    obtain ⟨r, rfl⟩ := ex_pre h2
    exact ⟨[x] ++ r, by simp⟩
theorem erase_is {l : List Int} (hn : l.Nodup) (x : Int) : l.erase x = l.filter fun y => !decide (y = x) := by
  induction l with
  | nil => rfl
  | cons y l ih =>
    have hn' := List.nodup_cons.mp hn
    rw [List.erase_cons, List.filter_cons]
    by_cases e : y = x
    · subst e
      have e1 : (y == y) = true := by simp
      rw [if_pos e1]
      have e2 : (!decide (y = y)) = false := by simp
      rw [e2]
      simp only [Bool.false_eq_true, if_false]
      symm
      rw [List.filter_eq_self]
      intro a ha
      simp
      intro c
      subst c
      exact hn'.1 ha
    · have e1 : (y == x) = false := by simpa using e
      have e2 : (!decide (y = x)) = true := by simp [e]
      rw [e1, e2]
      simp only [Bool.false_eq_true, if_false, if_true]
      rw [ih hn'.2]
theorem find_some {n : Nat} {ps : List (Int × Int)} (ha : Acy ps) (hr : ∀ p ∈ ps, p.1 ∈ things n ∧ p.2 ∈ things n) : ∀ (k : Nat) (o l : List Int), OInv n ps o l → l.length = k → l = (things n).filter (fun x => !decide (x ∈ o)) →
    (ex n k o).find? (tOk ps) = some (o ++ ordGo ps k l) ∧ (ordGo ps k l).length = k
  | 0, o, l, inv, hl, _ => by
    have : l = [] := List.length_eq_zero_iff.mp hl
    subst this
    refine ⟨?_, rfl⟩
    show [o].find? (tOk ps) = some (o ++ [])
    rw [List.find?_cons, topo_ok inv hr, List.append_nil]
  | k + 1, o, l, inv, hl, hf => by
    have lne : l ≠ [] := by intro e; rw [e] at hl; cases hl
    obtain ⟨x, fr, hfr⟩ : ∃ x fr, freeL ps l = x :: fr := by
      cases e : freeL ps l with
      | nil => exact absurd e (freeL_ne ha lne)
      | cons x fr => exact ⟨x, fr, rfl⟩
    have hxf : x ∈ freeL ps l := by rw [hfr]; exact List.mem_cons_self ..
    have hx : x ∈ l := (mem_freeL.mp hxf).1
    have le := List.length_erase_of_mem hx
    have inv' := oinv_step inv (fun p hp => (hr p hp).1) hxf
    have hf' : l.erase x = (things n).filter (fun y => !decide (y ∈ o ++ [x])) := by
      rw [erase_is inv.nl, hf, List.filter_filter]
      refine List.filter_congr fun y _ => ?_
      simp only [List.mem_append, List.mem_singleton]
      by_cases c : y = x <;> by_cases d : y ∈ o <;> simp [c, d]
    obtain ⟨ih, ihl⟩ := find_some ha hr k (o ++ [x]) (l.erase x) inv' (by omega) hf'
    have eg : ordGo ps (k + 1) l = x :: ordGo ps k (l.erase x) := by
      have := ordGo_step hfr
      rw [hl, le, hl] at this
      exact this
    rw [eg]
    refine ⟨?_, by simp [ihl]⟩
    have hfr' := hfr
    unfold freeL at hfr'
    obtain ⟨l1, l2, e, h1, _, _⟩ := List.filter_eq_cons_iff.mp hfr'
    show ((ext n o).flatMap (ex n k)).find? (tOk ps) = _
    have ee : ext n o = l.map fun x => o ++ [x] := by
      unfold ext
      rw [← hf]
    rw [List.find?_flatMap, ee, e, List.map_append, List.findSome?_append, List.map_cons, List.findSome?_cons, ih]
    have none1 : (l1.map fun x => o ++ [x]).findSome? (fun o' => (ex n k o').find? (tOk ps)) = none := by
      rw [List.findSome?_eq_none_iff]
      intro o1 ho1
      obtain ⟨y, hy, rfl⟩ := List.mem_map.mp ho1
      have hyl : y ∈ l := by rw [e]; exact List.mem_append_left _ hy
      have hnf := h1 y hy
      have hpu : y ∈ pushedL ps l := by simpa using hnf
      obtain ⟨p, hpm, hs, ey⟩ := mem_pushedL.mp hpu
      rw [List.find?_eq_none]
      intro o2 ho2 c
      obtain ⟨r, rfl⟩ := ex_pre ho2
      have lt := tOk_iff.mp c p hpm
      rw [ey] at lt
      have n1 : p.1 ∉ o := fun q => inv.dj _ q hs
      have n2 : y ∉ o := fun q => inv.dj _ q hyl
      rw [List.append_assoc] at lt
      have e1 : List.idxOf p.1 (o ++ ([y] ++ r)) = List.idxOf p.1 ([y] ++ r) + o.length := by rw [List.idxOf_append, if_neg n1]
      have e2 : List.idxOf y (o ++ ([y] ++ r)) = List.idxOf y ([y] ++ r) + o.length := by rw [List.idxOf_append, if_neg n2]
      have z : List.idxOf y ([y] ++ r) = 0 := by simp
      rw [e1, e2, z] at lt
      omega
    rw [none1]
    simp
    rw [← e]
theorem go_end {n : Nat} {ps : List (Int × Int)} (hr : ∀ p ∈ ps, p.1 ∈ things n ∧ p.2 ∈ things n) : ∀ (k : Nat) (o l : List Int), OInv n ps o l → l.length = k → (ordGo ps k l).length = k → OInv n ps (o ++ ordGo ps k l) []
  | 0, o, l, inv, hl, _ => by
    have : l = [] := List.length_eq_zero_iff.mp hl
    subst this
    show OInv n ps (o ++ []) []
    rw [List.append_nil]; exact inv
  | k + 1, o, l, inv, hl, hg => by
    cases hfr : freeL ps l with
    | nil =>
      rw [ordGo_stop hfr] at hg
      cases hg
    | cons x fr =>
      have hxf : x ∈ freeL ps l := by rw [hfr]; exact List.mem_cons_self ..
      have hx : x ∈ l := (mem_freeL.mp hxf).1
      have le := List.length_erase_of_mem hx
      have eg : ordGo ps (k + 1) l = x :: ordGo ps k (l.erase x) := by
        have := ordGo_step hfr
        rw [hl, le, hl] at this
        exact this
      rw [eg] at hg ⊢
      have := go_end hr k (o ++ [x]) (l.erase x) (oinv_step inv (fun p hp => (hr p hp).1) hxf) (by omega) (by simpa using hg)
      rw [List.append_assoc] at this
      exact this
section
variable {n : Nat} {ps : List (Int × Int)} (hr : ∀ p ∈ ps, p.1 ∈ things n ∧ p.2 ∈ things n)
include hr
theorem full_acy : (ordL n ps).length = n ↔ Acy ps := by
  constructor
  · intro h
    have := go_end hr n [] (things n) (oinv_0 n ps) (things_len n) h
    exact tOk_acy (topo_ok this hr)
  · intro h
    exact (find_some h hr n [] (things n) (oinv_0 n ps) (things_len n) (List.filter_eq_self.mpr (by simp)).symm).2
theorem find_ord : (lsts n n).find? (tOk ps) = if (ordL n ps).length = n then some (ordL n ps) else none := by
  by_cases c : (ordL n ps).length = n
  · rw [if_pos c, lsts_ex, (find_some ((full_acy hr).mp c) hr n [] (things n) (oinv_0 n ps) (things_len n) (List.filter_eq_self.mpr (by simp)).symm).1]
    rfl
  · rw [if_neg c]
    exact find_none (fun h => c ((full_acy hr).mpr h)) _
end
theorem freeL_congr {ps qs : List (Int × Int)} (h : ∀ p, p ∈ ps ↔ p ∈ qs) (l : List Int) : freeL ps l = freeL qs l := by
  unfold freeL
  refine List.filter_congr fun x _ => ?_
  have : x ∈ pushedL ps l ↔ x ∈ pushedL qs l := by
    rw [mem_pushedL, mem_pushedL]
    constructor
    · rintro ⟨p, a, b⟩; exact ⟨p, (h p).mp a, b⟩
    · rintro ⟨p, a, b⟩; exact ⟨p, (h p).mpr a, b⟩
  by_cases c : x ∈ pushedL ps l
  · simp [c, this.mp c]
  · have d : x ∉ pushedL qs l := fun q => c (this.mpr q)
    simp [c, d]
theorem ordGo_congr {ps qs : List (Int × Int)} (h : ∀ p, p ∈ ps ↔ p ∈ qs) : ∀ (k : Nat) (l : List Int), ordGo ps k l = ordGo qs k l
  | 0, _ => rfl
  | k + 1, l => by
    unfold ordGo
    rw [freeL_congr h l]
    cases freeL qs l with
    | nil => rfl
    | cons x fr =>
      show x :: _ = x :: _
      rw [ordGo_congr h k]
theorem ordL_congr {n : Nat} {ps qs : List (Int × Int)} (h : ∀ p, p ∈ ps ↔ p ∈ qs) : ordL n ps = ordL n qs := ordGo_congr h n _
theorem ext_mem {n : Nat} {o o' : List Int} (h : o' ∈ ext n o) : ∃ x ∈ things n, x ∉ o ∧ o' = o ++ [x] := by
  obtain ⟨x, hx, rfl⟩ := List.mem_map.mp h
  obtain ⟨h1, h2⟩ := List.mem_filter.mp hx
  exact ⟨x, h1, by simpa using h2, rfl⟩
theorem lsts_mem {n : Nat} : ∀ {k : Nat} {o : List Int}, o ∈ lsts n k → o.Nodup ∧ (∀ x ∈ o, x ∈ things n) ∧ o.length = k
  | 0, o, h => by
    have : o = [] := by simpa [lsts] using h
    subst this
    exact ⟨List.nodup_nil, (fun _ h => nomatch h), rfl⟩
  | k + 1, o, h => by
    obtain ⟨o1, h1, h2⟩ := List.mem_flatMap.mp h
    obtain ⟨x, hx, nx, rfl⟩ := ext_mem h2
    obtain ⟨a, b, c⟩ := lsts_mem h1
    refine ⟨?_, ?_, by simp [c]⟩
    · rw [List.nodup_append]
      refine ⟨a, by simp, ?_⟩
      intro y hy z hz e
      simp at hz
      subst hz
      subst e
      exact nx hy
    · intro y hy
      rcases List.mem_append.mp hy with q | q
      · exact b y q
      · simp at q
        exact q ▸ hx
theorem lsts_all {n : Nat} {o : List Int} (h : o ∈ lsts n n) {x : Int} (hx : x ∈ things n) : x ∈ o := by
  obtain ⟨a, b, c⟩ := lsts_mem h
  by_cases d : x ∈ o
  · exact d
  · have := nodup_le (l := x :: o) (m := things n) (List.nodup_cons.mpr ⟨d, a⟩) (fun y hy => by
      rcases List.mem_cons.mp hy with q | q
      · exact q ▸ hx
      · exact b y q)
    rw [things_len, List.length_cons, c] at this
    omega
theorem flat_len {α β : Type} {f : α → List β} {m : Nat} : ∀ {l : List α}, (∀ x ∈ l, (f x).length ≤ m) → (l.flatMap f).length ≤ l.length * m
  | [], _ => by simp
  | x :: l, h => by
    have h1 := h x (List.mem_cons_self ..)
    have h2 := flat_len (l := l) fun y hy => h y (List.mem_cons_of_mem _ hy)
    rw [List.flatMap_cons, List.length_append, List.length_cons, Nat.succ_mul]
    omega
theorem ext_len {n : Nat} (o : List Int) : (ext n o).length ≤ n := by
  unfold ext
  rw [List.length_map]
  have := List.length_filter_le (fun x => !decide (x ∈ o)) (things n)
  rw [things_len] at this
  exact this
theorem lsts_len {n : Nat} : ∀ k : Nat, (lsts n k).length ≤ n ^ k
  | 0 => by simp [lsts]
  | k + 1 => by
    have h1 := flat_len (l := lsts n k) (f := ext n) (m := n) fun x _ => ext_len x
    have h2 := lsts_len k (n := n)
    have h3 := Nat.mul_le_mul_right n h2
    rw [Nat.pow_succ]
    exact Nat.le_trans h1 h3
theorem lsts_few {n k : Nat} (hn : n ≤ 5) (hk : k ≤ 5) : (lsts n k).length ≤ 3125 := by
  have h1 := lsts_len k (n := n)
  have h2 : n ^ k ≤ 5 ^ k := Nat.pow_le_pow_left hn k
  have h3 : 5 ^ k ≤ 5 ^ 5 := Nat.pow_le_pow_right (by decide) hk
  have h4 : (5 : Nat) ^ 5 = 3125 := by decide
  omega
end Tk

/-! plain mathematics: one arrow or tie more -/
namespace Tk
theorem acy_put {as : List (Int × Int)} {i j : Int} (ac : Acy as) : Acy (as ++ [(i, j)]) ↔ ¬ Reach as j i := by
  constructor
  · rintro ⟨r, hr⟩ h
    have le : ∀ {a b : Int}, Reach as a b → r a ≤ r b := by
      intro a b h
      induction h with
      | refl => exact Nat.le_refl _
      | tail _ hp ih => exact Nat.le_trans ih (Nat.le_of_lt (hr _ (List.mem_append_left _ hp)))
    have := le h
    have h2 : r i < r j := hr (i, j) (by simp)
    omega
  · intro no
    obtain ⟨r, hr⟩ := ac
    refine ⟨fun x => r x + if @decide (Reach as j x) (Classical.propDecidable _) = true then r i + 1 else 0, fun p hp => ?_⟩
    show r p.1 + _ < r p.2 + _
    rcases List.mem_append.mp hp with h | h
    · have lt := hr p h
      by_cases c : Reach as j p.1
      · have c2 : Reach as j p.2 := .tail c (by obtain ⟨a, b⟩ := p; exact h)
        rw [if_pos (@decide_eq_true _ (Classical.propDecidable _) c), if_pos (@decide_eq_true _ (Classical.propDecidable _) c2)]
        omega
      · rw [if_neg (fun z => c (@of_decide_eq_true _ (Classical.propDecidable _) z))]
        omega
    · rw [List.mem_singleton.mp h]
      show r i + _ < r j + _
      rw [if_neg (fun z => no (@of_decide_eq_true _ (Classical.propDecidable _) z)), if_pos (@decide_eq_true _ (Classical.propDecidable _) .refl)]
      omega
def rowT (n i : Nat) : List (Int × Int) := (List.range (n - (i + 1))).map fun j => ((i : Int), ((i + 1 + j : Nat) : Int))
def rowsT (n k : Nat) : List (Int × Int) := (List.range k).flatMap (rowT n)
theorem rowsT_succ (n k : Nat) : rowsT n (k + 1) = rowsT n k ++ rowT n k := by
  unfold rowsT
  rw [List.range_succ, List.flatMap_append]
  simp
theorem mem_rowsT {n : Nat} {x y : Int} : (x, y) ∈ rowsT n n ↔ 0 ≤ x ∧ x < y ∧ y < n := by
  unfold rowsT rowT
  simp only [List.mem_flatMap, List.mem_range, List.mem_map, Prod.mk.injEq]
  constructor
  · rintro ⟨i, hi, j, hj, rfl, rfl⟩
    omega
  · rintro ⟨h1, h2, h3⟩
    exact ⟨x.toNat, by omega, (y - x - 1).toNat, by omega, by omega, by omega⟩
theorem rowsT_few {n k : Nat} (h : n ≤ 6) (hk : k ≤ 6) : (rowsT n k).length ≤ 36 := by
  have h1 : n = 0 ∨ n = 1 ∨ n = 2 ∨ n = 3 ∨ n = 4 ∨ n = 5 ∨ n = 6 := by omega
  have h2 : k = 0 ∨ k = 1 ∨ k = 2 ∨ k = 3 ∨ k = 4 ∨ k = 5 ∨ k = 6 := by omega
  rcases h1 with rfl | rfl | rfl | rfl | rfl | rfl | rfl <;> rcases h2 with rfl | rfl | rfl | rfl | rfl | rfl | rfl <;> decide
theorem rowsT_nd {n : Nat} (h : n ≤ 6) : (rowsT n n).Nodup := by
  have h1 : n = 0 ∨ n = 1 ∨ n = 2 ∨ n = 3 ∨ n = 4 ∨ n = 5 ∨ n = 6 := by omega
  rcases h1 with rfl | rfl | rfl | rfl | rfl | rfl | rfl <;> decide +kernel
end Tk

namespace Tk
/-! more arrows and ties; bars and the parts by ties -/
section
variable {n : Nat} {as as' ts ts' : List (Int × Int)}
theorem up_sub {l : List Int} (s : ∀ p ∈ as, p ∈ as') {a b : Int} (h : Reach (upIn as l) a b) : Reach (upIn as' l) a b :=
  reach_mono (fun ⟨x, y⟩ hp => by rw [mem_upIn] at hp ⊢; exact ⟨s _ hp.1, hp.2⟩) h
theorem tie_sub {l : List Int} (s : ∀ p ∈ ts, p ∈ ts') {a b : Int} (h : Reach (tieIn ts l) a b) : Reach (tieIn ts' l) a b :=
  reach_mono (fun ⟨x, y⟩ hp => by rw [mem_tieIn] at hp ⊢; exact ⟨hp.1.elim (fun z => .inl (s _ z)) (fun z => .inr (s _ z)), hp.2⟩) h
theorem good_more {x : Int} {l : List Int} (sa : ∀ p ∈ as, p ∈ as') (st : ∀ p ∈ ts, p ∈ ts') (g : Good n as ts x l) : Good n as' ts' x l :=
  ⟨g.lot, g.mem, fun y hy => up_sub sa (g.up y hy), fun y hy => tie_sub st (g.tie y hy)⟩
theorem bar_more {l : List Int} (sa : ∀ p ∈ as, p ∈ as') (st : ∀ p ∈ ts, p ∈ ts') (b : Bar n as ts l) : Bar n as' ts' l := by
  obtain ⟨x, g⟩ := bar_good b
  exact good_bar (good_more sa st g) b.two
theorem plain_more (sa : ∀ p ∈ as, p ∈ as') (st : ∀ p ∈ ts, p ∈ ts') (h : PlainP n as' ts') : PlainP n as ts := by
  rw [plain_bars] at h ⊢
  exact fun l b => h l (bar_more sa st b)
theorem gl_more {x : Int} (sa : ∀ p ∈ as, p ∈ as') (st : ∀ p ∈ ts, p ∈ ts') : ∀ y ∈ gl n as ts x, y ∈ gl n as' ts' x := fun y hy => by
  obtain ⟨l, g, hl⟩ := mem_gl.mp hy
  exact mem_gl.mpr ⟨l, good_more sa st g, hl⟩
end
section
variable {n : Nat} {as ts : List (Int × Int)}
theorem tie_both {l : List Int} {a b : Int} (h : Reach (tieIn ts l) a b) : Reach (both ts) a b :=
  reach_mono (fun ⟨x, y⟩ hp => by rw [mem_tieIn] at hp; rw [mem_both]; exact hp.1) h
theorem one_in : ∀ {L : List (List Int)} {x : Int}, L.flatten.Nodup → x ∈ L.flatten → (L.filter fun p => decide (x ∈ p)).length = 1
  | [], x, _, h => by simp at h
  | p :: L, x, nd, h => by
    rw [List.flatten_cons] at nd h
    obtain ⟨n1, n2, n3⟩ := List.nodup_append.mp nd
    by_cases c : x ∈ p
    · rw [List.filter_cons_of_pos (by simp [c])]
      have : (L.filter fun p => decide (x ∈ p)) = [] := by
        rw [List.filter_eq_nil_iff]
        intro q hq e
        have e' : x ∈ q := by simpa using e
        exact n3 x c x (List.mem_flatten.mpr ⟨q, hq, e'⟩) rfl
      rw [this]; rfl
    · rw [List.filter_cons_of_neg (by simp [c])]
      exact one_in n2 ((List.mem_append.mp h).resolve_left c)
theorem part_closed {p : List Int} (hp : p ∈ partsL n ts) {x y : Int} (hx : x ∈ p) (hy : y ∈ things n) (r : Reach (both ts) x y) : y ∈ p := by
  obtain ⟨t, _, rfl⟩ := List.mem_map.mp hp
  exact mem_cl.mpr ⟨hy, (mem_cl.mp hx).2.trans r⟩
def insB (l m : List Int) : Bool := l.all fun z => decide (z ∈ m)
theorem insB_iff {l m : List Int} : insB l m = true ↔ ∀ z ∈ l, z ∈ m := by
  unfold insB
  rw [List.all_eq_true]
  simp
theorem bar_parts {l : List Int} (b : Bar n as ts l) : ((partsL n ts).filter fun p => insB l p).length = 1 := by
  obtain ⟨x, g⟩ := bar_good b
  have e : ((partsL n ts).filter fun p => insB l p) = (partsL n ts).filter fun p => decide (x ∈ p) := by
    refine List.filter_congr fun p hp => ?_
    rw [Bool.eq_iff_iff, insB_iff, decide_eq_true_eq]
    exact ⟨fun h => h x g.mem, fun h y hy => part_closed hp h (g.lot.2 y hy) (tie_both (g.tie y hy))⟩
  rw [e]
  exact one_in parts_flat_nodup (parts_flat_mem.mpr (g.lot.2 x g.mem))
/-- the ties that begin in a part -/
def tiesOf (ts : List (Int × Int)) (p : List Int) : List (Int × Int) := ts.filter fun t => decide (t.1 ∈ p)
theorem mem_tiesOf {p : List Int} {q : Int × Int} : q ∈ tiesOf ts p ↔ q ∈ ts ∧ q.1 ∈ p := by
  unfold tiesOf
  rw [List.mem_filter]
  simp
theorem bar_part {p l : List Int} (pt : ∀ q ∈ ts, q.1 ∈ things n ∧ q.2 ∈ things n) (hp : p ∈ partsL n ts) : Bar n as (tiesOf ts p) l ↔ Bar n as ts l ∧ ∀ z ∈ l, z ∈ p := by
  constructor
  · intro b
    have sub : ∀ q ∈ tiesOf ts p, q ∈ ts := fun q hq => (mem_tiesOf.mp hq).1
    refine ⟨bar_more (fun _ h => h) sub b, ?_⟩
    obtain ⟨x, g⟩ := bar_good b
    -- some other thing of the lot is next to x
    have key : ∀ {a b : Int}, Reach (tieIn (tiesOf ts p) l) a b → a ≠ b → b ∈ p := by
      intro a b h ne
      cases h with
      | refl => exact absurd rfl ne
      | @tail c d _ hq =>
        obtain ⟨h1, _, _⟩ := mem_tieIn.mp hq
        rcases h1 with z | z
        · obtain ⟨z1, z2⟩ := mem_tiesOf.mp z
          exact part_closed hp z2 (pt _ z1).2 (.tail .refl (mem_both.mpr (.inl z1)))
        · exact (mem_tiesOf.mp z).2
    obtain ⟨y, hy, ne⟩ : ∃ y ∈ l, x ≠ y := by
      refine Classical.byContradiction fun no => ?_
      have : ∀ y ∈ l, x = y := fun y hy => Classical.byContradiction fun ne => no ⟨y, hy, ne⟩
      have h1 := nodup_le (lt_nd g.lot.1) (m := [x]) fun y hy => by rw [this y hy]; simp
      have := b.two
      simp at h1
      omega
    have yp := key (g.tie y hy) ne
    have xp : x ∈ p := part_closed hp yp (g.lot.2 x g.mem) (tie_both (tie_sym (tie_sub sub (g.tie y hy))))
    exact fun z hz => part_closed hp xp (g.lot.2 z hz) (tie_both (tie_sub sub (g.tie z hz)))
  · rintro ⟨b, s⟩
    obtain ⟨x, g⟩ := bar_good b
    refine good_bar ⟨g.lot, g.mem, g.up, fun y hy => ?_⟩ b.two
    refine reach_mono (fun ⟨u, v⟩ hq => ?_) (g.tie y hy)
    obtain ⟨h1, h2, h3⟩ := mem_tieIn.mp hq
    refine mem_tieIn.mpr ⟨?_, h2, h3⟩
    rcases h1 with z | z
    · exact .inl (mem_tiesOf.mpr ⟨z, s _ h2⟩)
    · exact .inr (mem_tiesOf.mpr ⟨z, s _ h3⟩)
end
/-- nothing later in the order leads to what is earlier -/
theorem topo_le {n : Nat} {as : List (Int × Int)} {o : List Int} (h : Topo n as o) (th : ∀ p ∈ as, p.1 ∈ things n ∧ p.2 ∈ things n) {a b : Int} (r : Reach as a b) : ∀ {i j : Nat}, o[i]? = some a → o[j]? = some b → i ≤ j := by
  induction r with
  | refl =>
    intro i j hi hj
    have hil := (List.getElem?_eq_some_iff.mp hi).1
    have := (List.getElem?_inj hil h.nd).mp (hi.trans hj.symm)
    omega
  | @tail c d _ hp ih =>
    intro i j hi hj
    have hc : c ∈ o := (h.mem c).mpr (th _ hp).1
    obtain ⟨k, hk⟩ := List.getElem?_of_mem hc
    have h1 := ih hi hk
    have h2 := h.at_ _ hp k j hk hj
    omega
theorem topo_put {n : Nat} {as : List (Int × Int)} {o : List Int} (h : Topo n as o) (ac : Acy as) (th : ∀ p ∈ as, p.1 ∈ things n ∧ p.2 ∈ things n) {i j : Nat} {a b : Int} (hi : o[i]? = some a) (hj : o[j]? = some b) (lt : i < j) : Acy (as ++ [(a, b)]) :=
  (acy_put ac).mpr fun r => by
    have := topo_le h th r hj hi
    omega
end Tk

namespace Tk
/-! built lots: each thing but the last has one arrow to a later one, the ties make a tree -/
def mnx (a b : Int) : Int × Int := (if b < a then b else a, if b > a then b else a)
theorem mnx_lt {a b : Int} (h : a ≠ b) : (mnx a b).1 < (mnx a b).2 := by
  unfold mnx
  by_cases c : b < a
  · simp only [if_pos c, if_neg (show ¬ b > a by omega)]; exact c
  · simp only [if_neg c, if_pos (show b > a by omega)]; omega
theorem mnx_mem {a b : Int} (h : a ≠ b) : mnx a b = (a, b) ∨ mnx a b = (b, a) := by
  unfold mnx
  by_cases c : b < a
  · right; simp only [if_pos c, if_neg (show ¬ b > a by omega)]
  · left; simp only [if_neg c, if_pos (show b > a by omega)]
/-- the arrows -/
def Fwd (o : List Int) (as : List (Int × Int)) (k : Nat) : Prop := as.length = k ∧ ∀ i, i < k → ∃ j, i < j ∧ j < o.length ∧ as[i]? = some (it o i, it o j)
theorem fwd_0 (o : List Int) : Fwd o [] 0 := ⟨rfl, fun _ h => absurd h (by omega)⟩
theorem fwd_put {o : List Int} {as : List (Int × Int)} {k j : Nat} (h : Fwd o as k) (l : k < j) (hj : j < o.length) : Fwd o (as ++ [(it o k, it o j)]) (k + 1) := by
  refine ⟨by simp [h.1], fun i hi => ?_⟩
  by_cases c : i < k
  · obtain ⟨j', a, b, d⟩ := h.2 i c
    exact ⟨j', a, b, by rw [List.getElem?_append_left (by rw [h.1]; exact c)]; exact d⟩
  · have e : i = k := by omega
    subst e
    refine ⟨j, l, hj, ?_⟩
    rw [List.getElem?_append_right (by rw [h.1]; omega), h.1]
    simp
theorem fwd_mem {o : List Int} {as : List (Int × Int)} {k : Nat} (h : Fwd o as k) {p : Int × Int} (hp : p ∈ as) : ∃ i j, i < k ∧ i < j ∧ j < o.length ∧ p = (it o i, it o j) := by
  obtain ⟨i, hi⟩ := List.getElem?_of_mem hp
  have il := (List.getElem?_eq_some_iff.mp hi).1
  rw [h.1] at il
  obtain ⟨j, a, b, d⟩ := h.2 i il
  rw [hi] at d
  exact ⟨i, j, il, a, b, Option.some.inj d⟩
/-- the last one is reached by all -/
theorem fwd_head {o lot : List Int} {as : List (Int × Int)} (h : Fwd o as (o.length - 1)) (hl : ∀ x, x ∈ lot ↔ x ∈ o) (pos : 0 < o.length) : ∀ k i, i + k + 1 = o.length → Reach (upIn as lot) (it o (o.length - 1)) (it o i) := by
  intro k
  induction k using Nat.strongRecOn with
  | ind k ih =>
    intro i hi
    by_cases c : k = 0
    · have : i = o.length - 1 := by omega
      rw [this]; exact .refl
    · obtain ⟨j, l, hj, e⟩ := h.2 i (by omega)
      have r := ih (o.length - 1 - j) (by omega) j (by omega)
      refine .tail r (mem_upIn.mpr ⟨List.mem_of_getElem? e, (hl _).mpr (it_mem (by omega)), (hl _).mpr (it_mem hj)⟩)
/-- the ties: a tree on e -/
def Tre (e : List Int) (ts : List (Int × Int)) (k : Nat) : Prop := ts.length = k ∧ ∀ i, i < k → i + 1 < e.length ∧ ∃ j, j ≤ i ∧ ts[i]? = some (mnx (it e (i + 1)) (it e j))
theorem tre_0 (e : List Int) : Tre e [] 0 := ⟨rfl, fun _ h => absurd h (by omega)⟩
theorem tre_put {e : List Int} {ts : List (Int × Int)} {k j : Nat} (h : Tre e ts k) (l : j ≤ k) (hk : k + 1 < e.length) : Tre e (ts ++ [mnx (it e (k + 1)) (it e j)]) (k + 1) := by
  refine ⟨by simp [h.1], fun i hi => ?_⟩
  by_cases c : i < k
  · obtain ⟨a, j', b, d⟩ := h.2 i c
    exact ⟨a, j', b, by rw [List.getElem?_append_left (by rw [h.1]; exact c)]; exact d⟩
  · have e' : i = k := by omega
    subst e'
    refine ⟨hk, j, l, ?_⟩
    rw [List.getElem?_append_right (by rw [h.1]; omega), h.1]
    simp
theorem tre_mem {e : List Int} {ts : List (Int × Int)} {k : Nat} (h : Tre e ts k) {p : Int × Int} (hp : p ∈ ts) : ∃ i j, i < k ∧ i + 1 < e.length ∧ j ≤ i ∧ ts[i]? = some p ∧ p = mnx (it e (i + 1)) (it e j) := by
  obtain ⟨i, hi⟩ := List.getElem?_of_mem hp
  have il := (List.getElem?_eq_some_iff.mp hi).1
  rw [h.1] at il
  obtain ⟨a, j, b, d⟩ := h.2 i il
  exact ⟨i, j, il, a, b, hi, by rw [hi] at d; exact Option.some.inj d⟩
theorem tre_ne {e : List Int} (nd : e.Nodup) {i j : Nat} (hi : i + 1 < e.length) (hj : j ≤ i) : it e (i + 1) ≠ it e j := fun z => by
  have := it_inj nd hi (by omega) z
  omega
theorem tre_hang {e lot : List Int} {ts : List (Int × Int)} (nd : e.Nodup) (h : Tre e ts (e.length - 1)) (hl : ∀ x, x ∈ lot ↔ x ∈ e) : ∀ k, k < e.length → Reach (tieIn ts lot) (it e 0) (it e k) := by
  intro k
  induction k using Nat.strongRecOn with
  | ind k ih =>
    intro hk
    cases k with
    | zero => exact .refl
    | succ i =>
      obtain ⟨a, j, b, d⟩ := h.2 i (by omega)
      have r := ih j (by omega) (by omega)
      have hm := List.mem_of_getElem? d
      refine .tail r (mem_tieIn.mpr ⟨?_, (hl _).mpr (it_mem (by omega)), (hl _).mpr (it_mem a)⟩)
      rcases mnx_mem (tre_ne nd a b) with z | z
      · rw [z] at hm; exact .inr hm
      · rw [z] at hm; exact .inl hm
/-- less one tie, two colours -/
theorem tre_cut {e : List Int} {ts : List (Int × Int)} {k : Nat} (h : Tre e ts k) (i0 : Nat) : ∀ m, m ≤ k → ∃ c : Nat → Bool, c 0 = false ∧ (i0 < m → c (i0 + 1) = true) ∧ ∀ i, i < m → i ≠ i0 → ∃ j, j ≤ i ∧ ts[i]? = some (mnx (it e (i + 1)) (it e j)) ∧ c (i + 1) = c j := by
  intro m
  induction m with
  | zero => exact fun _ => ⟨fun _ => false, rfl, fun z => absurd z (by omega), fun i hi => absurd hi (by omega)⟩
  | succ m ih =>
    intro hm
    obtain ⟨c, c0, c1, c2⟩ := ih (by omega)
    obtain ⟨_, j, hj, ej⟩ := h.2 m (by omega)
    refine ⟨fun x => if x = m + 1 then (if m = i0 then true else c j) else c x, ?_, ?_, ?_⟩
    · show (if 0 = m + 1 then _ else c 0) = false
      rw [if_neg (by omega)]; exact c0
    · intro l
      show (if i0 + 1 = m + 1 then (if m = i0 then true else c j) else c (i0 + 1)) = true
      by_cases z : i0 = m
      · rw [if_pos (by omega), if_pos z.symm]
      · rw [if_neg (by omega)]; exact c1 (by omega)
    · intro i hi ne
      by_cases z : i = m
      · subst z
        refine ⟨j, hj, ej, ?_⟩
        show (if i + 1 = i + 1 then (if i = i0 then true else c j) else c (i + 1)) = (if j = i + 1 then (if i = i0 then true else c j) else c j)
        rw [if_pos rfl, if_neg ne, if_neg (by omega)]
      · obtain ⟨j', a, b, d⟩ := c2 i (by omega) ne
        refine ⟨j', a, b, ?_⟩
        show (if i + 1 = m + 1 then (if m = i0 then true else c j) else c (i + 1)) = (if j' = m + 1 then (if m = i0 then true else c j) else c j')
        rw [if_neg (by omega), if_neg (by omega)]
        exact d
theorem idx_it {e : List Int} (nd : e.Nodup) {i : Nat} (h : i < e.length) : e.idxOf (it e i) = i := by
  have hm := it_mem h
  have h1 := List.idxOf_lt_length_of_mem hm
  have h2 : it e (e.idxOf (it e i)) = it e i := by
    have a := it_some h1
    have b : e[e.idxOf (it e i)]? = some (it e i) := by
      rw [List.getElem?_eq_getElem h1, List.getElem_idxOf h1]
    rw [a] at b
    exact Option.some.inj b
  exact it_inj nd h1 h h2
/-- less one tie, the lot does not hang together -/
theorem cut_apart {e lot : List Int} {ts fs : List (Int × Int)} (nd : e.Nodup) (h : Tre e ts (e.length - 1)) {i0 : Nat} (hi0 : i0 < e.length - 1) (sub : ∀ q ∈ fs, q ∈ ts ∧ some q ≠ ts[i0]?) : ¬ Reach (tieIn fs lot) (it e 0) (it e (i0 + 1)) := by
  obtain ⟨c, c0, c1, c2⟩ := tre_cut h i0 (e.length - 1) (Nat.le_refl _)
  have keep : ∀ q ∈ fs, c (e.idxOf q.1) = c (e.idxOf q.2) := by
    intro q hq
    obtain ⟨hq1, hq2⟩ := sub q hq
    obtain ⟨i, j, il, il2, jl, hi, _⟩ := tre_mem h hq1
    have ne : i ≠ i0 := fun z => hq2 (by rw [← z, hi])
    obtain ⟨j', a, b, d⟩ := c2 i il ne
    rw [hi] at b
    have b' := Option.some.inj b
    have e1 := idx_it nd il2
    have e2 := idx_it nd (show j' < e.length by omega)
    rcases mnx_mem (tre_ne nd il2 a) with z | z
    · rw [b', z]
      show c (e.idxOf (it e (i + 1))) = c (e.idxOf (it e j'))
      rw [e1, e2]; exact d
    · rw [b', z]
      show c (e.idxOf (it e j')) = c (e.idxOf (it e (i + 1)))
      rw [e1, e2]; exact d.symm
  have go : ∀ {a b : Int}, Reach (tieIn fs lot) a b → c (e.idxOf a) = c (e.idxOf b) := by
    intro a b r
    induction r with
    | refl => rfl
    | tail _ hp ih =>
      obtain ⟨z, _, _⟩ := mem_tieIn.mp hp
      rcases z with z | z
      · exact ih.trans (keep _ z)
      · exact ih.trans (keep _ z).symm
  intro r
  have := go r
  rw [idx_it nd (by omega), idx_it nd (by omega), c0, c1 hi0] at this
  cases this
theorem tre_nodup {e : List Int} {ts : List (Int × Int)} {k : Nat} (nd : e.Nodup) (h : Tre e ts k) : ts.Nodup := by
  show List.Pairwise _ _
  rw [List.pairwise_iff_getElem]
  intro i i' hi hi' lt eq0
  have eq : ts[i]? = ts[i']? := by rw [List.getElem?_eq_getElem hi, List.getElem?_eq_getElem hi', eq0]
  rw [h.1] at hi'
  obtain ⟨a, j, b, d⟩ := h.2 i (by omega)
  obtain ⟨a', j', b', d'⟩ := h.2 i' hi'
  rw [d, d'] at eq
  have eq' := Option.some.inj eq
  have no : ∀ y, y = it e (i + 1) ∨ y = it e j → it e (i' + 1) ≠ y := by
    rintro y (rfl | rfl) z
    · have := it_inj nd a' a z; omega
    · have := it_inj nd a' (by omega) z; omega
  rcases mnx_mem (tre_ne nd a b) with z | z <;> rcases mnx_mem (tre_ne nd a' b') with z' | z' <;> (rw [z, z'] at eq'; obtain ⟨e1, e2⟩ := Prod.mk.inj eq')
  · exact no _ (.inl rfl) e1.symm
  · exact no _ (.inr rfl) e2.symm
  · exact no _ (.inr rfl) e1.symm
  · exact no _ (.inl rfl) e2.symm
/-- without the arrow of one thing, no head -/
theorem fwd_less {o lot : List Int} {as fs : List (Int × Int)} (nd : o.Nodup) (h : Fwd o as (o.length - 1)) (hl : ∀ x, x ∈ lot ↔ x ∈ o) {i0 : Nat} (hi0 : i0 < o.length - 1)
    (sub : ∀ q ∈ fs, q.1 ∈ lot → q.2 ∈ lot → q ∈ as ∧ some q ≠ as[i0]?) : ∀ x ∈ lot, ¬ IsHead fs lot x := by
  intro x hx hd
  -- who has no arrow out is no one's start
  have stuck : ∀ i, i < o.length → (i = i0 ∨ i = o.length - 1) → ∀ {a b : Int}, Reach (upIn fs lot) a b → b = it o i → a = it o i := by
    intro i hi hc a b r e
    cases r with
    | refl => exact e
    | @tail c _ r hp =>
      exfalso
      subst e
      obtain ⟨z, _, _⟩ := mem_upIn.mp hp
      rename_i h1 h2
      obtain ⟨s1, s2⟩ := sub _ z (by assumption) (by assumption)
      obtain ⟨k, hk⟩ := List.getElem?_of_mem s1
      have kl := (List.getElem?_eq_some_iff.mp hk).1
      rw [h.1] at kl
      obtain ⟨j, l1, l2, d⟩ := h.2 k kl
      rw [hk] at d
      have d' := Option.some.inj d
      have ei : i = k := it_inj nd hi (by omega) (Prod.mk.inj d').1
      rcases hc with rfl | rfl
      · exact s2 (by rw [show as[i]? = as[k]? from by rw [ei], hk])
      · omega
  have e1 := stuck i0 (by omega) (.inl rfl) (hd _ ((hl _).mpr (it_mem (by omega)))) rfl
  have e2 := stuck (o.length - 1) (by omega) (.inr rfl) (hd _ ((hl _).mpr (it_mem (by omega)))) rfl
  have := it_inj nd (by omega) (by omega) (e1.symm.trans e2)
  omega
theorem fwd_nodup {o : List Int} {as : List (Int × Int)} {k : Nat} (nd : o.Nodup) (h : Fwd o as k) (hk : k ≤ o.length) : as.Nodup := by
  show List.Pairwise _ _
  rw [List.pairwise_iff_getElem]
  intro i i' hi hi' lt eq0
  have eq : as[i]? = as[i']? := by rw [List.getElem?_eq_getElem hi, List.getElem?_eq_getElem hi', eq0]
  rw [h.1] at hi hi'
  obtain ⟨j, _, _, d⟩ := h.2 i hi
  obtain ⟨j', _, _, d'⟩ := h.2 i' hi'
  rw [d, d'] at eq
  have := it_inj nd (by omega) (by omega) (Prod.mk.inj (Option.some.inj eq)).1
  omega
theorem built_acy {o : List Int} {as fs : List (Int × Int)} {k : Nat} (nd : o.Nodup) (h : Fwd o as k) (hk : k ≤ o.length) (f1 : fs.length ≤ 1) (hf : ∀ q ∈ fs, (q.1 ∉ o ∧ q.2 ∈ o) ∨ (q.1 ∈ o ∧ q.2 ∉ o)) : Acy (as ++ fs) := by
  refine ⟨fun x => if x ∈ o then o.idxOf x + 1 else if (fs.any fun q => decide (q.2 = x)) = true then o.length + 2 else 0, fun p hp => ?_⟩
  have one : ∀ q ∈ fs, ∀ q' ∈ fs, q = q' := by
    intro q hq q' hq'
    cases fs with
    | nil => cases hq
    | cons a t =>
      cases t with
      | nil => rw [List.mem_singleton.mp hq, List.mem_singleton.mp hq']
      | cons b t => simp at f1
  rcases List.mem_append.mp hp with g | g
  · obtain ⟨i, j, a, b, c, rfl⟩ := fwd_mem h g
    show (if it o i ∈ o then _ else _) < (if it o j ∈ o then _ else _)
    rw [if_pos (it_mem (by omega)), if_pos (it_mem c), idx_it nd (by omega), idx_it nd c]
    omega
  · rcases hf p g with ⟨a, b⟩ | ⟨a, b⟩
    · have no : ¬ (fs.any fun q => decide (q.2 = p.1)) = true := by
        intro z
        obtain ⟨q, hq, e⟩ := List.any_eq_true.mp z
        have e' : q.2 = p.1 := by simpa using e
        rw [one q hq p g] at e'
        exact a (e' ▸ b)
      simp only [if_neg a, if_neg no, if_pos b]
      omega
    · have yes : (fs.any fun q => decide (q.2 = p.2)) = true := List.any_eq_true.mpr ⟨p, g, by simp⟩
      have := List.idxOf_lt_length_of_mem a
      simp only [if_pos a, if_neg b, if_pos yes]
      omega
section
variable {n : Nat} {as ts : List (Int × Int)}
theorem reach_out {ps : List (Int × Int)} {a b : Int} (h : Reach ps a b) (ne : a ≠ b) : ∃ c, (c, b) ∈ ps := by
  cases h with
  | refl => exact absurd rfl ne
  | @tail c _ _ hp => exact ⟨c, hp⟩
/-- a barred lot keeps to the things that are tied -/
theorem bar_in {o l : List Int} (h : ∀ q ∈ ts, q.1 ∈ o ∧ q.2 ∈ o) (b : Bar n as ts l) : ∀ z ∈ l, z ∈ o := by
  obtain ⟨x, g⟩ := bar_good b
  have key : ∀ {a c : Int}, Reach (tieIn ts l) a c → a ≠ c → c ∈ o := fun r ne => by
    obtain ⟨d, hd⟩ := reach_out r ne
    obtain ⟨z, _, _⟩ := mem_tieIn.mp hd
    rcases z with z | z
    · exact (h _ z).2
    · exact (h _ z).1
  intro z hz
  by_cases c : x = z
  · subst c
    obtain ⟨y, hy, ne⟩ : ∃ y ∈ l, y ≠ x := by
      refine Classical.byContradiction fun no => ?_
      have all : ∀ y ∈ l, y = x := fun y hy => Classical.byContradiction fun ne => no ⟨y, hy, ne⟩
      have h1 := nodup_le (lt_nd g.lot.1) (m := [x]) fun y hy => by rw [all y hy]; simp
      have := b.two
      simp at h1
      omega
    exact key (tie_sym (g.tie y hy)) ne
  · exact key (g.tie z hz) c
theorem gl_out {o : List Int} (h : ∀ q ∈ ts, q.1 ∈ o ∧ q.2 ∈ o) {x : Int} (hx : x ∈ things n) (no : x ∉ o) : gl n as ts x = [x] := by
  have g := gl_good (as := as) (ts := ts) hx
  by_cases c : 1 < (gl n as ts x).length
  · exact absurd (bar_in h (good_bar g c) x g.mem) no
  · cases e : gl n as ts x with
    | nil => have := g.mem; rw [e] at this; cases this
    | cons a t =>
      cases t with
      | nil => have := g.mem; rw [e] at this; rw [List.mem_singleton.mp this]
      | cons b t => rw [e] at c; simp at c
theorem gl_lotb {o lot : List Int} {x : Int} (h : ∀ q ∈ ts, q.1 ∈ o ∧ q.2 ∈ o) (hl : ∀ y, y ∈ lot ↔ y ∈ o) (g : Good n as ts x lot) : gl n as ts x = lot := by
  refine (gl_eq g fun m gm y hy => ?_).symm
  by_cases c : 1 < m.length
  · exact (hl y).mpr (bar_in h (good_bar gm c) y hy)
  · have : y = x := by
      cases e : m with
      | nil => rw [e] at hy; cases hy
      | cons a t =>
        cases t with
        | nil => have h1 := gm.mem; rw [e] at hy h1; rw [List.mem_singleton.mp hy, List.mem_singleton.mp h1]
        | cons b t => rw [e] at c; simp at c
    rw [this]; exact g.mem
/-- each barred lot lies on one side -/
theorem bar_side {o lot l ns : List Int} {x : Int} (h : ∀ q ∈ ts, q.1 ∈ o ∧ q.2 ∈ o) (hl : ∀ y, y ∈ lot ↔ y ∈ o) (hs : ∀ y, y ∈ ns ↔ Reach (tieIn ts lot) x y) (b : Bar n as ts l) : ∀ y ∈ l, ∀ z ∈ l, y ∈ ns → z ∈ ns := by
  obtain ⟨u, g⟩ := bar_good b
  have s : ∀ z ∈ l, z ∈ lot := fun z hz => (hl z).mpr (bar_in h b z hz)
  intro y hy z hz hn
  rw [hs] at hn ⊢
  exact reach_trans hn (tie_mono s (reach_trans (tie_sym (g.tie y hy)) (g.tie z hz)))
theorem built_good {o e lot : List Int} {fs : List (Int × Int)} (po : e.Perm o) (nd : o.Nodup) (pos : 0 < o.length) (hA : Fwd o as (o.length - 1)) (hT : Tre e ts (o.length - 1)) (lo : Lot n lot) (hl : ∀ x, x ∈ lot ↔ x ∈ o) : Good n (as ++ fs) ts (it o (o.length - 1)) lot := by
  have ndE := po.nodup_iff.mpr nd
  have le := po.length_eq
  have hlE : ∀ x, x ∈ lot ↔ x ∈ e := fun x => (hl x).trans po.mem_iff.symm
  have hT' : Tre e ts (e.length - 1) := by rw [le]; exact hT
  have lastM : it o (o.length - 1) ∈ lot := (hl _).mpr (it_mem (by omega))
  have toE : ∀ y ∈ lot, Reach (tieIn ts lot) (it e 0) y := fun y hy => by
    obtain ⟨i, hi⟩ := List.getElem?_of_mem ((hlE y).mp hy)
    have il := (List.getElem?_eq_some_iff.mp hi).1
    rw [it_some il] at hi
    rw [← Option.some.inj hi]
    exact tre_hang ndE hT' hlE i il
  refine ⟨lo, lastM, fun y hy => ?_, fun y hy => reach_trans (tie_sym (toE _ lastM)) (toE y hy)⟩
  obtain ⟨i, hi⟩ := List.getElem?_of_mem ((hl y).mp hy)
  have il := (List.getElem?_eq_some_iff.mp hi).1
  rw [it_some il] at hi
  rw [← Option.some.inj hi]
  exact up_sub (fun p hp => List.mem_append_left _ hp) (fwd_head hA hl pos (o.length - 1 - i) i (by omega))
theorem built_cut {o e lot : List Int} {fs : List (Int × Int)} (po : e.Perm o) (nd : o.Nodup) (hT : Tre e ts (o.length - 1)) (hl : ∀ x, x ∈ lot ↔ x ∈ o) {q : Int × Int} (hq : q ∈ ts) (sub : ∀ p ∈ fs, p ∈ ts ∧ p ≠ q) : hangB fs lot = false := by
  have ndE := po.nodup_iff.mpr nd
  have le := po.length_eq
  obtain ⟨i, j, a, b, c, d, _⟩ := tre_mem hT hq
  rw [Bool.eq_false_iff]
  intro z
  have e0 : it e 0 ∈ lot := (hl _).mpr (po.mem_iff.mp (it_mem (by omega)))
  refine cut_apart (lot := lot) ndE (by rw [le]; exact hT) (i0 := i) (by omega) (fun p hp => ⟨(sub p hp).1, fun y => (sub p hp).2 ?_⟩) ((hang_iff e0).mp z _ ((hl _).mpr (po.mem_iff.mp (it_mem b))))
  rw [d] at y
  exact Option.some.inj y
theorem built_nohead {o lot : List Int} {fs : List (Int × Int)} (nd : o.Nodup) (hA : Fwd o as (o.length - 1)) (hl : ∀ x, x ∈ lot ↔ x ∈ o) {q : Int × Int} (hq : q ∈ as) (sub : ∀ p ∈ fs, p.1 ∈ o → p.2 ∈ o → p ∈ as ∧ p ≠ q) : headsL fs lot = [] := by
  obtain ⟨i, hi⟩ := List.getElem?_of_mem hq
  have il := (List.getElem?_eq_some_iff.mp hi).1
  rw [hA.1] at il
  have no := fwd_less (fs := fs) nd hA hl il fun p hp h1 h2 => by
    obtain ⟨a, b⟩ := sub p hp ((hl _).mp h1) ((hl _).mp h2)
    exact ⟨a, fun y => b (by rw [hi] at y; exact Option.some.inj y)⟩
  unfold headsL
  rw [List.filter_eq_nil_iff]
  exact fun x hx z => no x hx (headB_iff.mp z)
end
end Tk

namespace Tk
open PySem PySem.Spec PyProof.Rows L2
/-- values of which repr is known: None, bools, ints, lists and tuples of data -/
def ReprOk (v : V) (d : PyData) : Prop := match v with
  | .non => True
  | .bl _ => True
  | .int i => i.natAbs.log2 < 1920
  | .ref _ => RepOk d
  | _ => False
section
variable {X : Cx}
def rRepV (K : PySem.W.Frag) : List V → Hp → VK → Prop := fun xs H Q => ∃ (v : V) (d : PyData), xs = [v] ∧ Dp K H v d ∧ ReprOk v d ∧ Q (.str d.shown) H
theorem call_reprV (hgd : X.A.guards = some []) (hu : X.A.units + 64 < cLine) : CallR X (.builtin "repr") (rRepV X.K) := by
  intro pins s σ H xs us Q I r h
  obtain ⟨v, d, rfl, hd, ok, q⟩ := h
  cases hd with
  | non =>
    cases r with
    | cons r1 r2 =>
      cases r2
      cases r1
      exact PySem.P.repr_of_none ⟨.str "None", H, I.tok _, ⟨_, rfl⟩, q⟩
  | bl b =>
    cases r with
    | cons r1 r2 =>
      cases r2
      cases r1
      exact PySem.P.repr_of_bool ⟨.str (if b then "True" else "False"), H, I.tok _, ⟨_, rfl⟩, q⟩
  | int i =>
    cases r with
    | cons r1 r2 =>
      cases r2
      obtain ⟨t, rfl⟩ := r1
      exact PySem.P.repr_of_int ok ⟨.str (toString i), H, I.tok _, ⟨_, rfl⟩, q⟩
  | str x => exact ok.elim
  | @lst a xs ds h1 h2 => exact call_reprD hgd hu pins s σ H _ us Q I r ⟨a, _, rfl, .lst h1 h2, ok.sh, ok.nd, ok.dp, ok.sz, q⟩
  | @tup a xs ds h1 h2 => exact call_reprD hgd hu pins s σ H _ us Q I r ⟨a, _, rfl, .tup h1 h2, ok.sh, ok.nd, ok.dp, ok.sz, q⟩
end
end Tk

namespace Tk
open PySem PySem.Spec PyProof.Rows L2
/-! ## sorted, of lists of pairs -/
def flatP (ps : List (Int × Int)) : List Int := ps.flatMap fun p => [p.1, p.2]
theorem flatP_cons (p : Int × Int) (ps : List (Int × Int)) : flatP (p :: ps) = p.1 :: p.2 :: flatP ps := rfl
theorem flatP_inj : ∀ {ps qs : List (Int × Int)}, flatP ps = flatP qs → ps = qs
  | [], [], _ => rfl
  | [], q :: qs, h => by rw [flatP_cons] at h; exact nomatch h
  | p :: ps, [], h => by rw [flatP_cons] at h; exact nomatch h
  | p :: ps, q :: qs, h => by
    rw [flatP_cons, flatP_cons] at h
    injection h with h1 h
    injection h with h2 h
    rw [flatP_inj h, Prod.ext h1 h2]
section
open PySem.W
theorem alike_dP (p q : Int × Int) : alike (dP p) (dP q) = true := by simp [dP, alike, alikeAll]
theorem alike_dPsA : ∀ ps qs : List (Int × Int), alikeAll (ps.map dP) (qs.map dP) = true
  | [], _ => by simp [alikeAll]
  | _ :: _, [] => by simp [alikeAll]
  | p :: ps, q :: qs => by
    show alikeAll (dP p :: ps.map dP) (dP q :: qs.map dP) = true
    simp only [alikeAll, alike_dP, alike_dPsA ps qs, Bool.and_self]
theorem eqv_dPq {p q : Int × Int} : PyData.eqv (dP p) (dP q) = decide (p = q) := by
  obtain ⟨u, v⟩ := p
  obtain ⟨x, y⟩ := q
  simp [dP, PyData.eqv, PyData.eqvAll]
  by_cases c1 : u = x <;> by_cases c2 : v = y <;> simp [c1, c2]
theorem rowLt_pairs : ∀ ps qs : List (Int × Int), rowLt (ps.map dP) (qs.map dP) = decide (flatP ps < flatP qs)
  | [], [] => by
    have e : rowLt [] [] = false := lex_irrefl _
    simpa [flatP] using e
  | [], q :: qs => by
    have e : rowLt [] (dP q :: qs.map dP) = true := by
      unfold rowLt
      rw [toks_all_cons]
      simp only [keyToksAll]
      rw [lex_diff (O := itemOrd) (by simp)]
      rfl
    simpa [flatP_cons, flatP] using e
  | p :: ps, [] => by
    have e : rowLt (dP p :: ps.map dP) [] = false := by
      unfold rowLt
      rw [toks_all_cons]
      simp only [keyToksAll]
      rw [lex_diff (O := itemOrd) (by simp)]
      rfl
    simpa [flatP_cons, flatP] using e
  | p :: ps, q :: qs => by
    have e : rowLt (dP p :: ps.map dP) (dP q :: qs.map dP) = if p = q then rowLt (ps.map dP) (qs.map dP) else decide (p.1 < q.1 ∨ (p.1 = q.1 ∧ p.2 < q.2)) := by
      unfold rowLt
      rw [dataLt_cons (alike_dP p q), eqv_dPq]
      have e2 : dataLt (dP p) (dP q) = decide (p.1 < q.1 ∨ (p.1 = q.1 ∧ p.2 < q.2)) := dataLt_ii p.1 p.2 q.1 q.2
      rw [e2]
      by_cases c : p = q <;> simp [c]
    show rowLt (dP p :: ps.map dP) (dP q :: qs.map dP) = _
    rw [e, flatP_cons, flatP_cons]
    by_cases h : p = q
    · rw [if_pos h, rowLt_pairs ps qs, h]
      simp [List.cons_lt_cons_iff]
    · rw [if_neg h]
      obtain ⟨u, v⟩ := p
      obtain ⟨x, y⟩ := q
      simp only [List.cons_lt_cons_iff]
      by_cases c1 : u = x
      · have c2 : v ≠ y := fun c => h (by rw [c1, c])
        simp [c1, c2]
      · simp [c1]
theorem dataLe_prs {β : Type} (x : β → List (Int × Int)) : dataLe false (fun b => .list ((x b).map dP)) = fun p q => decide (flatP (x p) ≤ flatP (x q)) := by
  funext p q
  show (!dataLt (.list ((x q).map dP)) (.list ((x p).map dP))) = _
  rw [dataLt_list]
  show (!rowLt ((x q).map dP) ((x p).map dP)) = _
  rw [rowLt_pairs]
  by_cases h : flatP (x q) < flatP (x p)
  · have h' : ¬ flatP (x p) ≤ flatP (x q) := fun r => List.not_lt.mpr r h
    simp [h, h']
  · have h' : flatP (x p) ≤ flatP (x q) := List.not_lt.mp h
    simp [h, h']
end
/-- two sorted lists of the same lists of pairs -/
theorem prs_one {gs hs : List (List (Int × Int))} (s1 : gs.Pairwise fun a b => flatP a ≤ flatP b) (s2 : hs.Pairwise fun a b => flatP a ≤ flatP b) (pm : gs.Perm hs) : gs = hs :=
  List.Perm.eq_of_pairwise (fun a b _ _ h1 h2 => flatP_inj (List.le_antisymm h1 h2)) s1 s2 pm
/-- a list of lists of pairs -/
def LsQ (K : PySem.W.Frag) (G : Hp) : List V → List (List (Int × Int)) → Prop
  | [], [] => True
  | x :: xs, o :: os => (∃ (r : Addr) (zs : List V), x = .ref r ∧ G r = some (.lst zs) ∧ DpAll K G zs (o.map dP)) ∧ LsQ K G xs os
  | _, _ => False
section
variable {K : PySem.W.Frag} {G G' : Hp}
theorem lq_s (e : Same G G') : ∀ {xs : List V} {os : List (List (Int × Int))}, LsQ K G xs os → LsQ K G' xs os
  | [], [], _ => trivial
  | x :: xs, o :: os, ⟨⟨r, zs, h1, h2, h3⟩, h4⟩ => ⟨⟨r, zs, h1, e _ _ h2, dps_s h3 e⟩, lq_s e h4⟩
  | [], _ :: _, h => h.elim
  | _ :: _, [], h => h.elim
theorem lq_app : ∀ {xs ys : List V} {os ps : List (List (Int × Int))}, LsQ K G xs os → LsQ K G ys ps → LsQ K G (xs ++ ys) (os ++ ps)
  | [], _, [], _, _, h => h
  | x :: xs, _, o :: os, _, ⟨h1, h2⟩, h => ⟨h1, lq_app h2 h⟩
  | [], _, _ :: _, _, h, _ => h.elim
  | _ :: _, _, [], _, h, _ => h.elim
theorem lq_len : ∀ {xs : List V} {os : List (List (Int × Int))}, LsQ K G xs os → xs.length = os.length
  | [], [], _ => rfl
  | x :: xs, o :: os, ⟨_, h⟩ => by simp [lq_len h]
  | [], _ :: _, h => h.elim
  | _ :: _, [], h => h.elim
theorem lq_at : ∀ {xs : List V} {os : List (List (Int × Int))}, LsQ K G xs os → ∀ {i : Nat} {x : V}, xs[i]? = some x → ∃ (o : List (Int × Int)) (r : Addr) (zs : List V), os[i]? = some o ∧ x = .ref r ∧ G r = some (.lst zs) ∧ DpAll K G zs (o.map dP)
  | [], [], _, _, _, h => by simp at h
  | x :: xs, o :: os, ⟨⟨r, zs, h1, h2, h3⟩, h4⟩, i, y, h => by
    cases i with
    | zero =>
      simp at h
      subst h
      exact ⟨o, r, zs, rfl, h1, h2, h3⟩
    | succ i => exact lq_at h4 (i := i) (by simpa using h)
  | [], _ :: _, h, _, _, _ => h.elim
  | _ :: _, [], h, _, _, _ => h.elim
abbrev dLs (ps : List (Int × Int)) : PyData := .list (ps.map dP)
theorem lq_dps : ∀ {xs : List V} {os : List (List (Int × Int))}, LsQ K G xs os → DpAll K G xs (os.map dLs)
  | [], [], _ => .nil
  | x :: xs, o :: os, ⟨⟨r, zs, h1, h2, h3⟩, h4⟩ => by
    rw [h1]
    exact .cons (.lst (sl_of h2) h3) (lq_dps h4)
  | [], _ :: _, h => h.elim
  | _ :: _, [], h => h.elim
theorem lq_zip : ∀ {xs : List V} {os : List (List (Int × Int))}, LsQ K G xs os → xs = (xs.zip os).map Prod.fst ∧ os = (xs.zip os).map Prod.snd ∧ ∀ b ∈ xs.zip os, ∃ (r : Addr) (zs : List V), b.1 = .ref r ∧ G r = some (.lst zs) ∧ DpAll K G zs (b.2.map dP)
  | [], [], _ => ⟨rfl, rfl, fun _ h => nomatch h⟩
  | x :: xs, o :: os, ⟨h1, h3⟩ => by
    obtain ⟨a, b, c⟩ := lq_zip h3
    refine ⟨by simp only [List.zip_cons_cons, List.map_cons]; rw [← a], by simp only [List.zip_cons_cons, List.map_cons]; rw [← b], fun z hz => ?_⟩
    simp only [List.zip_cons_cons] at hz
    rcases List.mem_cons.mp hz with e | e
    · rw [e]; exact h1
    · exact c z e
  | [], _ :: _, h => h.elim
  | _ :: _, [], h => h.elim
theorem lq_of : ∀ {bs : List (V × List (Int × Int))}, (∀ b ∈ bs, ∃ (r : Addr) (zs : List V), b.1 = .ref r ∧ G r = some (.lst zs) ∧ DpAll K G zs (b.2.map dP)) → LsQ K G (bs.map Prod.fst) (bs.map Prod.snd)
  | [], _ => trivial
  | b :: bs, h => ⟨h b (List.mem_cons_self ..), lq_of fun c hc => h c (List.mem_cons_of_mem _ hc)⟩
/-- what changes another list -/
theorem lq_mut {D : Addr} {u : HO} (keep : ∀ {zs : List V} {o : List (Int × Int)}, DpAll K G zs (o.map dP) → DpAll K (upd G D u) zs (o.map dP)) : ∀ {xs : List V} {os : List (List (Int × Int))}, LsQ K G xs os → (∀ x ∈ xs, x ≠ .ref D) → LsQ K (upd G D u) xs os
  | [], [], _, _ => trivial
  | x :: xs, o :: os, ⟨⟨r, zs, h1, h2, h3⟩, h4⟩, n => ⟨⟨r, zs, h1, by
      have : r ≠ D := fun e => n x (List.mem_cons_self ..) (by rw [h1, e])
      rw [upd_ne this]; exact h2, keep h3⟩, lq_mut keep h4 fun y hy => n y (List.mem_cons_of_mem _ hy)⟩
  | [], _ :: _, h, _ => h.elim
  | _ :: _, [], h, _ => h.elim
end
section
open PySem.W
variable {X : Cx}
def rSortedQ (K : PySem.W.Frag) : List V → Hp → VK → Prop := fun vs H Q => ∃ (a : Addr) (xs : List V) (os : List (List (Int × Int))), vs = [V.ref a] ∧ SqL K H a xs ∧ LsQ K H xs os ∧
  ∀ (ys : List V) (os' : List (List (Int × Int))) (p : Addr), os'.Perm os → (os'.Pairwise fun a b => flatP a ≤ flatP b) → LsQ K H ys os' → ys.Perm xs → H p = none → Q (.ref p) (upd H p (.lst ys))
theorem each_valsQ : ∀ {bs : List (V × List (Int × Int))} {us : List Value}, Vals (bs.map Prod.fst) us → EachIs (fun (v : Value) (b : V × List (Int × Int)) => RelV b.1 v) us bs
  | [], _, h => by cases h; exact .nil
  | b :: bs, _, h => by
    cases h with
    | cons h1 h2 => exact .cons h1 (each_valsQ h2)
theorem vals_eachQ : ∀ {bs : List (V × List (Int × Int))} {us : List Value}, EachIs (fun (v : Value) (b : V × List (Int × Int)) => RelV b.1 v) us bs → Vals (bs.map Prod.fst) us
  | _, _, .nil => .nil
  | _, _, .cons h1 h2 => .cons h1 (vals_eachQ h2)
theorem depth_dP (p : Int × Int) : PyData.depth (dP p) ≤ 1 := by simp [dP, PyData.depth, PyData.depthAll]
theorem depth_dPs : ∀ ps : List (Int × Int), PyData.depthAll (ps.map dP) ≤ 1
  | [] => by simp [PyData.depthAll]
  | p :: ps => by
    have h1 := depth_dP p
    have h2 := depth_dPs ps
    show PyData.depthAll (dP p :: ps.map dP) ≤ 1
    simp only [PyData.depthAll]
    omega
theorem cr_sortedQ (hu : X.A.units + 64 < cLine) : CallR X (.builtin "sorted") (rSortedQ X.K) := by
  intro pins s σ H vs us Q I r h
  obtain ⟨a, xs, os, rfl, hs, ls, q⟩ := h
  obtain ⟨its, rv, hl, hz⟩ := I.list hs
  rw [Vals.ref1 r]
  obtain ⟨e1, e2, e3⟩ := lq_zip ls
  generalize xs.zip os = bs at e1 e2 e3
  subst e1
  subst e2
  have each := each_valsQ rv
  have reads : EachIs (fun (v : Value) (b : V × List (Int × Int)) => ∃ as, Reads s.heap v (PyData.list (b.2.map dP)) as) its bs := by
    clear q hs ls hl hz r
    induction each with
    | nil => exact .nil
    | @cons v b vs' bs' h1 h2 ih =>
      refine .cons ?_ (ih (fun c hc => e3 c (List.mem_cons_of_mem _ hc)) (by cases rv with | cons _ r2 => exact r2))
      obtain ⟨r0, zs, er, hr, dz⟩ := e3 b (List.mem_cons_self ..)
      rw [er] at h1
      exact Dp.reads I _ (.ref r0) v (.lst (sl_of hr) dz) h1
  refine sorted_data (enc := fun b : V × List (Int × Int) => PyData.list (b.2.map dP)) (R := fun (v : Value) (b : V × List (Int × Int)) => RelV b.1 v) hl.isList each reads (AllAlike.of fun b b' => by simp only [alike]; exact alike_dPsA _ _) (Sortable.others fun b => ⟨by simp, by simp⟩) (by rw [List.length_map] at hz; exact hz) (fun b hb => ?_) fun out hlen ho => ?_
  · have : PyData.depth (PyData.list (b.2.map dP)) ≤ 2 := by
      rw [PyData.depth]
      have := depth_dPs b.2
      omega
    omega
  · rw [dataLe_prs (fun b : V × List (Int × Int) => b.2)] at ho
    obtain ⟨ep, he'⟩ := PyProof.Rows.sortedAll_at s.heap its out.toArray
    have vo := vals_eachQ ho
    generalize hbs : bs.mergeSort (fun p q => decide (flatP p.2 ≤ flatP q.2)) = bs' at ho vo
    have pm : bs'.Perm bs := by rw [← hbs]; exact List.mergeSort_perm ..
    have srt : bs'.Pairwise (fun p q => decide (flatP p.2 ≤ flatP q.2) = true) := by
      rw [← hbs]
      refine List.pairwise_mergeSort (fun a b c h1 h2 => ?_) (fun a b => ?_) bs
      · simp only [decide_eq_true_eq] at h1 h2 ⊢
        exact List.le_trans h1 h2
      · simp only [Bool.or_eq_true, decide_eq_true_eq]
        exact List.le_total _ _
    refine ⟨.ref _, upd H (s.heap.objs.size + 1) (.lst (bs'.map Prod.fst)), I.laid (t' := s.toks) (fun _ _ => PyProof.Rows.sortedAll_old) (Nat.le_succ _) ⟨by rw [List.length_map, pm.length_eq]; rw [List.length_map] at hz; exact hz, out, ep, vo, he'⟩, rfl, ?_⟩
    refine q _ (bs'.map Prod.snd) _ (pm.map _) ?_ (lq_of fun b hb => e3 b (pm.mem_iff.mp hb)) (pm.map _) (I.hok.fresh (Nat.le_succ _))
    rw [List.pairwise_map]
    exact srt.imp fun h => of_decide_eq_true h
end
end Tk

namespace Tk
open PySem PySem.Spec PyProof.Rows L2
/-! ## lists of roads -/
def dRd (q : List Int × List Int) : PyData := .tuple [.list (q.1.map .int), .list (q.2.map .int)]
/-- a list of tuples of two lists, each of these as P says -/
def RdsP (P : Addr → Prop) (G : Hp) : List V → List (List Int × List Int) → Prop
  | [], [] => True
  | x :: xs, q :: qs => (∃ t u d : Addr, x = .ref t ∧ G t = some (.tup [.ref u, .ref d]) ∧ G u = some (.lst (q.1.map V.int)) ∧ G d = some (.lst (q.2.map V.int)) ∧ P u ∧ P d) ∧ RdsP P G xs qs
  | _, _ => False
section
variable {K : PySem.W.Frag} {P P' : Addr → Prop} {G G' : Hp}
theorem rd_s (e : Same G G') : ∀ {xs : List V} {qs : List (List Int × List Int)}, RdsP P G xs qs → RdsP P G' xs qs
  | [], [], _ => trivial
  | x :: xs, q :: qs, ⟨⟨t, u, d, h1, h2, h3, h4, h5⟩, h⟩ => ⟨⟨t, u, d, h1, e _ _ h2, e _ _ h3, e _ _ h4, h5⟩, rd_s e h⟩
  | [], _ :: _, h => h.elim
  | _ :: _, [], h => h.elim
theorem rd_mono (m : ∀ z, P z → P' z) : ∀ {xs : List V} {qs : List (List Int × List Int)}, RdsP P G xs qs → RdsP P' G xs qs
  | [], [], _ => trivial
  | x :: xs, q :: qs, ⟨⟨t, u, d, h1, h2, h3, h4, h5, h6⟩, h⟩ => ⟨⟨t, u, d, h1, h2, h3, h4, m _ h5, m _ h6⟩, rd_mono m h⟩
  | [], _ :: _, h => h.elim
  | _ :: _, [], h => h.elim
theorem rd_mut {D : Addr} {o o' : List V} (hD : G D = some (.lst o)) (m : ∀ z, P z → z ≠ D) : ∀ {xs : List V} {qs : List (List Int × List Int)}, RdsP P G xs qs → RdsP P (upd G D (.lst o')) xs qs
  | [], [], _ => trivial
  | x :: xs, q :: qs, ⟨⟨t, u, d, h1, h2, h3, h4, h5, h6⟩, h⟩ => ⟨⟨t, u, d, h1, by rw [upd_ne (fun e => by rw [e, hD] at h2; cases h2)]; exact h2, by rw [upd_ne (m _ h5)]; exact h3, by rw [upd_ne (m _ h6)]; exact h4, h5, h6⟩, rd_mut hD m h⟩
  | [], _ :: _, h => h.elim
  | _ :: _, [], h => h.elim
theorem rd_app : ∀ {xs ys : List V} {qs rs : List (List Int × List Int)}, RdsP P G xs qs → RdsP P G ys rs → RdsP P G (xs ++ ys) (qs ++ rs)
  | [], _, [], _, _, h => h
  | x :: xs, _, q :: qs, _, ⟨h1, h2⟩, h => ⟨h1, rd_app h2 h⟩
  | [], _, _ :: _, _, h, _ => h.elim
  | _ :: _, _, [], _, h, _ => h.elim
theorem rd_len : ∀ {xs : List V} {qs : List (List Int × List Int)}, RdsP P G xs qs → xs.length = qs.length
  | [], [], _ => rfl
  | x :: xs, q :: qs, ⟨_, h⟩ => by simp [rd_len h]
  | [], _ :: _, h => h.elim
  | _ :: _, [], h => h.elim
theorem rd_at : ∀ {xs : List V} {qs : List (List Int × List Int)}, RdsP P G xs qs → ∀ {i : Nat} {x : V}, xs[i]? = some x →
    ∃ (q : List Int × List Int) (t u d : Addr), qs[i]? = some q ∧ x = .ref t ∧ G t = some (.tup [.ref u, .ref d]) ∧ G u = some (.lst (q.1.map V.int)) ∧ G d = some (.lst (q.2.map V.int)) ∧ P u ∧ P d
  | [], [], _, _, _, h => by simp at h
  | x :: xs, q :: qs, ⟨⟨t, u, d, h1, h2, h3, h4, h5, h6⟩, h7⟩, i, y, h => by
    cases i with
    | zero =>
      simp at h
      subst h
      exact ⟨q, t, u, d, rfl, h1, h2, h3, h4, h5, h6⟩
    | succ i => exact rd_at h7 (i := i) (by simpa using h)
  | [], _ :: _, h, _, _, _ => h.elim
  | _ :: _, [], h, _, _, _ => h.elim
theorem rd_dps : ∀ {xs : List V} {qs : List (List Int × List Int)}, RdsP P G xs qs → DpAll K G xs (qs.map dRd)
  | [], [], _ => .nil
  | x :: xs, q :: qs, ⟨⟨t, u, d, h1, h2, h3, h4, _⟩, h⟩ => by
    rw [h1]
    exact .cons (.tup (st_of h2) (.cons (.lst (sl_of h3) (dps_ints _)) (.cons (.lst (sl_of h4) (dps_ints _)) .nil))) (rd_dps h)
  | [], _ :: _, h => h.elim
  | _ :: _, [], h => h.elim
theorem rd_zip : ∀ {xs : List V} {qs : List (List Int × List Int)}, RdsP P G xs qs → xs = (xs.zip qs).map Prod.fst ∧ qs = (xs.zip qs).map Prod.snd ∧
    ∀ b ∈ xs.zip qs, ∃ t u d : Addr, b.1 = .ref t ∧ G t = some (.tup [.ref u, .ref d]) ∧ G u = some (.lst (b.2.1.map V.int)) ∧ G d = some (.lst (b.2.2.map V.int)) ∧ P u ∧ P d
  | [], [], _ => ⟨rfl, rfl, fun _ h => nomatch h⟩
  | x :: xs, q :: qs, ⟨h1, h3⟩ => by
    obtain ⟨a, b, c⟩ := rd_zip h3
    refine ⟨by simp only [List.zip_cons_cons, List.map_cons]; rw [← a], by simp only [List.zip_cons_cons, List.map_cons]; rw [← b], fun z hz => ?_⟩
    simp only [List.zip_cons_cons] at hz
    rcases List.mem_cons.mp hz with e | e
    · rw [e]; exact h1
    · exact c z e
  | [], _ :: _, h => h.elim
  | _ :: _, [], h => h.elim
theorem rd_of : ∀ {bs : List (V × (List Int × List Int))}, (∀ b ∈ bs, ∃ t u d : Addr, b.1 = .ref t ∧ G t = some (.tup [.ref u, .ref d]) ∧ G u = some (.lst (b.2.1.map V.int)) ∧ G d = some (.lst (b.2.2.map V.int)) ∧ P u ∧ P d) → RdsP P G (bs.map Prod.fst) (bs.map Prod.snd)
  | [], _ => trivial
  | b :: bs, h => ⟨h b (List.mem_cons_self ..), rd_of fun c hc => h c (List.mem_cons_of_mem _ hc)⟩
end
/-! ## sorted, of a list of roads -/
def rdLe (p q : List Int × List Int) : Prop := p.1 < q.1 ∨ (p.1 = q.1 ∧ p.2 ≤ q.2)
instance rdLe_dec (p q : List Int × List Int) : Decidable (rdLe p q) := by unfold rdLe; infer_instance
theorem rdLe_anti {p q : List Int × List Int} (h1 : rdLe p q) (h2 : rdLe q p) : p = q := by
  rcases h1 with h1 | ⟨e1, l1⟩
  · rcases h2 with h2 | ⟨e2, _⟩
    · exact absurd (List.lt_trans h1 h2) (List.lt_irrefl _)
    · rw [e2] at h1; exact absurd h1 (List.lt_irrefl _)
  · rcases h2 with h2 | ⟨_, l2⟩
    · rw [e1] at h2; exact absurd h2 (List.lt_irrefl _)
    · exact Prod.ext e1 (List.le_antisymm l1 l2)
theorem rd_one {gs hs : List (List Int × List Int)} (s1 : gs.Pairwise rdLe) (s2 : hs.Pairwise rdLe) (pm : gs.Perm hs) : gs = hs :=
  List.Perm.eq_of_pairwise (fun a b _ _ h1 h2 => rdLe_anti h1 h2) s1 s2 pm
theorem eqv_li {l m : List Int} : PyData.eqv (.list (l.map .int)) (.list (m.map .int)) = decide (l = m) := by
  have key : ∀ l m : List Int, PyData.eqvAll (l.map .int) (m.map .int) = decide (l = m) := by
    intro l
    induction l with
    | nil => intro m; cases m <;> simp [PyData.eqvAll]
    | cons x l ih =>
      intro m
      cases m with
      | nil => simp [PyData.eqvAll]
      | cons y m =>
        simp only [List.map_cons, PyData.eqvAll, PyData.eqv, ih]
        by_cases c : x = y <;> by_cases c2 : l = m <;> simp [c, c2]
  simp only [PyData.eqv]
  exact key l m
section
open PySem.W
variable {X : Cx}
theorem alike_rd (p q : List Int × List Int) : alike (dRd p) (dRd q) = true := by
  have h : ∀ l m : List Int, alike (.list (l.map .int)) (.list (m.map .int)) = true := fun l m => by
    simp only [alike]
    exact alike_ints l m
  have a1 := h p.1 q.1
  have a2 := h p.2 q.2
  simp only [dRd, alike, alikeAll] at *
  simp [a1, a2]
theorem dataLt_li (l m : List Int) : dataLt (.list (l.map .int)) (.list (m.map .int)) = decide (l < m) := by
  rw [dataLt_list]
  exact dataLt_ints l m
theorem dataLt_rd (p q : List Int × List Int) : dataLt (dRd p) (dRd q) = decide (p.1 < q.1 ∨ (p.1 = q.1 ∧ p.2 < q.2)) := by
  have h : ∀ l m : List Int, alike (.list (l.map .int)) (.list (m.map .int)) = true := fun l m => by
    simp only [alike]
    exact alike_ints l m
  unfold dRd
  rw [dataLt_pair (h _ _) (h _ _), eqv_li, eqv_li, dataLt_li, dataLt_li]
  by_cases c : p.1 = q.1
  · by_cases c2 : p.2 = q.2
    · simp [c, c2, List.lt_irrefl]
    · simp [c, c2, List.lt_irrefl]
  · simp [c]
theorem dataLe_rd {β : Type} (x : β → List Int × List Int) : dataLe false (fun b => dRd (x b)) = fun p q => decide (rdLe (x p) (x q)) := by
  funext p q
  show (!dataLt (dRd (x q)) (dRd (x p))) = _
  rw [dataLt_rd]
  unfold rdLe
  by_cases h : (x q).1 < (x p).1
  · have h1 : ¬ (x p).1 < (x q).1 := fun r => List.lt_irrefl _ (List.lt_trans h r)
    have h2 : ¬ (x p).1 = (x q).1 := fun e => by rw [e] at h; exact List.lt_irrefl _ h
    simp [h, h1, h2]
  · have h' : (x p).1 ≤ (x q).1 := List.not_lt.mp h
    by_cases e : (x p).1 = (x q).1
    · by_cases h3 : (x q).2 < (x p).2
      · have h4 : ¬ (x p).2 ≤ (x q).2 := fun r => List.not_lt.mpr r h3
        simp [e, h3, h4, List.lt_irrefl]
      · have h4 : (x p).2 ≤ (x q).2 := List.not_lt.mp h3
        simp [e, h3, h4, List.lt_irrefl]
    · have h5 : (x p).1 < (x q).1 := Classical.byContradiction fun c => e (List.le_antisymm h' (List.not_lt.mp c))
      have e' : ¬ (x q).1 = (x p).1 := fun z => e z.symm
      simp [h, h5, e']
theorem depth_li (l : List Int) : PyData.depth (.list (l.map .int)) ≤ 1 := by
  have : PyData.depthAll (l.map .int) = 0 := by
    induction l with
    | nil => simp [PyData.depthAll]
    | cons x l ih => simp [PyData.depthAll, PyData.depth, ih]
  rw [PyData.depth, this]
  exact Nat.le_refl _
theorem depth_rd (q : List Int × List Int) : PyData.depth (dRd q) ≤ 2 := by
  have h1 := depth_li q.1
  have h2 := depth_li q.2
  unfold dRd
  rw [PyData.depth]
  simp only [PyData.depthAll]
  omega
def rSortedRd (K : PySem.W.Frag) : List V → Hp → VK → Prop := fun vs H Q => ∃ (a : Addr) (xs : List V) (qs : List (List Int × List Int)) (P : Addr → Prop), vs = [V.ref a] ∧ SqL K H a xs ∧ RdsP P H xs qs ∧
  ∀ (ys : List V) (qs' : List (List Int × List Int)) (p : Addr), qs'.Perm qs → qs'.Pairwise rdLe → RdsP P H ys qs' → H p = none → Q (.ref p) (upd H p (.lst ys))
theorem each_valsR : ∀ {bs : List (V × (List Int × List Int))} {us : List Value}, Vals (bs.map Prod.fst) us → EachIs (fun (v : Value) (b : V × (List Int × List Int)) => RelV b.1 v) us bs
  | [], _, h => by cases h; exact .nil
  | b :: bs, _, h => by
    cases h with
    | cons h1 h2 => exact .cons h1 (each_valsR h2)
theorem vals_eachR : ∀ {bs : List (V × (List Int × List Int))} {us : List Value}, EachIs (fun (v : Value) (b : V × (List Int × List Int)) => RelV b.1 v) us bs → Vals (bs.map Prod.fst) us
  | _, _, .nil => .nil
  | _, _, .cons h1 h2 => .cons h1 (vals_eachR h2)
theorem rdLe_trans {a b c : List Int × List Int} (h1 : rdLe a b) (h2 : rdLe b c) : rdLe a c := by
  rcases h1 with h1 | ⟨e1, l1⟩
  · rcases h2 with h2 | ⟨e2, _⟩
    · exact .inl (List.lt_trans h1 h2)
    · rw [e2] at h1; exact .inl h1
  · rcases h2 with h2 | ⟨e2, l2⟩
    · rw [← e1] at h2; exact .inl h2
    · exact .inr ⟨e1.trans e2, List.le_trans l1 l2⟩
theorem rdLe_total (a b : List Int × List Int) : rdLe a b ∨ rdLe b a := by
  rcases List.le_total a.1 b.1 with h | h
  · by_cases e : a.1 = b.1
    · rcases List.le_total a.2 b.2 with k | k
      · exact .inl (.inr ⟨e, k⟩)
      · exact .inr (.inr ⟨e.symm, k⟩)
    · exact .inl (.inl (Classical.byContradiction fun c => e (List.le_antisymm h (List.not_lt.mp c))))
  · by_cases e : a.1 = b.1
    · rcases List.le_total a.2 b.2 with k | k
      · exact .inl (.inr ⟨e, k⟩)
      · exact .inr (.inr ⟨e.symm, k⟩)
    · exact .inr (.inl (Classical.byContradiction fun c => e (List.le_antisymm (List.not_lt.mp c) h)))
theorem cr_sortedRd (hu : X.A.units + 64 < cLine) : CallR X (.builtin "sorted") (rSortedRd X.K) := by
  intro pins s σ H vs us Q I r h
  obtain ⟨a, xs, qs, P, rfl, hs, ls, q⟩ := h
  obtain ⟨its, rv, hl, hz⟩ := I.list hs
  rw [Vals.ref1 r]
  obtain ⟨e1, e2, e3⟩ := rd_zip ls
  generalize xs.zip qs = bs at e1 e2 e3
  subst e1
  subst e2
  have each := each_valsR rv
  have reads : EachIs (fun (v : Value) (b : V × (List Int × List Int)) => ∃ as, Reads s.heap v (dRd b.2) as) its bs := by
    clear q hs ls hl hz r
    induction each with
    | nil => exact .nil
    | @cons v b vs' bs' h1 h2 ih =>
      refine .cons ?_ (ih (fun c hc => e3 c (List.mem_cons_of_mem _ hc)) (by cases rv with | cons _ r2 => exact r2))
      obtain ⟨t, u, d, er, ht, hu', hd, _⟩ := e3 b (List.mem_cons_self ..)
      rw [er] at h1
      exact Dp.reads I _ (.ref t) v (.tup (st_of ht) (.cons (.lst (sl_of hu') (dps_ints _)) (.cons (.lst (sl_of hd) (dps_ints _)) .nil))) h1
  refine sorted_data (enc := fun b : V × (List Int × List Int) => dRd b.2) (R := fun (v : Value) (b : V × (List Int × List Int)) => RelV b.1 v) hl.isList each reads (AllAlike.of fun b b' => alike_rd _ _) (Sortable.tuples fun b => ⟨_, _, rfl⟩) (by rw [List.length_map] at hz; exact hz) (fun b hb => ?_) fun out hlen ho => ?_
  · have := depth_rd b.2
    omega
  · rw [dataLe_rd (fun b : V × (List Int × List Int) => b.2)] at ho
    obtain ⟨ep, he'⟩ := PyProof.Rows.sortedAll_at s.heap its out.toArray
    have vo := vals_eachR ho
    generalize hbs : bs.mergeSort (fun p q => decide (rdLe p.2 q.2)) = bs' at ho vo
    have pm : bs'.Perm bs := by rw [← hbs]; exact List.mergeSort_perm ..
    have srt : bs'.Pairwise (fun p q => decide (rdLe p.2 q.2) = true) := by
      rw [← hbs]
      refine List.pairwise_mergeSort (fun a b c h1 h2 => ?_) (fun a b => ?_) bs
      · simp only [decide_eq_true_eq] at h1 h2 ⊢
        exact rdLe_trans h1 h2
      · simp only [Bool.or_eq_true, decide_eq_true_eq]
        exact rdLe_total _ _
    refine ⟨.ref _, upd H (s.heap.objs.size + 1) (.lst (bs'.map Prod.fst)), I.laid (t' := s.toks) (fun _ _ => PyProof.Rows.sortedAll_old) (Nat.le_succ _) ⟨by rw [List.length_map, pm.length_eq]; rw [List.length_map] at hz; exact hz, out, ep, vo, he'⟩, rfl, ?_⟩
    refine q _ (bs'.map Prod.snd) _ (pm.map _) ?_ (rd_of fun b hb => e3 b (pm.mem_iff.mp hb)) (I.hok.fresh (Nat.le_succ _))
    rw [List.pairwise_map]
    exact srt.imp fun h => of_decide_eq_true h
end
theorem eqv_rd_self : ∀ qs : List (List Int × List Int), PyData.eqv (.list (qs.map dRd)) (.list (qs.map dRd)) = true := by
  intro qs
  have h1 : ∀ q, PyData.eqv (dRd q) (dRd q) = true := fun q => by
    have a1 : PyData.eqv (.list (q.1.map .int)) (.list (q.1.map .int)) = true := by rw [eqv_li]; simp
    have a2 : PyData.eqv (.list (q.2.map .int)) (.list (q.2.map .int)) = true := by rw [eqv_li]; simp
    show PyData.eqv (.tuple [.list (q.1.map .int), .list (q.2.map .int)]) (.tuple [.list (q.1.map .int), .list (q.2.map .int)]) = true
    rw [PyData.eqv, PyData.eqvAll, PyData.eqvAll, a1, a2, PyData.eqvAll]
    rfl
  have key : ∀ qs : List (List Int × List Int), PyData.eqvAll (qs.map dRd) (qs.map dRd) = true := by
    intro qs
    induction qs with
    | nil => simp [PyData.eqvAll]
    | cons q qs ih => rw [List.map_cons, PyData.eqvAll, h1, ih]; rfl
  rw [PyData.eqv]
  exact key qs
theorem lay_li (l : List Int) : PyData.canLay0 (.list (l.map .int)) = true := by
  rw [PyData.canLay0]
  induction l with
  | nil => rfl
  | cons x l ih =>
    show (PyData.canLay0 (.int x) && PyData.canLayAll0 (l.map .int)) = true
    rw [ih]; rfl
theorem shaped_rds (qs : List (List Int × List Int)) : SeqAt.shaped (.list (qs.map dRd)) = true := by
  unfold SeqAt.shaped
  rw [Bool.and_eq_true_iff]
  constructor
  · rw [PyData.canLay0]
    induction qs with
    | nil => rfl
    | cons q qs ih =>
      show (PyData.canLay0 (dRd q) && PyData.canLayAll0 (qs.map dRd)) = true
      rw [ih]
      show (PyData.canLayAll0 [.list (q.1.map .int), .list (q.2.map .int)] && true) = true
      show ((PyData.canLay0 (.list (q.1.map .int)) && (PyData.canLay0 (.list (q.2.map .int)) && true)) && true) = true
      rw [lay_li, lay_li]
      rfl
  · refine decide_eq_true ?_
    have h : PyData.depthAll (qs.map dRd) ≤ 2 := by
      induction qs with
      | nil => simp [PyData.depthAll]
      | cons q qs ih =>
        have := depth_rd q
        simp only [List.map_cons, PyData.depthAll]
        omega
    rw [PyData.depth]
    omega
/-! ## two clauses over lists -/
theorem in_list {K : PySem.W.Frag} {a : Addr} {xs : List V} {g1 : TG} {tt1 : TT} {te : TE} {vs1 : List Nat} {σ2 : L2.St} {H4 : Hp} {D : Addr} {Nx : Hp → Prop} (Pv : Nat → Hp → Prop) (h0 : Pv 0 H4) (hl : ∀ j H, j ≤ xs.length → Pv j H → SqL K H a xs)
    (hs : ∀ j x H, xs[j]? = some x → Pv j H → g1 x (wipe σ2 vs1) H fun σ3 H5 => wipe σ3 vs1 = wipe σ2 vs1 ∧ tt1 σ3 H5 fun b H6 =>
      if b = true then te σ3 H6 fun y H7 => ∃ acc, H7 D = some (.lst acc) ∧ acc.length < sizeLine ∧ Pv (j + 1) (upd H7 D (.lst (acc ++ [y]))) else Pv (j + 1) H6) (hd : ∀ H, Pv xs.length H → Nx H) :
    ∃ W1 : Nat → Nat → Hp → Prop, (∃ m, W1 0 m H4) ∧ ∀ j k H, W1 j k H →
      ((Itl K a).stop j H ∧ Nx H) ∨ ((Itl K a).go j H ∧ ∃ Nx1 : Hp → Prop, (∀ H', Nx1 H' → ∃ k', k' < k ∧ W1 (j + 1) k' H') ∧ ∀ x H', (Itl K a).yld j H x H' → g1 x (wipe σ2 vs1) H' fun σ3 H5 => wipe σ3 vs1 = wipe σ2 vs1 ∧ tt1 σ3 H5 fun b H6 =>
        if b = true then te σ3 H6 fun y H7 => ∃ acc, H7 D = some (.lst acc) ∧ acc.length < sizeLine ∧ Nx1 (upd H7 D (.lst (acc ++ [y]))) else Nx1 H6) := by
  refine ⟨fun i m H => m = xs.length - i ∧ i ≤ xs.length ∧ Pv i H, ⟨xs.length, by simp, Nat.zero_le _, h0⟩, ?_⟩
  rintro i m H ⟨rfl, hi, p⟩
  have q := hl i H hi p
  by_cases hlt : i < xs.length
  · refine .inr ⟨⟨xs, xs[i], q, by simp [hlt]⟩, Pv (i + 1), fun H' p' => ⟨xs.length - (i + 1), by omega, rfl, hlt, p'⟩, fun x H' y => ?_⟩
    obtain ⟨e, y⟩ := y
    subst e
    exact hs i x _ (y xs q) p
  · have e : i = xs.length := by omega
    subst e
    exact .inl ⟨⟨xs, q, Nat.le_refl _⟩, hd H p⟩
theorem out_list {K : PySem.W.Frag} {a : Addr} {xs : List V} {S : Hp} {Qd : Hp → Prop} (F : V → Hp → (Hp → Prop) → Prop) (Pv : Nat → Hp → Prop) (h0 : Pv 0 S) (hl : ∀ j H, j ≤ xs.length → Pv j H → SqL K H a xs) (hs : ∀ i x H, xs[i]? = some x → Pv i H → F x H (Pv (i + 1))) (hd : ∀ H, Pv xs.length H → Qd H) :
    ∃ W : Nat → Nat → Hp → Prop, (∃ m, W 0 m S) ∧ ∀ i m H, W i m H →
      ((Itl K a).stop i H ∧ Qd H) ∨ ((Itl K a).go i H ∧ ∃ Nx : Hp → Prop, (∀ H', Nx H' → ∃ m', m' < m ∧ W (i + 1) m' H') ∧ ∀ x H', (Itl K a).yld i H x H' → F x H' Nx) := by
  refine ⟨fun i m H => m = xs.length - i ∧ i ≤ xs.length ∧ Pv i H, ⟨xs.length, by simp, Nat.zero_le _, h0⟩, ?_⟩
  rintro i m H ⟨rfl, hi, p⟩
  have q := hl i H hi p
  by_cases hlt : i < xs.length
  · refine .inr ⟨⟨xs, xs[i], q, by simp [hlt]⟩, Pv (i + 1), fun H' p' => ⟨xs.length - (i + 1), by omega, rfl, hlt, p'⟩, fun x H' y => ?_⟩
    obtain ⟨e, y⟩ := y
    subst e
    exact hs i x _ (y xs q) p
  · have e : i = xs.length := by omega
    subst e
    exact .inl ⟨⟨xs, q, Nat.le_refl _⟩, hd H p⟩
end Tk

namespace Tk
open PySem PySem.Spec PyProof.Rows L2
abbrev sOneRt : Stmt := top 27
def OneC (K : PySem.W.Frag) (C f : Addr) (nm : Str) : Prop := PySem.W.findIn K (.ref C) nm = some (some (.ref f)) ∧ PySem.W.isFn K (.ref f) = true
/-- what one_right calls -/
structure CallsRt (P : Program) (w : World) (K : PySem.W.Frag) (mg : Str → Option Value) (base : Heap) (C : Addr) : Prop where
  make : ∃ fI dI, RtM K mg C fI dI ∧ FnOk P w K mg base CX0 2 fI dI ["self", "top", "bottom"] (spRInit C) ∧ KBn K dI ["self", "top", "bottom"] 1 ["top", "bottom"] (fun us ws => us ++ ws) (fun vs zs => vs ++ zs)
  pair : ∃ f fd, Df K mg "_law_pair" sRtPair ["_law_value"] f fd ∧ FnOk P w K mg base CX0 3 f fd ["_law_value"] (spPairR K C)
  low : ∃ f fd, Df K mg "_law_low" sLowR ["_law_top", "_law_bottom"] f fd ∧ FnOk P w K mg base CX0 1 f fd ["_law_top", "_law_bottom"] (spLowR K)
  shown : ∃ f fd, Df K mg "_law_shown" sShownR ["_law_pair_here"] f fd ∧ FnOk P w K mg base CX0 1 f fd ["_law_pair_here"] (spShownR K)
  sign : ∃ p g fd, PropOf K C "sign" p g ∧ FnOk P w K mg base CX0 1 g fd ["self"] (spSign C) ∧ Binds K fd ["self"] []
  whole : ∃ p g fd, PropOf K C "is_whole" p g ∧ FnOk P w K mg base CX0 1 g fd ["self"] (spWhole C) ∧ Binds K fd ["self"] []
  size : ∃ f fd, Meth K C "size" f ∧ FnOk P w K mg base CX0 4 f fd ["self"] (spSize C) ∧ Binds K fd ["self"] []
  neg : ∃ f fd, OneC K C f "__neg__" ∧ FnOk P w K mg base CX0 4 f fd ["self"] (spNeg C) ∧ Binds K fd ["self"] []
  rsub : ∃ f fd, NeO.BinR K C f "sub" ∧ FnOk P w K mg base CX0 6 f fd ["self", "other"] (spRev C subQ) ∧ Binds K fd ["self", "other"] []
  num : ∃ f fd, Df K mg "is_number" sIsNum ["value"] f fd ∧ FnOk P w K mg base CX0 2 f fd ["value"] (spIsNumR C) ∧ FnOk P w K mg base CX0 2 f fd ["value"] (spIsNumV K C)
  int : ∃ f fd, Df K mg "is_integer" sIsInt ["value"] f fd ∧ FnOk P w K mg base CX0 1 f fd ["value"] (spNoInt C) ∧ FnOk P w K mg base CX0 1 f fd ["value"] (spIsInt K)
  cnt : ∃ f fd, Df K mg "is_count" sIsCnt ["value"] f fd ∧ FnOk P w K mg base CX0 2 f fd ["value"] (spNoInt C) ∧ FnOk P w K mg base CX0 2 f fd ["value"] (spIsCnt K)
  str : ∃ f fd, OneC K C f "__str__" ∧ FnOk P w K mg base CX0 1 f fd ["self"] (spRShow C shQ) ∧ Binds K fd ["self"] []
  repr : ∃ f fd, OneC K C f "__repr__" ∧ FnOk P w K mg base CX0 1 f fd ["self"] (spRShow C rpQ) ∧ Binds K fd ["self"] []
  ms : mg "str" = none
theorem te_eqR {t : TE} {σ : L2.St} {H : Hp} {Q : VK} (x : V) (h : ∀ Q' : VK, Q' x H → t σ H Q') (hq : Q x H) : t σ H Q := h Q hq
/-- a Ratio made of two ints -/
theorem mk_ratio {C : Addr} {G : Hp} {x dx' : Addr} {t b : Int} {R : VK} {E : XK} (b0 : b ≠ 0) (bl : b.natAbs.log2 < 9000) (nx : G x = none) (ndx : G dx' = none) (q : ∀ G' : Hp, Same G G' → RatAt C G' x (lowQ t b) → R .non G') :
    spRInit C [.ref x, .int t, .int b] (upd (upd G dx' (.own x)) x (.ins C dx' [])) R E := by
  have sm : Same G (upd (upd G dx' (.own x)) x (.ins C dx' [])) := fun b o e => by
    rw [upd_ne (ne_of_none e nx), upd_ne (ne_of_none e ndx)]
    exact e
  exact ⟨x, dx', t, b, rfl, upd_same, b0, bl, fun G' keep h => q G' (fun b o e => keep b o (ne_of_none e nx) (sm b o e)) h⟩
def spOneRt (K : PySem.W.Frag) : Sp := fun vs H Q _ => ∃ (p : Addr) (x : Int × Int), vs = [.ref p] ∧ PairAt K H p x ∧ RawOk x ∧ ∀ H', Same H H' → Q (.bl true) H'
section
variable {P : Program} {w : World} {K : PySem.W.Frag} {mg : Str → Option Value} {base : Heap}
abbrev nOneRt : List Str := ["_law_raw_here", "_law_made", "_law_pair_here", "_law_sign"]
theorem sc_oneRt : FnScope nOneRt ["_law_raw_here"] (defScope sOneRt) := ⟨rfl, rfl, rfl, by decide +kernel, rfl, by decide +kernel, by decide +kernel⟩
theorem ok_oneRt {f C : Addr} {fd : FuncData} (F : Fun K "_law_one_right" "_law_one_right" sOneRt f fd) (Z : CallsRt P w K mg base C) (B : Bl mg) : FnG P w K mg base 7 f fd ["_law_raw_here"] (spOneRt K) := by
  obtain ⟨fI, dI, M, GI, kI⟩ := Z.make
  obtain ⟨fP, dP', DP, GP⟩ := Z.pair
  obtain ⟨fL, dL, DL, GL⟩ := Z.low
  obtain ⟨fH, dH, DH, GH⟩ := Z.shown
  obtain ⟨pS, gS, dS, PS, GS, bS⟩ := Z.sign
  obtain ⟨pW, gW, dW, PW', GW, bW⟩ := Z.whole
  obtain ⟨fZ, dZ, mZ, GZ, bZ⟩ := Z.size
  obtain ⟨fN, dN, ⟨n1, n2⟩, GN, bN⟩ := Z.neg
  obtain ⟨fR, dR', R1, GR, bR⟩ := Z.rsub
  obtain ⟨f1, d1, D1, G1, _⟩ := Z.num
  obtain ⟨f2, d2, D2, G2, _⟩ := Z.int
  obtain ⟨f3, d3, D3, G3, _⟩ := Z.cnt
  obtain ⟨f4, d4, ⟨t1, t2⟩, G4, b4⟩ := Z.str
  obtain ⟨f5, d5, ⟨r1, r2⟩, G5, b5⟩ := Z.repr
  refine okG F sc_oneRt (fun vs H Q E h => ?_) (fun cdv A outer s H vs Q E hgd hr h => ?_)
  · obtain ⟨p, x, rfl, _⟩ := h
    rfl
  · obtain ⟨p, x, rfl, hp, rw', q⟩ := h
    have h1 : Room 1 _ := hr.mono (by decide)
    have h2 : Room 2 _ := hr.mono (by decide)
    have h3 : Room 3 _ := hr.mono (by decide)
    have h4 : Room 4 _ := hr.mono (by decide)
    have h6 : Room 6 _ := hr.mono (by decide)
    refine ⟨_, pss_cons (ps_par (i := 1) (j := 2) rfl sc_oneRt.nd rfl rfl (by decide) rfl rfl (pa_cons (pe_make M.mkr GI h3 rfl M.c.mgC M.bI .nil pass0 (pa_cons (pe_ix ix_tup (pv 0) pe_int (fun _ _ => rfl)) (pa_cons (pe_ix ix_tup (pv 0) pe_int (fun _ _ => rfl)) pa_nil)))
          (pa_cons (pe_call GL h1 rfl DL.g DL.F.kp DL.b .nil pass0 (pa_cons (pe_ix ix_tup (pv 0) pe_int (fun _ _ => rfl)) (pa_cons (pe_ix ix_tup (pv 0) pe_int (fun _ _ => rfl)) pa_nil))) pa_nil)) (by rfl))
      (pss_cons (ps_if (PW.pt (pw_or (pt_cmpR (op_neD hr.units) (pe_call GP h3 rfl DP.g DP.F.kp DP.b .nil pass0 (pa_cons (pv 1) pa_nil)) (pv 2) (nomark _))
          (pw_or1 (pt_cmpR op_ne (pe_callTy (NeO.call_strI t1 t2 G4 h3 b4) (by rfl) Z.ms PySem.Pv.boot_str (pa_cons (pv 1) pa_nil)) (pe_call GH h1 rfl DH.g DH.F.kp DH.b .nil pass0 (pa_cons (pv 2) pa_nil)) (nomark _))))) (pss_one (ps_ret pe_bl)) pss_nil)
      (pss_cons (ps_if (pt_cmpR op_ne (pe_callB (NeO.call_reprI r1 r2 G5 h2 b5) (by rfl) B.repr PyProof.Rows.boot_repr (pa_cons (pv 1) pa_nil))
          (pe_op op_add_str (pe_op op_add_str (pe_op op_add_str (pe_op op_add_str pe_str (pe_callTy call_str_int (by rfl) Z.ms PySem.Pv.boot_str (pa_cons (pe_ix ix_tup (pv 2) pe_int (fun _ _ => rfl)) pa_nil))) pe_str) (pe_callTy call_str_int (by rfl) Z.ms PySem.Pv.boot_str (pa_cons (pe_ix ix_tup (pv 2) pe_int (fun _ _ => rfl)) pa_nil))) pe_str) (nomark _)) (pss_one (ps_ret pe_bl)) pss_nil)
      (pss_cons (ps_set (i := 3) sc_oneRt.nd rfl (Or.inl rfl) (pe_ifExp (pt_cmpR op_eq (pe_ix ix_tup (pv 2) pe_int (fun _ _ => rfl)) pe_int (nomark _)) pe_int (pe_ifExp (pt_cmpR op_gt (pe_ix ix_tup (pv 2) pe_int (fun _ _ => rfl)) pe_int (nomark _)) pe_int (pe_un un_neg pe_int))))
      (pss_cons (ps_if (pt_cmpR op_ne (pe_callB (call_reprD hgd hr.units) (by rfl) B.repr PyProof.Rows.boot_repr (pa_cons (pe_lst (pa_cons (pe_prop (pv 1) M.c.cl PS GS h2 bS .nil pass0 rfl) (pa_cons (pe_prop (pv 1) M.c.cl PW' GW h2 bW .nil pass0 rfl) pa_nil))) pa_nil))
          (pe_callB (call_reprD hgd hr.units) (by rfl) B.repr PyProof.Rows.boot_repr (pa_cons (pe_lst (pa_cons (pv 3) (pa_cons (pe_cmpR op_eq (pe_ix ix_tup (pv 2) pe_int (fun _ _ => rfl)) pe_int (nomark _)) pa_nil))) pa_nil)) (nomark _)) (pss_one (ps_ret pe_bl)) pss_nil)
      (pss_cons (ps_if (pt_cmpR (op_neD hr.units) (pe_call GP h3 rfl DP.g DP.F.kp DP.b .nil pass0 (pa_cons (pe_meth0 (pv 1) M.c.cl mZ GZ h4 bZ .nil pass0) pa_nil))
          (pe_tup (pa_cons (pe_callB call_abs (by rfl) B.abs PyProof.Rows.boot_abs (pa_cons (pe_ix ix_tup (pv 2) pe_int (fun _ _ => rfl)) pa_nil)) (pa_cons (pe_ix ix_tup (pv 2) pe_int (fun _ _ => rfl)) pa_nil))) (nomark _)) (pss_one (ps_ret pe_bl)) pss_nil)
      (pss_cons (ps_if (PW.pt (pw_or (pt_cmpR (op_neD hr.units) (pe_call GP h3 rfl DP.g DP.F.kp DP.b .nil pass0 (pa_cons (pe_op (NeO.op_binR (op := .Sub) NeO.int_sub R1 GR h6 bR) pe_int (pv 1)) pa_nil))
            (pe_tup (pa_cons (pe_op op_sub pe_int (pe_ix ix_tup (pv 2) pe_int (fun _ _ => rfl))) (pa_cons (pe_ix ix_tup (pv 2) pe_int (fun _ _ => rfl)) pa_nil))) (nomark _))
          (pw_or1 (pt_cmpR (op_neD hr.units) (pe_call GP h3 rfl DP.g DP.F.kp DP.b .nil pass0 (pa_cons (pe_un (NeO.un_negI n1 n2 GN h4 bN) (pv 1)) pa_nil))
            (pe_tup (pa_cons (pe_op op_sub pe_int (pe_ix ix_tup (pv 2) pe_int (fun _ _ => rfl))) (pa_cons (pe_ix ix_tup (pv 2) pe_int (fun _ _ => rfl)) pa_nil))) (nomark _))))) (pss_one (ps_ret pe_bl)) pss_nil)
      (pss_cons (ps_if (pt_cmpR (op_neD hr.units) (pe_lst (pa_cons (pe_call G1 h2 rfl D1.g D1.F.kp D1.b .nil pass0 (pa_cons (pv 1) pa_nil)) (pa_cons (pe_call G2 h1 rfl D2.g D2.F.kp D2.b .nil pass0 (pa_cons (pv 1) pa_nil)) (pa_cons (pe_call G3 h2 rfl D3.g D3.F.kp D3.b .nil pass0 (pa_cons (pv 1) pa_nil)) pa_nil))))
          (pe_lst (pa_cons pe_bl (pa_cons pe_bl (pa_cons pe_bl pa_nil)))) (nomark _)) (pss_one (ps_ret pe_bl)) pss_nil)
      (pss_one (ps_ret (pe_cmpR (op_eqD hr.units) (pe_call GP h3 rfl DP.g DP.F.kp DP.b .nil pass0 (pa_cons (pe_makeK0 M.mkr GI h3 rfl M.c.mgC kI pass0 (pk_cons (pe_ix ix_tup (pv 0) pe_int (fun _ _ => rfl)) (pk_cons (pe_ix ix_tup (pv 0) pe_int (fun _ _ => rfl)) pk_nil))) pa_nil)) (pv 2) (nomark _))))))))))), ?_⟩
    have fy := raw_fine rw'
    have ty := fine_tiny fy
    have sy := fine_small fy
    have bl : x.2.natAbs.log2 < 9000 := Nat.lt_of_lt_of_le (log_of rw'.bot (by decide)) (by decide)
    generalize hY : lowQ x.1 x.2 = y at fy ty sy
    -- made, and the law's own
    refine ⟨_, rfl, p, _, _, _, rfl, rfl, hp, at_i0, _, rfl, p, _, _, _, rfl, rfl, hp, at_i1, fun m dx nx ndx nex => mk_ratio rw'.ne bl nx ndx fun H1 s1 hm => ⟨rfl, ?_⟩⟩
    have hp1 := pair_sR hp s1
    refine ⟨_, rfl, p, _, _, _, rfl, rfl, hp1, at_i0, _, rfl, p, _, _, _, rfl, rfl, hp1, at_i1, x.1, x.2, rfl, rw'.ne, bl, fun H2 t s2 _ ht => ⟨_, _, rfl, ?_⟩⟩
    rw [hY] at hm ht
    have hm2 := rat_s hm s2
    have hp2 := pair_sR hp1 s2
    have s02 := s1.trans s2
    clear hm s1 s2 hp1 nx ndx nex hp
    refine ⟨_, rfl, m, y, rfl, hm2, fun H3 t3 s3 _ ht3 => ⟨_, rfl, dP y, dP y, dP_mk ht3, dP_mk (pair_sR ht s3), shaped_pair _, shaped_pair _, ?_⟩⟩
    rw [eqv_dPq, decide_eq_true rfl]
    have hm3 := rat_s hm2 s3
    have ht4 := pair_sR ht s3
    have hp3 := pair_sR hp2 s3
    have s03 := s02.trans s3
    clear s3 hm2 ht hp2 s02 ht3
    obtain ⟨dm, hmi⟩ := id hm3
    refine ⟨_, rfl, iteF ⟨_, rfl, m, dm, _, rfl, hmi, m, y, rfl, hm3, ty, _, rfl, ?_⟩⟩
    refine ⟨_, rfl, t, y, rfl, ht4, ty, rfl, _, rfl, ?_⟩
    rw [decide_eq_true rfl]
    refine iteF ?_
    -- repr
    have b1 := int_len ty.1
    have b2 := int_len ty.2
    have sz : sizeLine = 16777216 := rfl
    have l1 : (("Ratio(" : String) : Str).length = 6 := rfl
    have l2 : ((", " : String) : Str).length = 2 := rfl
    have l3 : ((")" : String) : Str).length = 1 := rfl
    refine ⟨_, rfl, m, dm, _, rfl, hmi, m, y, rfl, hm3, ty, _, rfl, ?_⟩
    refine ⟨_, rfl, t, _, _, _, rfl, rfl, ht4, at_i0, _, rfl, tiny_log ty.1, _, _, rfl, rfl, by omega, _, _, rfl, rfl, by simp only [strLen_append]; omega, ?_⟩
    refine ⟨_, rfl, t, _, _, _, rfl, rfl, ht4, at_i1, _, rfl, tiny_log ty.2, _, _, rfl, rfl, by simp only [strLen_append]; omega, _, _, rfl, rfl, by simp only [strLen_append]; omega, rfl, _, rfl, ?_⟩
    unfold rpQ
    rw [decide_eq_true rfl]
    refine iteF ?_
    -- sign
    unfold tNext
    dsimp only
    unfold tSeq
    dsimp only
    unfold tAsg
    dsimp only
    refine te_eqR (t := tIf _ _ _) (V.int (sgnQ y.1)) (fun Q' hq => ?_) ?_
    · refine ⟨_, rfl, t, _, _, _, rfl, rfl, ht4, at_i0, rfl, _, rfl, ?_⟩
      by_cases c : y.1 = 0
      · rw [show decide (V.int y.1 = V.int 0) = true from decide_eq_true (by rw [c])]
        rw [show sgnQ y.1 = 0 by unfold sgnQ; rw [if_pos c]] at hq
        exact iteT hq
      · rw [show decide (V.int y.1 = V.int 0) = false from decide_eq_false (fun e => c (V.int.inj e))]
        refine iteF ⟨_, rfl, t, _, _, _, rfl, rfl, ht4, at_i0, _, _, rfl, rfl, _, rfl, ?_⟩
        by_cases d : 0 < y.1
        · rw [decide_eq_true d]
          rw [show sgnQ y.1 = 1 by unfold sgnQ; rw [if_neg c, if_pos d]] at hq
          exact iteT hq
        · rw [decide_eq_false d]
          rw [show sgnQ y.1 = -1 by unfold sgnQ; rw [if_neg c, if_neg d]] at hq
          exact iteF ⟨_, rfl, hq⟩
    have sg : sgnQ y.1 = 0 ∨ sgnQ y.1 = 1 ∨ sgnQ y.1 = -1 := by
      unfold sgnQ
      split
      · exact .inl rfl
      · split
        · exact .inr (.inl rfl)
        · exact .inr (.inr rfl)
    generalize hsg : sgnQ y.1 = sgv at sg
    have w3 : decide (V.int y.2 = V.int 1) = decide (y.2 = 1) := by simp
    obtain ⟨q1, q2, q3, q4⟩ : (PyData.list [.int sgv, .bool (decide (y.2 = 1))]).showable = true ∧ (PyData.list [.int sgv, .bool (decide (y.2 = 1))]).hasDict = false ∧ (PyData.list [.int sgv, .bool (decide (y.2 = 1))]).depth ≤ 50 ∧ (PyData.list [.int sgv, .bool (decide (y.2 = 1))]).shown.length ≤ sizeLine := by
      generalize decide (y.2 = 1) = bb
      rcases sg with rfl | rfl | rfl <;> cases bb <;> refine ⟨by decide +kernel, by decide +kernel, by decide +kernel, by decide +kernel⟩
    refine ⟨_, rfl, m, dm, _, rfl, hmi, m, y, rfl, hm3, _, rfl, m, dm, _, rfl, hmi, m, y, rfl, hm3, szle (by show 2 ≤ 100000; decide), fun l1' hl1 => ?_⟩
    rw [hsg]
    have s4 := same_new (o := .lst [V.int sgv, V.bl (decide (y.2 = 1))]) hl1
    refine ⟨l1', .list [.int sgv, .bool (decide (y.2 = 1))], rfl, .lst (sl_of upd_same) (.cons (.int _) (.cons (.bl _) .nil)), q1, q2, q3, q4, ?_⟩
    refine ⟨_, rfl, _, rfl, t, _, _, _, rfl, rfl, pair_sR ht4 s4, at_i1, rfl, szle (by show 2 ≤ 100000; decide), fun l2' hl2 => ?_⟩
    have s5 := s4.trans (same_new (o := .lst [V.int sgv, V.bl (decide (V.int y.2 = V.int 1))]) hl2)
    refine ⟨l2', .list [.int sgv, .bool (decide (V.int y.2 = V.int 1))], rfl, .lst (sl_of upd_same) (.cons (.int _) (.cons (.bl _) .nil)), by rw [w3]; exact q1, by rw [w3]; exact q2, by rw [w3]; exact q3, by rw [w3]; exact q4, rfl, _, rfl, ?_⟩
    rw [w3, decide_eq_true rfl]
    refine iteF ?_
    rw [w3] at s5
    have s05 := s03.trans s5
    have hm5 := rat_s hm3 s5
    have ht5 := pair_sR ht4 s5
    have hp5 := pair_sR hp3 s5
    generalize upd (upd H3 l1' _) l2' _ = H5 at s05 hm5 ht5 hp5
    clear s4 s5 hl1 hl2 hm3 ht4 hp3 s03 hmi q1 q2 q3 q4 hsg sg
    obtain ⟨dm, hmi⟩ := id hm5
    -- size
    refine ⟨_, rfl, m, dm, _, rfl, hmi, rf_no _ _ (by decide +kernel) (by decide +kernel), m, y, rfl, hm5, sy, fun H6 z6 s6 hz6 => ?_⟩
    rw [abs_fine fy] at hz6
    generalize hay : (if y.1 < 0 then -y.1 else y.1) = ay at hz6
    refine ⟨z6, (ay, y.2), rfl, hz6, fun H7 t7 s7 _ ht7 => ?_⟩
    have s57 := s6.trans s7
    refine ⟨_, rfl, t, _, _, _, rfl, rfl, pair_sR ht5 s57, at_i0, y.1, rfl, ?_⟩
    rw [hay]
    refine ⟨_, rfl, t, _, _, _, rfl, rfl, pair_sR ht5 s57, at_i1, szle (by show 2 ≤ 100000; decide), fun t8 ht8 => ?_⟩
    have s8 := same_new (o := .tup [V.int ay, V.int y.2]) ht8
    refine ⟨dP (ay, y.2), dP (ay, y.2), dP_mk (pair_sR ht7 s8), dP_mk (st_of upd_same), shaped_pair _, shaped_pair _, ?_⟩
    rw [eqv_dPq, decide_eq_true rfl]
    refine ⟨_, rfl, iteF ?_⟩
    have s58 := s57.trans s8
    have s08 := s05.trans s58
    have hm8 := rat_s hm5 s58
    have ht9 := pair_sR ht5 s58
    have hp8 := pair_sR hp5 s58
    generalize upd H7 t8 _ = H8 at s08 hm8 ht9 hp8
    clear s58 s8 s57 s6 s7 ht7 ht8 hz6 hay hm5 ht5 hp5 s05 hmi
    obtain ⟨dm, hmi⟩ := id hm8
    -- the other sign, two ways
    have s01 : Small (0, 1) := fine_small (fine_int (i := 0) (by decide))
    refine ⟨_, rfl, m, dm, _, (0 : Int), rfl, rfl, hmi, m, .int 0, y, (0, 1), rfl, hm8, .inr ⟨0, rfl, rfl⟩, sy, s01, fun H9 z9 s9 hz9 => ⟨z9, rfl, ?_⟩⟩
    rw [sub_zero fy] at hz9
    refine ⟨z9, _, rfl, hz9, fun H10 t10 s10 _ ht10 => ?_⟩
    have s8a := s9.trans s10
    refine ⟨_, rfl, t, _, _, _, rfl, rfl, pair_sR ht9 s8a, at_i0, _, _, rfl, rfl, _, rfl, t, _, _, _, rfl, rfl, pair_sR ht9 s8a, at_i1, szle (by show 2 ≤ 100000; decide), fun t11 ht11 => ?_⟩
    have s11 := same_new (o := .tup [V.int (0 - y.1), V.int y.2]) ht11
    refine ⟨dP (0 - y.1, y.2), dP (0 - y.1, y.2), dP_mk (pair_sR ht10 s11), dP_mk (st_of upd_same), shaped_pair _, shaped_pair _, ?_⟩
    rw [eqv_dPq, decide_eq_true rfl]
    have s8b := s8a.trans s11
    have s0b := s08.trans s8b
    have hmb := rat_s hm8 s8b
    have htb := pair_sR ht9 s8b
    have hpb := pair_sR hp8 s8b
    generalize upd H10 t11 _ = H11 at s0b hmb htb hpb
    clear s8b s8a s9 s10 s11 ht10 ht11 hz9 hm8 ht9 hp8 s08 hmi
    obtain ⟨dm, hmi⟩ := id hmb
    refine ⟨_, rfl, iteF ⟨_, rfl, m, dm, _, rfl, hmi, m, y, rfl, hmb, sy, fun H12 z12 s12 hz12 => ?_⟩⟩
    rw [neg_fine fy] at hz12
    refine ⟨z12, _, rfl, hz12, fun H13 t13 s13 _ ht13 => ?_⟩
    have sba := s12.trans s13
    refine ⟨_, rfl, t, _, _, _, rfl, rfl, pair_sR htb sba, at_i0, _, _, rfl, rfl, _, rfl, t, _, _, _, rfl, rfl, pair_sR htb sba, at_i1, szle (by show 2 ≤ 100000; decide), fun t14 ht14 => ?_⟩
    have s14 := same_new (o := .tup [V.int (0 - y.1), V.int y.2]) ht14
    refine ⟨dP (0 - y.1, y.2), dP (0 - y.1, y.2), dP_mk (pair_sR ht13 s14), dP_mk (st_of upd_same), shaped_pair _, shaped_pair _, ?_⟩
    rw [eqv_dPq, decide_eq_true rfl]
    have sbc := sba.trans s14
    have s0c := s0b.trans sbc
    have hmc := rat_s hmb sbc
    have htc := pair_sR htb sbc
    have hpc := pair_sR hpb sbc
    generalize upd H13 t14 _ = H14 at s0c hmc htc hpc
    clear sbc sba s12 s13 s14 ht13 ht14 hz12 hmb htb hpb s0b hmi
    refine ⟨_, rfl, iteF ?_⟩
    -- kinds
    refine ⟨_, rfl, m, y, rfl, hmc, _, rfl, m, y, rfl, hmc, _, rfl, m, y, rfl, hmc, szle (by show 3 ≤ 100000; decide), fun u1 hu1 => ⟨szle (by show 3 ≤ 100000; decide), fun u2 hu2 => ?_⟩⟩
    have sd := (same_new (o := .lst [V.bl true, V.bl false, V.bl false]) hu1).trans (same_new (o := .lst [V.bl true, V.bl false, V.bl false]) hu2)
    have bb : ∀ {G : Hp} {u : Addr}, SqL K G u [V.bl true, V.bl false, V.bl false] → Dp K G (.ref u) (.list [.bool true, .bool false, .bool false]) := fun h => .lst h (.cons (.bl _) (.cons (.bl _) (.cons (.bl _) .nil)))
    have n12 : u1 ≠ u2 := fun e => by rw [← e, upd_same] at hu2; cases hu2
    refine ⟨_, _, bb (sl_of (by rw [upd_ne n12, upd_same])), bb (sl_of upd_same), by decide +kernel, by decide +kernel, ?_⟩
    rw [show PyData.eqv (.list [.bool true, .bool false, .bool false]) (.list [.bool true, .bool false, .bool false]) = true by decide +kernel]
    refine ⟨_, rfl, iteF ?_⟩
    have s0d := s0c.trans sd
    have htd := pair_sR htc sd
    have hpd := pair_sR hpc sd
    generalize upd (upd H14 u1 _) u2 _ = H15 at s0d htd hpd
    clear sd hu1 hu2 htc hpc s0c hmc
    -- by names
    refine ⟨_, rfl, p, _, _, _, rfl, rfl, hpd, at_i0, _, rfl, p, _, _, _, rfl, rfl, hpd, at_i1, rfl, rfl, fun m2 dx nx ndx nex => mk_ratio rw'.ne bl nx ndx fun H16 s16 hm16 => ⟨rfl, ?_⟩⟩
    rw [hY] at hm16
    refine ⟨m2, y, rfl, hm16, fun H17 t17 s17 _ ht17 => ⟨_, rfl, dP y, dP y, dP_mk ht17, dP_mk (pair_sR htd (s16.trans s17)), shaped_pair _, shaped_pair _, ?_⟩⟩
    rw [eqv_dPq, decide_eq_true rfl]
    exact q _ ((s0d.trans s16).trans s17)
end
end Tk

namespace Tk
open PySem PySem.Spec PyProof.Rows L2
abbrev sTwoRt : Stmt := top 28
abbrev pSO : List Str := ["self", "other"]
abbrev pOO : List Str := ["_law_one", "_law_other"]
structure CallsRu (P : Program) (w : World) (K : PySem.W.Frag) (mg : Str → Option Value) (base : Heap) (C : Addr) : Prop where
  add : ∃ f fd, NeO.BinT K C f "add" ∧ FnOk P w K mg base CX0 5 f fd pSO (spBin C addQ) ∧ Binds K fd pSO []
  sub : ∃ f fd, NeO.BinT K C f "sub" ∧ FnOk P w K mg base CX0 5 f fd pSO (spBin C subQ) ∧ Binds K fd pSO []
  mul : ∃ f fd, NeO.BinT K C f "mul" ∧ FnOk P w K mg base CX0 5 f fd pSO (spBin C mulQ) ∧ Binds K fd pSO []
  radd : ∃ f fd, NeO.BinR K C f "add" ∧ FnOk P w K mg base CX0 6 f fd pSO (spRev C addQ) ∧ Binds K fd pSO []
  rmul : ∃ f fd, NeO.BinR K C f "mul" ∧ FnOk P w K mg base CX0 6 f fd pSO (spRev C mulQ) ∧ Binds K fd pSO []
  over : ∃ f fd, Meth K C "over" f ∧ FnOk P w K mg base CX0 5 f fd pSO (spOver C) ∧ Binds K fd pSO [] ∧ ∀ (s : Shared) (u : Value) (ws : List Value), ws.length = (["other"] : List Str).length → BindsTo s fd ⟨[u], (["other"] : List Str).zip ws⟩ (pSO.zip (u :: ws))
  below : ∃ f fd, Meth K C "is_below" f ∧ FnOk P w K mg base CX0 6 f fd pSO (spBelow C fun i => decide (i < 0)) ∧ Binds K fd pSO []
  most : ∃ f fd, Meth K C "is_at_most" f ∧ FnOk P w K mg base CX0 6 f fd pSO (spBelow C fun i => decide (i ≤ 0)) ∧ Binds K fd pSO []
  eq : ∃ f fd, OneC K C f "__eq__" ∧ NeO.NeC K C f ∧ FnOk P w K mg base CX0 1 f fd pSO (spREq C) ∧ FnOk P w K mg base CX0 1 f fd pSO (spREqV C) ∧ Binds K fd pSO [] ∧ PySem.W.subIn K (.ref C) (.type "int") = some false ∧ PySem.W.notFirst K C (.type "int") = true
  lsum : ∃ f fd, Df K mg "_law_sum" sSumR pOO f fd ∧ FnOk P w K mg base CX0 2 f fd pOO (spTwoR K addQ)
  lless : ∃ f fd, Df K mg "_law_less" sLessR pOO f fd ∧ FnOk P w K mg base CX0 3 f fd pOO (spTwoR K subQ)
  lby : ∃ f fd, Df K mg "_law_by" sByR pOO f fd ∧ FnOk P w K mg base CX0 2 f fd pOO (spTwoR K mulQ)
  lover : ∃ f fd, Df K mg "_law_over" sOverR pOO f fd ∧ FnOk P w K mg base CX0 2 f fd pOO (spOverR K)
  pairs : ∃ f fd, Df K mg "_law_pairs" sRtPairs ["_law_value"] f fd ∧ FnOk P w K mg base CX0 4 f fd ["_law_value"] (spPairsR K C)
section
variable {C : Addr} {G : Hp} {u v : Addr} {a b : Int × Int} {i : Int} {Q : VK} {g : Int × Int → Int × Int → Int × Int}
theorem binI_r (hu : RatAt C G u a) (hv : RatAt C G v b) (su : Small a) (sv : Small b) (q : ∀ H' r, Same G H' → RatAt C H' r (g a b) → Q (.ref r) H') : NeO.rBinI C (spBin C g) (.ref u) (.ref v) G Q := by
  obtain ⟨du, hu'⟩ := id hu
  obtain ⟨dv, hv'⟩ := id hv
  exact ⟨u, v, du, dv, _, _, rfl, rfl, hu', hv', u, .ref v, a, b, rfl, hu, .inl ⟨v, rfl, hv⟩, su, sv, fun H' r s' _ h => ⟨r, rfl, q H' r s' h⟩⟩
theorem binT_r (hu : RatAt C G u a) (su : Small a) (si : Small (i, 1)) (q : ∀ H' r, Same G H' → RatAt C H' r (g a (i, 1)) → Q (.ref r) H') : NeO.rBinT C (spBin C g) (.ref u) (.int i) G Q := by
  obtain ⟨du, hu'⟩ := id hu
  exact ⟨u, du, _, i, rfl, rfl, hu', u, .int i, a, (i, 1), rfl, hu, .inr ⟨i, rfl, rfl⟩, su, si, fun H' r s' _ h => ⟨r, rfl, q H' r s' h⟩⟩
theorem binR_r (hu : RatAt C G u a) (su : Small a) (si : Small (i, 1)) (q : ∀ H' r, Same G H' → RatAt C H' r (g (i, 1) a) → Q (.ref r) H') : NeO.rBinR C (spRev C g) (.int i) (.ref u) G Q := by
  obtain ⟨du, hu'⟩ := id hu
  exact ⟨u, du, _, i, rfl, rfl, hu', u, .int i, a, (i, 1), rfl, hu, .inr ⟨i, rfl, rfl⟩, su, si, fun H' r s' h => ⟨r, rfl, q H' r s' h⟩⟩
end
/-- Ratios in a list -/
def RatsP (C : Addr) (H : Hp) : List V → List (Int × Int) → Prop
  | [], [] => True
  | x :: xs, q :: qs => (∃ p, x = .ref p ∧ RatAt C H p q) ∧ RatsP C H xs qs
  | _, _ => False
theorem rats_s {C : Addr} {H H' : Hp} (e : Same H H') : ∀ {xs : List V} {qs : List (Int × Int)}, RatsP C H xs qs → RatsP C H' xs qs
  | [], [], _ => trivial
  | _ :: _, _ :: _, ⟨⟨p, h1, h2⟩, h⟩ => ⟨⟨p, h1, rat_s h2 e⟩, rats_s e h⟩
  | [], _ :: _, h => h.elim
  | _ :: _, [], h => h.elim
theorem rats_app {C : Addr} {H : Hp} : ∀ {xs ys : List V} {qs rs : List (Int × Int)}, RatsP C H xs qs → RatsP C H ys rs → RatsP C H (xs ++ ys) (qs ++ rs)
  | [], _, [], _, _, h => h
  | _ :: _, _, _ :: _, _, ⟨h1, h2⟩, h => ⟨h1, rats_app h2 h⟩
  | [], _, _ :: _, _, h, _ => h.elim
  | _ :: _, _, [], _, h, _ => h.elim
theorem rats_at {C : Addr} {H : Hp} : ∀ {xs : List V} {qs : List (Int × Int)}, RatsP C H xs qs → xs.length = qs.length ∧ ∀ (i : Nat) (x : V) (q : Int × Int), xs[i]? = some x → qs[i]? = some q → ∃ p, x = .ref p ∧ RatAt C H p q
  | [], [], _ => ⟨rfl, fun i x q h _ => by simp at h⟩
  | x :: xs, q :: qs, ⟨h1, h⟩ => by
    obtain ⟨l, g⟩ := rats_at h
    refine ⟨by simp [l], fun i y z hy hz => ?_⟩
    cases i with
    | zero =>
      simp at hy hz
      subst hy
      subst hz
      exact h1
    | succ i => exact g i y z (by simpa using hy) (by simpa using hz)
  | [], _ :: _, h => h.elim
  | _ :: _, [], h => h.elim
/-- a list of another place changes -/
theorem rat_but {C l : Addr} {H H' : Hp} {p : Addr} {q : Int × Int} {xs : List V} (h : RatAt C H p q) (hl : H l = some (.lst xs)) (e : SmX l H H') : RatAt C H' p q := by
  obtain ⟨dx, h⟩ := h
  exact ⟨dx, e _ _ (fun z => by rw [z, hl] at h; cases h) h⟩
theorem pair_but {K : PySem.W.Frag} {l : Addr} {H H' : Hp} {p : Addr} {q : Int × Int} {xs : List V} (h : PairAt K H p q) (hl : H l = some (.lst xs)) (e : SmX l H H') : PairAt K H' p q := by
  rcases h with (h | ⟨z, h⟩) | h
  · exact .inl (.inl (e _ _ (fun z => by rw [z, hl] at h; cases h) h))
  · exact .inl (.inr ⟨z, e _ _ (fun z => by rw [z, hl] at h; cases h) h⟩)
  · exact .inr h
theorem rats_but {C l : Addr} {H H' : Hp} {zs : List V} (hl : H l = some (.lst zs)) (e : SmX l H H') : ∀ {xs : List V} {qs : List (Int × Int)}, RatsP C H xs qs → RatsP C H' xs qs
  | [], [], _ => trivial
  | _ :: _, _ :: _, ⟨⟨p, h1, h2⟩, h⟩ => ⟨⟨p, h1, rat_but h2 hl e⟩, rats_but hl e h⟩
  | [], _ :: _, h => h.elim
  | _ :: _, [], h => h.elim
/-- pairs in a list -/
def PrsP (K : PySem.W.Frag) (H : Hp) : List V → List (Int × Int) → Prop
  | [], [] => True
  | x :: xs, q :: qs => (∃ p, x = .ref p ∧ PairAt K H p q) ∧ PrsP K H xs qs
  | _, _ => False
theorem prs_sR {K : PySem.W.Frag} {H H' : Hp} (e : Same H H') : ∀ {xs : List V} {qs : List (Int × Int)}, PrsP K H xs qs → PrsP K H' xs qs
  | [], [], _ => trivial
  | _ :: _, _ :: _, ⟨⟨p, h1, h2⟩, h⟩ => ⟨⟨p, h1, pair_sR h2 e⟩, prs_sR e h⟩
  | [], _ :: _, h => h.elim
  | _ :: _, [], h => h.elim
theorem prs_appR {K : PySem.W.Frag} {H : Hp} : ∀ {xs ys : List V} {qs rs : List (Int × Int)}, PrsP K H xs qs → PrsP K H ys rs → PrsP K H (xs ++ ys) (qs ++ rs)
  | [], _, [], _, _, h => h
  | _ :: _, _, _ :: _, _, ⟨h1, h2⟩, h => ⟨h1, prs_appR h2 h⟩
  | [], _, _ :: _, _, h, _ => h.elim
  | _ :: _, _, [], _, h, _ => h.elim
theorem prs_butR {K : PySem.W.Frag} {l : Addr} {H H' : Hp} {zs : List V} (hl : H l = some (.lst zs)) (e : SmX l H H') : ∀ {xs : List V} {qs : List (Int × Int)}, PrsP K H xs qs → PrsP K H' xs qs
  | [], [], _ => trivial
  | _ :: _, _ :: _, ⟨⟨p, h1, h2⟩, h⟩ => ⟨⟨p, h1, pair_but h2 hl e⟩, prs_butR hl e h⟩
  | [], _ :: _, h => h.elim
  | _ :: _, [], h => h.elim
theorem prs_dps {K : PySem.W.Frag} {H : Hp} : ∀ {xs : List V} {qs : List (Int × Int)}, PrsP K H xs qs → DpAll K H xs (qs.map dP)
  | [], [], _ => .nil
  | _ :: _, _ :: _, ⟨⟨p, h1, h2⟩, h⟩ => by
    rw [h1]
    exact .cons (dP_mk h2) (prs_dps h)
  | [], _ :: _, h => h.elim
  | _ :: _, [], h => h.elim
theorem eqvs_prs : ∀ {ps qs : List (Int × Int)}, PyData.eqvAll (ps.map dP) (qs.map dP) = decide (ps = qs)
  | [], [] => by simp [PyData.eqvAll]
  | [], q :: qs => by simp [PyData.eqvAll]
  | p :: ps, [] => by simp [PyData.eqvAll]
  | p :: ps, q :: qs => by
    show (PyData.eqv (dP p) (dP q) && PyData.eqvAll (ps.map dP) (qs.map dP)) = _
    rw [eqv_dPq, eqvs_prs]
    by_cases c1 : p = q <;> by_cases c2 : ps = qs <;> simp [c1, c2]
theorem eqv_prs {ps qs : List (Int × Int)} : PyData.eqv (.list (ps.map dP)) (.list (qs.map dP)) = decide (ps = qs) := by
  simp only [PyData.eqv]
  exact eqvs_prs
theorem five_eqv {a b c d e : Bool} : PyData.eqv (.list [.bool a, .bool b, .bool c, .bool d, .bool e]) (.list [.bool a, .bool b, .bool c, .bool d, .bool e]) = true := by
  cases a <;> cases b <;> cases c <;> cases d <;> cases e <;> decide +kernel
theorem four_eqv {a b c d : Bool} : PyData.eqv (.list [.bool a, .bool b, .bool c, .bool d]) (.list [.bool a, .bool b, .bool c, .bool d]) = true := by
  cases a <;> cases b <;> cases c <;> cases d <;> decide +kernel
/-- what two_right holds -/
structure TwoF (K : PySem.W.Frag) (C : Addr) (H : Hp) (m m2 t t2 t3 : Addr) (x y : Int × Int) (n : Int) : Prop where
  made : RatAt C H m x
  mate : RatAt C H m2 y
  one : PairAt K H t x
  two : PairAt K H t2 y
  whole : PairAt K H t3 (n, 1)
theorem TwoF.s {K : PySem.W.Frag} {C : Addr} {H H' : Hp} {m m2 t t2 t3 : Addr} {x y : Int × Int} {n : Int} (f : TwoF K C H m m2 t t2 t3 x y n) (e : Same H H') : TwoF K C H' m m2 t t2 t3 x y n :=
  ⟨rat_s f.made e, rat_s f.mate e, pair_sR f.one e, pair_sR f.two e, pair_sR f.whole e⟩
theorem TwoF.but {K : PySem.W.Frag} {C l : Addr} {H H' : Hp} {m m2 t t2 t3 : Addr} {x y : Int × Int} {n : Int} {xs : List V} (f : TwoF K C H m m2 t t2 t3 x y n) (hl : H l = some (.lst xs)) (e : SmX l H H') : TwoF K C H' m m2 t t2 t3 x y n :=
  ⟨rat_but f.made hl e, rat_but f.mate hl e, pair_but f.one hl e, pair_but f.two hl e, pair_but f.whole hl e⟩
def spTwoRt (K : PySem.W.Frag) : Sp := fun vs H Q _ => ∃ (p r : Addr) (x y : Int × Int) (n : Int), vs = [.ref p, .ref r, .int n] ∧ PairAt K H p x ∧ PairAt K H r y ∧ RawOk x ∧ RawOk y ∧ n.natAbs < 1000 ∧ ∀ H', Same H H' → Q (.bl true) H'
section
variable {P : Program} {w : World} {K : PySem.W.Frag} {mg : Str → Option Value} {base : Heap}
abbrev nTwoRt : List Str := ["_law_raw_here", "_law_other_raw", "_law_number", "_law_made", "_law_mate", "_law_one", "_law_two", "_law_whole", "_law_told", "_law_due", "_law_below", "_law_above"]
theorem sc_twoRt : FnScope nTwoRt ["_law_raw_here", "_law_other_raw", "_law_number"] (defScope sTwoRt) := ⟨rfl, rfl, rfl, by decide +kernel, rfl, by decide +kernel, by decide +kernel⟩
theorem ok_twoRt {f C : Addr} {fd : FuncData} (F : Fun K "_law_two_right" "_law_two_right" sTwoRt f fd) (Z : CallsRt P w K mg base C) (Y : CallsRu P w K mg base C) (B : Bl mg) : FnOk P w K mg base CX0 7 f fd ["_law_raw_here", "_law_other_raw", "_law_number"] (spTwoRt K) := by
  obtain ⟨fI, dI, M, GI, _⟩ := Z.make
  obtain ⟨fP, dP', DP, GP⟩ := Z.pair
  obtain ⟨fL, dL, DL, GL⟩ := Z.low
  obtain ⟨fRs, dRs, Rs, GRs, bRs⟩ := Z.rsub
  obtain ⟨fA, dA, TA', GA, bA⟩ := Y.add
  obtain ⟨fS, dS, TS', GS, bS⟩ := Y.sub
  obtain ⟨fM, dM, TM, GM, bM⟩ := Y.mul
  obtain ⟨fRa, dRa, Ra, GRa, bRa⟩ := Y.radd
  obtain ⟨fRm, dRm, Rm, GRm, bRm⟩ := Y.rmul
  obtain ⟨fO, dO, mO, GO, bO, kO⟩ := Y.over
  obtain ⟨fB, dB, mB, GB, bB⟩ := Y.below
  obtain ⟨fN, dN, mN, GN, bN⟩ := Y.most
  obtain ⟨fE, dE, ⟨e1, e2⟩, NE, GE, GV, bE, e3, e4⟩ := Y.eq
  obtain ⟨f1, d1, D1, G1⟩ := Y.lsum
  obtain ⟨f2, d2, D2, G2⟩ := Y.lless
  obtain ⟨f3, d3, D3, G3⟩ := Y.lby
  obtain ⟨f4, d4, D4, G4⟩ := Y.lover
  obtain ⟨f5, d5, D5, G5⟩ := Y.pairs
  refine F.ok sc_twoRt (fun vs H Q E h => ?_) (fun cdv A outer s H vs Q E hr h => ?_)
  · obtain ⟨p, r, x, y, n, rfl, _⟩ := h
    rfl
  · obtain ⟨p, r, x, y, n, rfl, hp, hr', rx, ry, hn, q⟩ := h
    have h1 : Room 1 _ := hr.mono (by decide)
    have h2 : Room 2 _ := hr.mono (by decide)
    have h3 : Room 3 _ := hr.mono (by decide)
    have h4 : Room 4 _ := hr.mono (by decide)
    have h5 : Room 5 _ := hr.mono (by decide)
    refine ⟨_, pss_cons (ps_par (i := 3) (j := 4) rfl sc_twoRt.nd rfl rfl (by decide) rfl rfl (pa_cons (pe_make M.mkr GI h3 rfl M.c.mgC M.bI .nil pass0 (pa_cons (pe_ix ix_tup (pv 0) pe_int (fun _ _ => rfl)) (pa_cons (pe_ix ix_tup (pv 0) pe_int (fun _ _ => rfl)) pa_nil)))
          (pa_cons (pe_make M.mkr GI h3 rfl M.c.mgC M.bI .nil pass0 (pa_cons (pe_ix ix_tup (pv 1) pe_int (fun _ _ => rfl)) (pa_cons (pe_ix ix_tup (pv 1) pe_int (fun _ _ => rfl)) pa_nil))) pa_nil)) (by rfl))
      (pss_cons (ps_par3 (i := 5) (j := 6) (l := 7) rfl sc_twoRt.nd rfl rfl rfl (by decide) (by decide) (by decide) rfl rfl rfl (pa_cons (pe_call GL h1 rfl DL.g DL.F.kp DL.b .nil pass0 (pa_cons (pe_ix ix_tup (pv 0) pe_int (fun _ _ => rfl)) (pa_cons (pe_ix ix_tup (pv 0) pe_int (fun _ _ => rfl)) pa_nil)))
          (pa_cons (pe_call GL h1 rfl DL.g DL.F.kp DL.b .nil pass0 (pa_cons (pe_ix ix_tup (pv 1) pe_int (fun _ _ => rfl)) (pa_cons (pe_ix ix_tup (pv 1) pe_int (fun _ _ => rfl)) pa_nil))) (pa_cons (pe_tup (pa_cons (pv 2) (pa_cons pe_int pa_nil))) pa_nil))) (by rfl))
      (pss_cons (ps_set (i := 8) sc_twoRt.nd rfl (Or.inl rfl) (pe_lst (pa_cons (pe_op (NeO.op_binI (op := .Add) TA'.first TA'.own TA'.fn GA h5 bA) (pv 3) (pv 4)) (pa_cons (pe_op (NeO.op_binI (op := .Sub) TS'.first TS'.own TS'.fn GS h5 bS) (pv 3) (pv 4)) (pa_cons (pe_op (NeO.op_binI (op := .Mult) TM.first TM.own TM.fn GM h5 bM) (pv 3) (pv 4))
          (pa_cons (pe_op (NeO.op_binT (op := .Add) TA' GA h5 bA) (pv 3) (pv 2)) (pa_cons (pe_op (NeO.op_binR (op := .Add) NeO.int_add Ra GRa hr bRa) (pv 2) (pv 3)) (pa_cons (pe_op (NeO.op_binT (op := .Mult) TM GM h5 bM) (pv 3) (pv 2)) (pa_cons (pe_op (NeO.op_binR (op := .Mult) NeO.int_mul Rm GRm hr bRm) (pv 2) (pv 3)) pa_nil)))))))))
      (pss_cons (ps_expr (pe_bm PySem.F.plainAttrs_list PySem.F.slot_list_extend PySem.F.type_list_extend mt_extend (pv 8) (pa_cons (pe_lst (pa_cons (pe_op (NeO.op_binR (op := .Sub) NeO.int_sub Rs GRs hr bRs) (pv 2) (pv 3)) (pa_cons (pe_op (NeO.op_binT (op := .Sub) TS' GS h5 bS) (pv 3) (pv 2)) pa_nil))) pa_nil)))
      (pss_cons (ps_set (i := 9) sc_twoRt.nd rfl (Or.inl rfl) (pe_lst (pa_cons (pe_call G1 h2 rfl D1.g D1.F.kp D1.b .nil pass0 (pa_cons (pv 5) (pa_cons (pv 6) pa_nil))) (pa_cons (pe_call G2 h3 rfl D2.g D2.F.kp D2.b .nil pass0 (pa_cons (pv 5) (pa_cons (pv 6) pa_nil))) (pa_cons (pe_call G3 h2 rfl D3.g D3.F.kp D3.b .nil pass0 (pa_cons (pv 5) (pa_cons (pv 6) pa_nil)))
          (pa_cons (pe_call G1 h2 rfl D1.g D1.F.kp D1.b .nil pass0 (pa_cons (pv 5) (pa_cons (pv 7) pa_nil))) (pa_cons (pe_call G1 h2 rfl D1.g D1.F.kp D1.b .nil pass0 (pa_cons (pv 5) (pa_cons (pv 7) pa_nil))) pa_nil)))))))
      (pss_cons (ps_expr (pe_bm PySem.F.plainAttrs_list PySem.F.slot_list_extend PySem.F.type_list_extend mt_extend (pv 9) (pa_cons (pe_lst (pa_cons (pe_call G3 h2 rfl D3.g D3.F.kp D3.b .nil pass0 (pa_cons (pv 5) (pa_cons (pv 7) pa_nil))) (pa_cons (pe_call G3 h2 rfl D3.g D3.F.kp D3.b .nil pass0 (pa_cons (pv 5) (pa_cons (pv 7) pa_nil)))
          (pa_cons (pe_call G2 h3 rfl D2.g D2.F.kp D2.b .nil pass0 (pa_cons (pv 7) (pa_cons (pv 5) pa_nil))) (pa_cons (pe_call G2 h3 rfl D2.g D2.F.kp D2.b .nil pass0 (pa_cons (pv 5) (pa_cons (pv 7) pa_nil))) pa_nil))))) pa_nil)))
      (pss_cons (ps_if (pt_cmpR (op_neD hr.units) (pe_call G5 h4 rfl D5.g D5.F.kp D5.b .nil pass0 (pa_cons (pv 8) pa_nil)) (pv 9) (nomark _)) (pss_one (ps_ret pe_bl)) pss_nil)
      (C8.pss_cut (ps_if (PW.pt (pw_and (pt_cmpR op_ne (pe_ix ix_tup (pv 6) pe_int (fun _ _ => rfl)) pe_int (nomark _))
          (pw_and1 (pt_cmpR (op_neD hr.units) (pe_lst (pa_cons (pe_call GP h3 rfl DP.g DP.F.kp DP.b .nil pass0 (pa_cons (pe_meth (pv 3) M.c.cl mO GO h5 bO .nil pass0 (pa_cons (pv 4) pa_nil)) pa_nil)) (pa_cons (pe_call GP h3 rfl DP.g DP.F.kp DP.b .nil pass0 (pa_cons (NeO.pe_methK (pv 3) M.c.cl mO GO h5 kO (pk_cons (pv 4) pk_nil)) pa_nil)) pa_nil)))
            (pe_op op_rep (pe_lst (pa_cons (pe_call G4 h2 rfl D4.g D4.F.kp D4.b .nil pass0 (pa_cons (pv 5) (pa_cons (pv 6) pa_nil))) pa_nil)) pe_int) (nomark _))))) (pss_one (ps_ret pe_bl)) pss_nil)
      (C8.pss_cut (ps_if (PW.pt (pw_and (pt_cmpR op_ne (pv 2) pe_int (nomark _)) (pw_and1 (pt_cmpR (op_neD hr.units) (pe_call GP h3 rfl DP.g DP.F.kp DP.b .nil pass0 (pa_cons (pe_meth (pv 3) M.c.cl mO GO h5 bO .nil pass0 (pa_cons (pv 2) pa_nil)) pa_nil)) (pe_call G4 h2 rfl D4.g D4.F.kp D4.b .nil pass0 (pa_cons (pv 5) (pa_cons (pv 7) pa_nil))) (nomark _))))) (pss_one (ps_ret pe_bl)) pss_nil)
      (pss_cons (ps_set (i := 10) sc_twoRt.nd rfl (Or.inl rfl) (pe_cmpR op_lt (pe_op op_mulW (pe_ix ix_tup (pv 5) pe_int (fun _ _ => rfl)) (pe_ix ix_tup (pv 6) pe_int (fun _ _ => rfl))) (pe_op op_mulW (pe_ix ix_tup (pv 6) pe_int (fun _ _ => rfl)) (pe_ix ix_tup (pv 5) pe_int (fun _ _ => rfl))) (nomark _)))
      (pss_cons (ps_set (i := 8) sc_twoRt.nd rfl (Or.inl rfl) (pe_lst (pa_cons (pe_meth (pv 3) M.c.cl mB GB hr bB .nil pass0 (pa_cons (pv 4) pa_nil)) (pa_cons (pe_meth (pv 4) M.c.cl mB GB hr bB .nil pass0 (pa_cons (pv 3) pa_nil)) (pa_cons (pe_meth (pv 3) M.c.cl mN GN hr bN .nil pass0 (pa_cons (pv 4) pa_nil))
          (pa_cons (pe_cmpR (NeO.op_eqI e1 e2 GE h1 bE) (pv 3) (pv 4) (nomark _)) (pa_cons (pe_cmpR (NeO.op_neI NE GE h2 bE) (pv 3) (pv 4) (nomark _)) pa_nil)))))))
      (pss_cons (ps_set (i := 11) sc_twoRt.nd rfl (Or.inl rfl) (pe_cmpR op_gt (pe_op op_mulW (pe_ix ix_tup (pv 5) pe_int (fun _ _ => rfl)) (pe_ix ix_tup (pv 6) pe_int (fun _ _ => rfl))) (pe_op op_mulW (pe_ix ix_tup (pv 6) pe_int (fun _ _ => rfl)) (pe_ix ix_tup (pv 5) pe_int (fun _ _ => rfl))) (nomark _)))
      (pss_cons (ps_if (pt_cmpR (op_neD hr.units) (pv 8) (pe_lst (pa_cons (pv 10) (pa_cons (pv 11) (pa_cons (pe_not (pv 11)) (pa_cons (pe_cmpR (op_eqD hr.units) (pv 5) (pv 6) (nomark _)) (pa_cons (pe_cmpR (op_neD hr.units) (pv 5) (pv 6) (nomark _)) pa_nil)))))) (nomark _)) (pss_one (ps_ret pe_bl)) pss_nil)
      (pss_cons (ps_set (i := 8) sc_twoRt.nd rfl (Or.inl rfl) (pe_lst (pa_cons (pe_meth (pv 3) M.c.cl mB GB hr bB .nil pass0 (pa_cons (pv 2) pa_nil)) (pa_cons (pe_meth (pv 3) M.c.cl mN GN hr bN .nil pass0 (pa_cons (pv 2) pa_nil))
          (pa_cons (pe_cmpR (NeO.op_eqV e1 e2 GV h1 bE) (pv 3) (pv 2) (nomark _)) (pa_cons (pe_cmpR (NeO.op_eqR e1 e2 e3 GV h1 bE) (pv 2) (pv 3) (nomark _)) pa_nil))))))
      (pss_one (ps_ret (pe_cmpR (op_eqD hr.units) (pv 8) (pe_lst (pa_cons (pe_cmpR op_lt (pe_ix ix_tup (pv 5) pe_int (fun _ _ => rfl)) (pe_op op_mulW (pv 2) (pe_ix ix_tup (pv 5) pe_int (fun _ _ => rfl))) (nomark _)) (pa_cons (pe_cmpR op_le (pe_ix ix_tup (pv 5) pe_int (fun _ _ => rfl)) (pe_op op_mulW (pv 2) (pe_ix ix_tup (pv 5) pe_int (fun _ _ => rfl))) (nomark _)) (pa_cons pe_bl (pa_cons pe_bl pa_nil))))) (nomark _))))))))))))))))), ?_⟩
    have fu := raw_fine rx
    have fv := raw_fine ry
    have blx : x.2.natAbs.log2 < 9000 := Nat.lt_of_lt_of_le (log_of rx.bot (by decide)) (by decide)
    have bly : y.2.natAbs.log2 < 9000 := Nat.lt_of_lt_of_le (log_of ry.bot (by decide)) (by decide)
    generalize hX : lowQ x.1 x.2 = u at fu
    generalize hY : lowQ y.1 y.2 = v at fv
    have fn := fine_int hn
    have su := fine_small fu
    have sv := fine_small fv
    have sn := fine_small fn
    -- made and mate
    refine ⟨_, rfl, p, _, _, _, rfl, rfl, hp, at_i0, _, rfl, p, _, _, _, rfl, rfl, hp, at_i1, fun m dx nx ndx nex => mk_ratio rx.ne blx nx ndx fun H1 s1 hm => ⟨rfl, ?_⟩⟩
    have hp1 := pair_sR hp s1
    have hr1 := pair_sR hr' s1
    refine ⟨_, rfl, r, _, _, _, rfl, rfl, hr1, at_i0, _, rfl, r, _, _, _, rfl, rfl, hr1, at_i1, fun m2 dx2 nx2 ndx2 nex2 => mk_ratio ry.ne bly nx2 ndx2 fun H2 s2 hm2 => ⟨rfl, _, _, rfl, ?_⟩⟩
    have hp2 := pair_sR hp1 s2
    have hr2 := pair_sR hr1 s2
    have hm' := rat_s hm s2
    have s02 := s1.trans s2
    clear hm s1 s2 hp1 hr1 nx ndx nex nx2 ndx2 nex2 hp hr'
    -- the law's own
    refine ⟨_, rfl, p, _, _, _, rfl, rfl, hp2, at_i0, _, rfl, p, _, _, _, rfl, rfl, hp2, at_i1, x.1, x.2, rfl, rx.ne, blx, fun H3 t s3 _ ht => ?_⟩
    have hr3 := pair_sR hr2 s3
    refine ⟨_, rfl, r, _, _, _, rfl, rfl, hr3, at_i0, _, rfl, r, _, _, _, rfl, rfl, hr3, at_i1, y.1, y.2, rfl, ry.ne, bly, fun H4 t2 s4 _ ht2 => ?_⟩
    refine ⟨_, rfl, szle (by show 2 ≤ 100000; decide), fun t3 ht3 => ⟨_, _, _, rfl, ?_⟩⟩
    have s5 := same_new (o := .tup [V.int n, V.int 1]) ht3
    rw [hX] at hm' ht
    rw [hY] at hm2 ht2
    have s25 := (s3.trans s4).trans s5
    have W : TwoF K C (upd H4 t3 (.tup [V.int n, V.int 1])) m m2 t t2 t3 u v n := ⟨rat_s hm' s25, rat_s hm2 s25, pair_sR ht (s4.trans s5), pair_sR ht2 s5, st_of upd_same⟩
    have s05 := s02.trans s25
    generalize upd H4 t3 (.tup [V.int n, V.int 1]) = H5 at W s05
    clear s25 s5 s4 s3 s02 hm' hm2 ht ht2 ht3 hp2 hr2 hr3
    -- seven
    refine ⟨_, rfl, _, rfl, binI_r W.made W.mate su sv fun G1 r1 z1 k1 => ?_⟩
    have W1 := W.s z1
    refine ⟨_, rfl, _, rfl, binI_r W1.made W1.mate su sv fun G2 r2 z2 k2 => ?_⟩
    have W2 := W1.s z2
    refine ⟨_, rfl, _, rfl, binI_r W2.made W2.mate su sv fun G3 r3 z3 k3 => ?_⟩
    have W3 := W2.s z3
    refine ⟨_, rfl, _, rfl, binT_r W3.made su sn fun G4 r4 z4 k4 => ?_⟩
    have W4 := W3.s z4
    refine ⟨_, rfl, _, rfl, binR_r W4.made su sn fun G5 r5 z5 k5 => ?_⟩
    have W5 := W4.s z5
    refine ⟨_, rfl, _, rfl, binT_r W5.made su sn fun G6 r6 z6 k6 => ?_⟩
    have W6 := W5.s z6
    refine ⟨_, rfl, _, rfl, binR_r W6.made su sn fun G7 r7 z7 k7 => ?_⟩
    have W7 := W6.s z7
    refine ⟨szle (by show 7 ≤ 100000; decide), fun l hl => ?_⟩
    have z07 := s05.trans ((((((z1.trans z2).trans z3).trans z4).trans z5).trans z6).trans z7)
    have s8 := same_new (o := .lst [V.ref r1, .ref r2, .ref r3, .ref r4, .ref r5, .ref r6, .ref r7]) hl
    have R8 : RatsP C (upd G7 l (.lst [V.ref r1, .ref r2, .ref r3, .ref r4, .ref r5, .ref r6, .ref r7])) [V.ref r1, .ref r2, .ref r3, .ref r4, .ref r5, .ref r6, .ref r7] [addQ u v, subQ u v, mulQ u v, addQ u (n, 1), addQ (n, 1) u, mulQ u (n, 1), mulQ (n, 1) u] :=
      ⟨⟨_, rfl, rat_s k1 ((((((z2.trans z3).trans z4).trans z5).trans z6).trans z7).trans s8)⟩, ⟨_, rfl, rat_s k2 (((((z3.trans z4).trans z5).trans z6).trans z7).trans s8)⟩, ⟨_, rfl, rat_s k3 ((((z4.trans z5).trans z6).trans z7).trans s8)⟩,
        ⟨_, rfl, rat_s k4 (((z5.trans z6).trans z7).trans s8)⟩, ⟨_, rfl, rat_s k5 ((z6.trans z7).trans s8)⟩, ⟨_, rfl, rat_s k6 (z7.trans s8)⟩, ⟨_, rfl, rat_s k7 s8⟩, trivial⟩
    have W8 := W7.s s8
    have h8 : upd G7 l (.lst [V.ref r1, .ref r2, .ref r3, .ref r4, .ref r5, .ref r6, .ref r7]) l = some (.lst [V.ref r1, .ref r2, .ref r3, .ref r4, .ref r5, .ref r6, .ref r7]) := upd_same
    have s08 := z07.trans s8
    have l0 := z07.free hl
    generalize upd G7 l (.lst [V.ref r1, .ref r2, .ref r3, .ref r4, .ref r5, .ref r6, .ref r7]) = G8 at R8 W8 h8 s08
    clear k1 k2 k3 k4 k5 k6 k7 W1 W2 W3 W4 W5 W6 W7 z1 z2 z3 z4 z5 z6 z7 s8 hl W s05 z07
    -- two more
    refine ⟨_, rfl, .inl ⟨rfl, _, sl_of h8⟩, ?_⟩
    refine ⟨_, rfl, _, rfl, binR_r W8.made su sn fun G9 r8 z9 k8 => ?_⟩
    have W9 := W8.s z9
    refine ⟨_, rfl, _, rfl, binT_r W9.made su sn fun Ga r9 za k9 => ?_⟩
    have Wa := W9.s za
    refine ⟨szle (by show 2 ≤ 100000; decide), fun l2 hl2 => ?_⟩
    have zb := same_new (o := .lst [V.ref r8, .ref r9]) hl2
    have z8b := (z9.trans za).trans zb
    have hb1 := z8b _ _ h8
    have n2 : l2 ≠ l := fun e => by rw [e, (z9.trans za) _ _ h8] at hl2; cases hl2
    refine ⟨l, l2, _, _, rfl, rfl, hb1, upd_same, szle (by show 9 ≤ 100000; decide), ?_⟩
    have R9 : RatsP C (upd Ga l2 (.lst [V.ref r8, .ref r9])) [V.ref r8, .ref r9] [subQ (n, 1) u, subQ u (n, 1)] := ⟨⟨_, rfl, rat_s k8 (za.trans zb)⟩, ⟨_, rfl, rat_s k9 zb⟩, trivial⟩
    have Rb := rats_but hb1 (smx_upd (o := .lst ([V.ref r1, .ref r2, .ref r3, .ref r4, .ref r5, .ref r6, .ref r7] ++ [V.ref r8, .ref r9]))) (rats_app (rats_s z8b R8) R9)
    have Wb := (Wa.s zb).but hb1 (smx_upd (o := .lst ([V.ref r1, .ref r2, .ref r3, .ref r4, .ref r5, .ref r6, .ref r7] ++ [V.ref r8, .ref r9])))
    have hb : upd (upd Ga l2 (.lst [V.ref r8, .ref r9])) l (.lst ([V.ref r1, .ref r2, .ref r3, .ref r4, .ref r5, .ref r6, .ref r7] ++ [V.ref r8, .ref r9])) l = some (.lst ([V.ref r1, .ref r2, .ref r3, .ref r4, .ref r5, .ref r6, .ref r7] ++ [V.ref r8, .ref r9])) := upd_same
    have sb : Same H _ := same_mut (o := .lst ([V.ref r1, .ref r2, .ref r3, .ref r4, .ref r5, .ref r6, .ref r7] ++ [V.ref r8, .ref r9])) (s08.trans z8b) l0
    generalize upd (upd Ga l2 (.lst [V.ref r8, .ref r9])) l (.lst ([V.ref r1, .ref r2, .ref r3, .ref r4, .ref r5, .ref r6, .ref r7] ++ [V.ref r8, .ref r9])) = Gb at Rb Wb hb sb
    have few : ([V.ref r1, .ref r2, .ref r3, .ref r4, .ref r5, .ref r6, .ref r7] ++ [V.ref r8, .ref r9]).length = 9 := rfl
    generalize [V.ref r1, .ref r2, .ref r3, .ref r4, .ref r5, .ref r6, .ref r7] ++ [V.ref r8, .ref r9] = tl at Rb hb few
    clear R9 k8 k9 W8 W9 Wa z9 za zb z8b hb1 n2 hl2 R8 h8 s08
    -- five due
    refine ⟨_, rfl, _, rfl, t, t2, u, v, rfl, Wb.one, Wb.two, su, sv, fun G1 r1 z1 _ k1 => ?_⟩
    have W1 := Wb.s z1
    refine ⟨_, rfl, _, rfl, t, t2, u, v, rfl, W1.one, W1.two, su, sv, fun G2 r2 z2 _ k2 => ?_⟩
    have W2 := W1.s z2
    refine ⟨_, rfl, _, rfl, t, t2, u, v, rfl, W2.one, W2.two, su, sv, fun G3 r3 z3 _ k3 => ?_⟩
    have W3 := W2.s z3
    refine ⟨_, rfl, _, rfl, t, t3, u, (n, 1), rfl, W3.one, W3.whole, su, sn, fun G4 r4 z4 _ k4 => ?_⟩
    have W4 := W3.s z4
    refine ⟨_, rfl, _, rfl, t, t3, u, (n, 1), rfl, W4.one, W4.whole, su, sn, fun G5 r5 z5 _ k5 => ?_⟩
    have W5 := W4.s z5
    refine ⟨szle (by show 5 ≤ 100000; decide), fun d hd => ?_⟩
    have z05 := (((z1.trans z2).trans z3).trans z4).trans z5
    have nld : l ≠ d := fun e => by rw [← e, z05 _ _ hb] at hd; cases hd
    have s6 := same_new (o := .lst [V.ref r1, .ref r2, .ref r3, .ref r4, .ref r5]) hd
    have P6 : PrsP K (upd G5 d (.lst [V.ref r1, .ref r2, .ref r3, .ref r4, .ref r5])) [V.ref r1, .ref r2, .ref r3, .ref r4, .ref r5] [addQ u v, subQ u v, mulQ u v, addQ u (n, 1), addQ u (n, 1)] :=
      ⟨⟨_, rfl, pair_sR k1 ((((z2.trans z3).trans z4).trans z5).trans s6)⟩, ⟨_, rfl, pair_sR k2 (((z3.trans z4).trans z5).trans s6)⟩, ⟨_, rfl, pair_sR k3 ((z4.trans z5).trans s6)⟩, ⟨_, rfl, pair_sR k4 (z5.trans s6)⟩, ⟨_, rfl, pair_sR k5 s6⟩, trivial⟩
    have W6 := W5.s s6
    have R6 := rats_s (z05.trans s6) Rb
    have l6 := (z05.trans s6) _ _ hb
    have h6' : upd G5 d (.lst [V.ref r1, .ref r2, .ref r3, .ref r4, .ref r5]) d = some (.lst [V.ref r1, .ref r2, .ref r3, .ref r4, .ref r5]) := upd_same
    have s06 := sb.trans (z05.trans s6)
    have d0 := (sb.trans z05).free hd
    generalize upd G5 d (.lst [V.ref r1, .ref r2, .ref r3, .ref r4, .ref r5]) = G6 at P6 W6 R6 l6 h6' s06
    clear k1 k2 k3 k4 k5 W1 W2 W3 W4 W5 z1 z2 z3 z4 z5 z05 s6 hd sb Rb Wb hb
    -- four due more
    refine ⟨_, rfl, .inl ⟨rfl, _, sl_of h6'⟩, ?_⟩
    refine ⟨_, rfl, _, rfl, t, t3, u, (n, 1), rfl, W6.one, W6.whole, su, sn, fun G1 r6 z1 _ k1 => ?_⟩
    have W1 := W6.s z1
    refine ⟨_, rfl, _, rfl, t, t3, u, (n, 1), rfl, W1.one, W1.whole, su, sn, fun G2 r7 z2 _ k2 => ?_⟩
    have W2 := W1.s z2
    refine ⟨_, rfl, _, rfl, t3, t, (n, 1), u, rfl, W2.whole, W2.one, sn, su, fun G3 r8 z3 _ k3 => ?_⟩
    have W3 := W2.s z3
    refine ⟨_, rfl, _, rfl, t, t3, u, (n, 1), rfl, W3.one, W3.whole, su, sn, fun G4 r9 z4 _ k4 => ?_⟩
    have W4 := W3.s z4
    refine ⟨szle (by show 4 ≤ 100000; decide), fun d2 hd2 => ?_⟩
    have zb := same_new (o := .lst [V.ref r6, .ref r7, .ref r8, .ref r9]) hd2
    have z04 := ((z1.trans z2).trans z3).trans z4
    have z8b := z04.trans zb
    have hb1 := z8b _ _ h6'
    refine ⟨d, d2, _, _, rfl, rfl, hb1, upd_same, szle (by show 9 ≤ 100000; decide), ?_⟩
    have P7 : PrsP K (upd G4 d2 (.lst [V.ref r6, .ref r7, .ref r8, .ref r9])) [V.ref r6, .ref r7, .ref r8, .ref r9] [mulQ u (n, 1), mulQ u (n, 1), subQ (n, 1) u, subQ u (n, 1)] :=
      ⟨⟨_, rfl, pair_sR k1 (((z2.trans z3).trans z4).trans zb)⟩, ⟨_, rfl, pair_sR k2 ((z3.trans z4).trans zb)⟩, ⟨_, rfl, pair_sR k3 (z4.trans zb)⟩, ⟨_, rfl, pair_sR k4 zb⟩, trivial⟩
    have Pb := prs_butR hb1 (smx_upd (o := .lst ([V.ref r1, .ref r2, .ref r3, .ref r4, .ref r5] ++ [V.ref r6, .ref r7, .ref r8, .ref r9]))) (prs_appR (prs_sR z8b P6) P7)
    have Rb := rats_but hb1 (smx_upd (o := .lst ([V.ref r1, .ref r2, .ref r3, .ref r4, .ref r5] ++ [V.ref r6, .ref r7, .ref r8, .ref r9]))) (rats_s z8b R6)
    have Wb := (W4.s zb).but hb1 (smx_upd (o := .lst ([V.ref r1, .ref r2, .ref r3, .ref r4, .ref r5] ++ [V.ref r6, .ref r7, .ref r8, .ref r9])))
    have hdb : upd (upd G4 d2 (.lst [V.ref r6, .ref r7, .ref r8, .ref r9])) d (.lst ([V.ref r1, .ref r2, .ref r3, .ref r4, .ref r5] ++ [V.ref r6, .ref r7, .ref r8, .ref r9])) d = some (.lst ([V.ref r1, .ref r2, .ref r3, .ref r4, .ref r5] ++ [V.ref r6, .ref r7, .ref r8, .ref r9])) := upd_same
    have hlb : upd (upd G4 d2 (.lst [V.ref r6, .ref r7, .ref r8, .ref r9])) d (.lst ([V.ref r1, .ref r2, .ref r3, .ref r4, .ref r5] ++ [V.ref r6, .ref r7, .ref r8, .ref r9])) l = some (.lst tl) := by rw [upd_ne nld]; exact z8b _ _ l6
    have sb : Same H _ := same_mut (o := .lst ([V.ref r1, .ref r2, .ref r3, .ref r4, .ref r5] ++ [V.ref r6, .ref r7, .ref r8, .ref r9])) (s06.trans z8b) d0
    generalize upd (upd G4 d2 (.lst [V.ref r6, .ref r7, .ref r8, .ref r9])) d (.lst ([V.ref r1, .ref r2, .ref r3, .ref r4, .ref r5] ++ [V.ref r6, .ref r7, .ref r8, .ref r9])) = Gb at Pb Rb Wb hdb hlb sb
    generalize [V.ref r1, .ref r2, .ref r3, .ref r4, .ref r5] ++ [V.ref r6, .ref r7, .ref r8, .ref r9] = dl at Pb hdb
    clear P7 k1 k2 k3 k4 W1 W2 W3 W4 W6 z1 z2 z3 z4 zb z04 z8b hb1 hd2 P6 R6 h6' l6 s06
    -- compared
    refine ⟨_, rfl, l, tl, _, rfl, hlb, (rats_at Rb).1, by omega, (rats_at Rb).2, fun G1 z z1 _ hz => ⟨_, rfl, _, _, hz, .lst (sl_of (z1 _ _ hdb)) (prs_dps (prs_sR z1 Pb)), rfl, rfl, ?_⟩⟩
    have key : [addQ u v, subQ u v, mulQ u v, addQ u (n, 1), addQ (n, 1) u, mulQ u (n, 1), mulQ (n, 1) u] ++ [subQ (n, 1) u, subQ u (n, 1)] = [addQ u v, subQ u v, mulQ u v, addQ u (n, 1), addQ u (n, 1)] ++ [mulQ u (n, 1), mulQ u (n, 1), subQ (n, 1) u, subQ u (n, 1)] := by
      rw [add_comQ (n, 1) u, mul_comQ (n, 1) u]
      rfl
    rw [eqv_prs, decide_eq_true key]
    refine ⟨_, rfl, iteF ?_⟩
    have Wc := Wb.s z1
    have sc := sb.trans z1
    clear Pb Rb Wb hdb hlb sb hz few z1
    -- over, two ways
    refine ⟨fun σ' H' => σ' = [some (V.ref p), some (.ref r), some (.int n), some (.ref m), some (.ref m2), some (.ref t), some (.ref t2), some (.ref t3), some (.ref l), some (.ref d), none, none] ∧ TwoF K C H' m m2 t t2 t3 u v n ∧ Same H H', ?_, ?_⟩
    · have fin : ∀ G, Same G1 G → (fun σ' H' => σ' = [some (V.ref p), some (.ref r), some (.int n), some (.ref m), some (.ref m2), some (.ref t), some (.ref t2), some (.ref t3), some (.ref l), some (.ref d), none, none] ∧ TwoF K C H' m m2 t t2 t3 u v n ∧ Same H H') [some (V.ref p), some (.ref r), some (.int n), some (.ref m), some (.ref m2), some (.ref t), some (.ref t2), some (.ref t3), some (.ref l), some (.ref d), none, none] G :=
        fun G e => ⟨rfl, Wc.s e, sc.trans e⟩
      generalize (fun (σ' : L2.St) (H' : Hp) => σ' = [some (V.ref p), some (.ref r), some (.int n), some (.ref m), some (.ref m2), some (.ref t), some (.ref t2), some (.ref t3), some (.ref l), some (.ref d), none, none] ∧ TwoF K C H' m m2 t t2 t3 u v n ∧ Same H H') = Mid at fin
      refine ⟨_, rfl, t2, _, _, _, rfl, rfl, Wc.two, at_i0, rfl, _, rfl, ?_⟩
      by_cases c : v.1 = 0
      · rw [show (!decide (V.int v.1 = V.int 0)) = false by rw [c]; rfl]
        exact iteF (fin _ fun _ _ e => e)
      rw [show (!decide (V.int v.1 = V.int 0)) = true by rw [decide_eq_false (fun e => c (V.int.inj e))]; rfl]
      refine iteT ?_
      obtain ⟨dm, hmi⟩ := id Wc.made
      refine ⟨_, rfl, m, dm, _, rfl, hmi, rf_no _ _ (by decide +kernel) (by decide +kernel), _, rfl, m, .ref m2, u, v, rfl, Wc.made, .inl ⟨m2, rfl, Wc.mate⟩, su, sv, c, fine_top fv, fun G2 o1 z1 k1 => ?_⟩
      refine ⟨o1, _, rfl, k1, fun G3 t4 z2 _ k2 => ?_⟩
      have Wd := Wc.s (z1.trans z2)
      obtain ⟨dm', hmi'⟩ := id Wd.made
      refine ⟨_, rfl, m, dm', _, rfl, hmi', rf_no _ _ (by decide +kernel) (by decide +kernel), _, rfl, rfl, m, .ref m2, u, v, rfl, Wd.made, .inl ⟨m2, rfl, Wd.mate⟩, su, sv, c, fine_top fv, fun G4 o2 z3 k3 => ?_⟩
      refine ⟨o2, _, rfl, k3, fun G5 t5 z4 _ k4 => ⟨szle (by show 2 ≤ 100000; decide), fun q1 hq1 => ?_⟩⟩
      have z5 := same_new (o := .lst [V.ref t4, .ref t5]) hq1
      have We := Wd.s ((z3.trans z4).trans z5)
      refine ⟨_, rfl, _, rfl, t, t2, u, v, rfl, We.one, We.two, su, sv, c, fine_top fv, fun G6 t6 z6 _ k6 => ⟨szle (by show 1 ≤ 100000; decide), fun q2 hq2 => ?_⟩⟩
      have z7 := same_new (o := .lst [V.ref t6]) hq2
      refine ⟨q2, 2, [V.ref t6], rfl, rfl, upd_same, by decide, by decide, szle (by show 2 ≤ 100000; decide), fun q3 hq3 => ?_⟩
      have z8 := same_new (o := .lst [V.ref t6, .ref t6]) hq3
      have z78 := z7.trans z8
      have z68 := z6.trans z78
      have z58 := z5.trans z68
      have l1 : SqL K (upd (upd G6 q2 (.lst [V.ref t6])) q3 (.lst [V.ref t6, .ref t6])) q1 [V.ref t4, .ref t5] := sl_of (z68 _ _ upd_same)
      have l2' : SqL K (upd (upd G6 q2 (.lst [V.ref t6])) q3 (.lst [V.ref t6, .ref t6])) q3 [V.ref t6, .ref t6] := sl_of upd_same
      refine ⟨.list [dP (overQ u v), dP (overQ u v)], .list [dP (overQ u v), dP (overQ u v)], .lst l1 (.cons (dP_mk (pair_sR k2 ((z3.trans z4).trans z58))) (.cons (dP_mk (pair_sR k4 z58)) .nil)), .lst l2' (.cons (dP_mk (pair_sR k6 z78)) (.cons (dP_mk (pair_sR k6 z78)) .nil)), rfl, rfl, ?_⟩
      rw [show PyData.eqv (.list [dP (overQ u v), dP (overQ u v)]) (.list [dP (overQ u v), dP (overQ u v)]) = true from (eqv_prs (ps := [overQ u v, overQ u v]) (qs := [overQ u v, overQ u v])).trans (decide_eq_true rfl)]
      exact ⟨_, rfl, iteF (fin _ (((z1.trans z2).trans (z3.trans z4)).trans z58))⟩
    rintro _ G2 ⟨rfl, Wd, sd⟩
    clear Wc sc
    -- over a number
    refine ⟨fun σ' H' => σ' = [some (V.ref p), some (.ref r), some (.int n), some (.ref m), some (.ref m2), some (.ref t), some (.ref t2), some (.ref t3), some (.ref l), some (.ref d), none, none] ∧ TwoF K C H' m m2 t t2 t3 u v n ∧ Same H H', ?_, ?_⟩
    · have fin : ∀ G, Same G2 G → (fun σ' H' => σ' = [some (V.ref p), some (.ref r), some (.int n), some (.ref m), some (.ref m2), some (.ref t), some (.ref t2), some (.ref t3), some (.ref l), some (.ref d), none, none] ∧ TwoF K C H' m m2 t t2 t3 u v n ∧ Same H H') [some (V.ref p), some (.ref r), some (.int n), some (.ref m), some (.ref m2), some (.ref t), some (.ref t2), some (.ref t3), some (.ref l), some (.ref d), none, none] G :=
        fun G e => ⟨rfl, Wd.s e, sd.trans e⟩
      generalize (fun (σ' : L2.St) (H' : Hp) => σ' = [some (V.ref p), some (.ref r), some (.int n), some (.ref m), some (.ref m2), some (.ref t), some (.ref t2), some (.ref t3), some (.ref l), some (.ref d), none, none] ∧ TwoF K C H' m m2 t t2 t3 u v n ∧ Same H H') = Mid at fin
      refine ⟨_, rfl, rfl, _, rfl, ?_⟩
      by_cases c : n = 0
      · rw [show (!decide (V.int n = V.int 0)) = false by rw [c]; rfl]
        exact iteF (fin _ fun _ _ e => e)
      rw [show (!decide (V.int n = V.int 0)) = true by rw [decide_eq_false (fun e => c (V.int.inj e))]; rfl]
      refine iteT ?_
      obtain ⟨dm, hmi⟩ := id Wd.made
      refine ⟨_, rfl, m, dm, _, rfl, hmi, rf_no _ _ (by decide +kernel) (by decide +kernel), _, rfl, m, .int n, u, (n, 1), rfl, Wd.made, .inr ⟨n, rfl, rfl⟩, su, sn, c, fine_top fn, fun G3 o1 z1 k1 => ?_⟩
      refine ⟨o1, _, rfl, k1, fun G4 t4 z2 _ k2 => ?_⟩
      have We := Wd.s (z1.trans z2)
      refine ⟨_, rfl, _, rfl, t, t3, u, (n, 1), rfl, We.one, We.whole, su, sn, c, fine_top fn, fun G5 t5 z3 _ k3 => ?_⟩
      refine ⟨dP (overQ u (n, 1)), dP (overQ u (n, 1)), dP_mk (pair_sR k2 z3), dP_mk k3, shaped_pair _, shaped_pair _, ?_⟩
      rw [eqv_dPq, decide_eq_true rfl]
      exact ⟨_, rfl, iteF (fin _ ((z1.trans z2).trans z3))⟩
    rintro _ G3 ⟨rfl, We, se⟩
    clear Wd sd
    have b1 := su.top
    have b2 := su.bot
    have b3 := sv.top
    have b4 := sv.bot
    have b5 : n.natAbs.log2 < 100000 := sn.top
    have b6 := sn.bot
    -- below
    refine ⟨_, rfl, t, _, _, _, rfl, rfl, We.one, at_i0, _, rfl, t2, _, _, _, rfl, rfl, We.two, at_i1, _, _, rfl, rfl, (by unfold CMulW; omega), ?_⟩
    refine ⟨_, rfl, t2, _, _, _, rfl, rfl, We.two, at_i0, _, rfl, t, _, _, _, rfl, rfl, We.one, at_i1, _, _, rfl, rfl, (by unfold CMulW; omega), _, _, rfl, rfl, ?_⟩
    -- five told
    obtain ⟨da, hma⟩ := id We.made
    refine ⟨_, rfl, m, da, _, rfl, hma, rf_no _ _ (by decide +kernel) (by decide +kernel), _, rfl, m, .ref m2, u, v, rfl, We.made, .inl ⟨m2, rfl, We.mate⟩, su, sv, fun G4 z1 => ?_⟩
    have W1 := We.s z1
    obtain ⟨db, hmb⟩ := id W1.mate
    refine ⟨_, rfl, m2, db, _, rfl, hmb, rf_no _ _ (by decide +kernel) (by decide +kernel), _, rfl, m2, .ref m, v, u, rfl, W1.mate, .inl ⟨m, rfl, W1.made⟩, sv, su, fun G5 z2 => ?_⟩
    have W2 := W1.s z2
    obtain ⟨dc, hmc⟩ := id W2.made
    refine ⟨_, rfl, m, dc, _, rfl, hmc, rf_no _ _ (by decide +kernel) (by decide +kernel), _, rfl, m, .ref m2, u, v, rfl, W2.made, .inl ⟨m2, rfl, W2.mate⟩, su, sv, fun G6 z3 => ?_⟩
    have W3 := W2.s z3
    obtain ⟨dd, hmd⟩ := id W3.made
    obtain ⟨de, hme⟩ := id W3.mate
    refine ⟨_, rfl, _, rfl, m, m2, dd, de, _, _, rfl, rfl, hmd, hme, m, m2, u, v, rfl, W3.made, W3.mate, _, rfl, ?_⟩
    refine ⟨_, rfl, _, rfl, m, m2, dd, de, _, _, rfl, rfl, hmd, hme, m, m2, u, v, rfl, W3.made, W3.mate, _, rfl, ?_⟩
    refine ⟨szle (by show 5 ≤ 100000; decide), fun q1 hq1 => ?_⟩
    have c1 : (fun i : Int => decide (i < 0)) (sgnQ (subQ u v).1) = decide (u.1 * v.2 < v.1 * u.2) := decide_eq_decide.mpr (sub_sgn su.pos sv.pos).1
    have c2 : (fun i : Int => decide (i < 0)) (sgnQ (subQ v u).1) = decide (v.1 * u.2 < u.1 * v.2) := decide_eq_decide.mpr (sub_sgn sv.pos su.pos).1
    have c3 : (fun i : Int => decide (i ≤ 0)) (sgnQ (subQ u v).1) = !decide (v.1 * u.2 < u.1 * v.2) := by
      rw [← decide_not]
      exact decide_eq_decide.mpr ((sub_sgn su.pos sv.pos).2.trans ⟨fun h => Int.not_lt.mpr h, fun h => Int.not_lt.mp h⟩)
    have s7 : Same G6 _ := same_new (o := .lst [V.bl ((fun i : Int => decide (i < 0)) (sgnQ (subQ u v).1)), .bl ((fun i : Int => decide (i < 0)) (sgnQ (subQ v u).1)), .bl ((fun i : Int => decide (i ≤ 0)) (sgnQ (subQ u v).1)), .bl (decide (u = v)), .bl (!decide (u = v))]) hq1
    have l7 : upd G6 q1 (.lst [V.bl ((fun i : Int => decide (i < 0)) (sgnQ (subQ u v).1)), .bl ((fun i : Int => decide (i < 0)) (sgnQ (subQ v u).1)), .bl ((fun i : Int => decide (i ≤ 0)) (sgnQ (subQ u v).1)), .bl (decide (u = v)), .bl (!decide (u = v))]) q1 =
        some (.lst [V.bl (decide (u.1 * v.2 < v.1 * u.2)), .bl (decide (v.1 * u.2 < u.1 * v.2)), .bl (!decide (v.1 * u.2 < u.1 * v.2)), .bl (decide (u = v)), .bl (!decide (u = v))]) := by
      rw [c1, c2, c3]
      exact upd_same
    have W7 := W3.s s7
    have sg := se.trans (((z1.trans z2).trans z3).trans s7)
    generalize upd G6 q1 _ = G7 at s7 l7 W7 sg
    clear s7 W1 W2 W3 We z1 z2 z3 hq1 hma hmb hmc hmd hme c1 c2 c3
    -- above
    refine ⟨_, rfl, t, _, _, _, rfl, rfl, W7.one, at_i0, _, rfl, t2, _, _, _, rfl, rfl, W7.two, at_i1, _, _, rfl, rfl, (by unfold CMulW; omega), ?_⟩
    refine ⟨_, rfl, t2, _, _, _, rfl, rfl, W7.two, at_i0, _, rfl, t, _, _, _, rfl, rfl, W7.one, at_i1, _, _, rfl, rfl, (by unfold CMulW; omega), _, _, rfl, rfl, ?_⟩
    refine ⟨_, rfl, _, rfl, _, rfl, _, rfl, _, rfl, ?_⟩
    refine ⟨_, rfl, _, rfl, dP u, dP v, dP_mk W7.one, dP_mk W7.two, shaped_pair _, shaped_pair _, _, rfl, _, rfl, dP u, dP v, dP_mk W7.one, dP_mk W7.two, shaped_pair _, shaped_pair _, ?_⟩
    refine ⟨szle (by show 5 ≤ 100000; decide), fun q2 hq2 => ?_⟩
    rw [eqv_dPq]
    have z8 : Same G7 _ := same_new (o := .lst [V.bl (decide (u.1 * v.2 < v.1 * u.2)), .bl (decide (v.1 * u.2 < u.1 * v.2)), .bl (!decide (v.1 * u.2 < u.1 * v.2)), .bl (decide (u = v)), .bl (!decide (u = v))]) hq2
    refine ⟨.list [.bool (decide (u.1 * v.2 < v.1 * u.2)), .bool (decide (v.1 * u.2 < u.1 * v.2)), .bool (!decide (v.1 * u.2 < u.1 * v.2)), .bool (decide (u = v)), .bool (!decide (u = v))], .list [.bool (decide (u.1 * v.2 < v.1 * u.2)), .bool (decide (v.1 * u.2 < u.1 * v.2)), .bool (!decide (v.1 * u.2 < u.1 * v.2)), .bool (decide (u = v)), .bool (!decide (u = v))],
      .lst (sl_of (z8 _ _ l7)) (.cons (.bl _) (.cons (.bl _) (.cons (.bl _) (.cons (.bl _) (.cons (.bl _) .nil))))), .lst (sl_of upd_same) (.cons (.bl _) (.cons (.bl _) (.cons (.bl _) (.cons (.bl _) (.cons (.bl _) .nil))))), rfl, rfl, ?_⟩
    rw [five_eqv]
    refine ⟨_, rfl, iteF ?_⟩
    have W8 := W7.s z8
    have s8 := sg.trans z8
    generalize upd G7 q2 _ = G8 at W8 s8
    clear W7 sg z8 hq2 l7
    -- with the number
    obtain ⟨da, hma⟩ := id W8.made
    refine ⟨_, rfl, m, da, _, rfl, hma, rf_no _ _ (by decide +kernel) (by decide +kernel), _, rfl, m, .int n, u, (n, 1), rfl, W8.made, .inr ⟨n, rfl, rfl⟩, su, sn, fun G9 z1 => ?_⟩
    have W1 := W8.s z1
    obtain ⟨db, hmb⟩ := id W1.made
    refine ⟨_, rfl, m, db, _, rfl, hmb, rf_no _ _ (by decide +kernel) (by decide +kernel), _, rfl, m, .int n, u, (n, 1), rfl, W1.made, .inr ⟨n, rfl, rfl⟩, su, sn, fun Ga z2 => ?_⟩
    have W2 := W1.s z2
    obtain ⟨dc, hmc⟩ := id W2.made
    refine ⟨_, rfl, _, rfl, m, dc, _, _, rfl, hmc, .base (.int _), e4, m, .int n, u, rfl, W2.made, .inr ⟨⟨n, rfl⟩, _, rfl, ?_⟩⟩
    refine ⟨_, rfl, _, rfl, m, dc, _, n, rfl, rfl, hmc, m, .int n, u, rfl, W2.made, .inr ⟨⟨n, rfl⟩, _, rfl, ?_⟩⟩
    refine ⟨szle (by show 4 ≤ 100000; decide), fun q1 hq1 => ?_⟩
    have c1 : (fun i : Int => decide (i < 0)) (sgnQ (subQ u (n, 1)).1) = decide (u.1 < n * u.2) := by
      refine decide_eq_decide.mpr ((sub_sgn su.pos sn.pos).1.trans ?_)
      rw [Int.mul_one]
    have c2 : (fun i : Int => decide (i ≤ 0)) (sgnQ (subQ u (n, 1)).1) = decide (u.1 ≤ n * u.2) := by
      refine decide_eq_decide.mpr ((sub_sgn su.pos sn.pos).2.trans ?_)
      rw [Int.mul_one]
    have s3 : Same Ga _ := same_new (o := .lst [V.bl ((fun i : Int => decide (i < 0)) (sgnQ (subQ u (n, 1)).1)), .bl ((fun i : Int => decide (i ≤ 0)) (sgnQ (subQ u (n, 1)).1)), .bl false, .bl false]) hq1
    have l3 : upd Ga q1 (.lst [V.bl ((fun i : Int => decide (i < 0)) (sgnQ (subQ u (n, 1)).1)), .bl ((fun i : Int => decide (i ≤ 0)) (sgnQ (subQ u (n, 1)).1)), .bl false, .bl false]) q1 = some (.lst [V.bl (decide (u.1 < n * u.2)), .bl (decide (u.1 ≤ n * u.2)), .bl false, .bl false]) := by
      rw [c1, c2]
      exact upd_same
    have W3 := W2.s s3
    have sz := s8.trans ((z1.trans z2).trans s3)
    generalize upd Ga q1 _ = Gb at s3 l3 W3 sz
    clear s3 c1 c2 hma hmb hmc W1 W2 W8 z1 z2 s8 hq1
    refine ⟨_, rfl, ?_⟩
    refine ⟨_, rfl, t, _, _, _, rfl, rfl, W3.one, at_i0, _, rfl, _, rfl, t, _, _, _, rfl, rfl, W3.one, at_i1, _, _, rfl, rfl, (by unfold CMulW; omega), _, _, rfl, rfl, ?_⟩
    refine ⟨_, rfl, t, _, _, _, rfl, rfl, W3.one, at_i0, _, rfl, _, rfl, t, _, _, _, rfl, rfl, W3.one, at_i1, _, _, rfl, rfl, (by unfold CMulW; omega), _, _, rfl, rfl, ?_⟩
    refine ⟨szle (by show 4 ≤ 100000; decide), fun q2 hq2 => ?_⟩
    have z8 : Same Gb _ := same_new (o := .lst [V.bl (decide (u.1 < n * u.2)), .bl (decide (u.1 ≤ n * u.2)), .bl false, .bl false]) hq2
    refine ⟨.list [.bool (decide (u.1 < n * u.2)), .bool (decide (u.1 ≤ n * u.2)), .bool false, .bool false], .list [.bool (decide (u.1 < n * u.2)), .bool (decide (u.1 ≤ n * u.2)), .bool false, .bool false],
      .lst (sl_of (z8 _ _ l3)) (.cons (.bl _) (.cons (.bl _) (.cons (.bl _) (.cons (.bl _) .nil)))), .lst (sl_of upd_same) (.cons (.bl _) (.cons (.bl _) (.cons (.bl _) (.cons (.bl _) .nil)))), rfl, rfl, ?_⟩
    rw [four_eqv]
    exact q _ (sz.trans z8)
end
end Tk

namespace NeO
open PySem PySem.Spec PyProof.Rows L2 ClX
section
variable {X : Cx} {k : Nat} {C p g : Addr} {mc : Value} {fd : FuncData} {ps ks : List Str} {sp : Sp}
/-- C.m(k = v, ..), m a classmethod, the keywords in the parameters' order behind the first one -/
def tCMethK (C : Addr) (n : Nat) (sp : Sp) (ta : TE) (t : L2.TA) : TE := fun σ H Q => ta σ H fun x H1 => x = .ref C ∧ t σ H1 fun zs H2 => zs.length = n ∧ sp (.ref C :: zs) H2 Q E0
theorem pe_cmethK {o : Expr} {m : Str} {ta : TE} {t : L2.TA} {apos pos : Pos} {kws : List Keyword} {pl : Sem Bool} (he : PE X o ta) (r : CRead X.K C mc) (c : CMet X.K C mc m p g) (F : FnOk X.prog X.w X.K X.mg X.base CX0 k g fd ps sp) (hr : Room k X.A)
    (hb : ∀ (s : Shared) (u : Value) (ws : List Value), ws.length = ks.length → BindsTo s fd ⟨[u], ks.zip ws⟩ (ps.zip (u :: ws)))
    (hkw : PK X kws t) (hall : (backToKw pos (keywordEach kws X.env)).all (·.1.isSome) = true := by rfl) (hks : (backToKw pos (keywordEach kws X.env)).filterMap (·.1) = ks := by rfl)
    (hpl : ((backTo pos (starEach [] X.env)).any (·.1) || (backToKw pos (keywordEach kws X.env)).any (·.1.isNone)) = false := by rfl)
    (ht : eval (.Call (.Attribute o m apos) [] kws pos) X.env = (do
      let ov ← eval o X.env
      standAt apos.atName
      let (f, first) ← holding [ov] (getMethod ov m pl)
      callWith pos f first (backTo pos (starEach [] X.env)) (backToKw pos (keywordEach kws X.env))) := by rfl) :
    PE X (.Call (.Attribute o m apos) [] kws pos) (tCMethK C ks.length sp ta t) := by
  refine ⟨fun pins s σ H Q I h => ?_⟩
  refine PySem.W.methodCall_KW (pl := pl) (thn (he.run pins s σ H _ I h) fun u s1 ⟨x, H1, I1, rx, ex, q⟩ => ?_) ht
  subst ex
  obtain rfl : u = Value.ref C := rx
  refine getmethcm_ok I1 r c fun s2 I2 => ?_
  refine PySem.W.callWith_of hpl (PySem.W.keeps_M (K := X.K) (f := g) (self := .ref C) c.fi) (evalArgs_kw2_nil hall (thn (hkw.run pos _ s2 σ H1 _ I2 q) fun ws s3 ⟨zs, H2, I3, rz, lz, q2⟩ => ⟨⟨pin_at I3, I3.kIn⟩, ?_⟩))
  rw [hks]
  have lw : ws.length = ks.length := by rw [← rz.length]; exact lz
  have z : wpAny (model X.prog X.w) X.A (call (.ref s1.heap.objs.size) [] (ks.zip ws)) (EP X ((s1.heap.objs.size, PySem.W.methodObj (.ref g) (.ref C)) :: pins) σ Q) X.xe s3 := by
    apply wpAny_call
    refine PySem.W.method_call (pin_at I3) ?_
    refine codeAny_mono (F.run X.A X.stack s3 H2 ⟨[.ref C], ks.zip ws⟩ (.ref C :: ws) (.ref C :: zs) Q E0 hr I3.env0 (hb s3 (.ref C) ws lw) (.cons rfl rz) q2) ?_
    intro r s' hq
    cases r with
    | error er => exact hq.elim
    | ok fl =>
      cases fl with
      | ret u => exact I3.after hq
      | next => exact hq.elim
      | brk => exact hq.elim
      | cont => exact hq.elim
  exact thn z fun _ _ y => unpinE y
end
end NeO

namespace Tk
open PySem PySem.Spec PyProof.Rows L2 ClX
theorem atI_0 {x : V} {xs : List V} : atI (x :: xs) 0 = some x := by
  unfold atI ixN
  rw [if_pos (by decide), if_pos (by rw [List.length_cons]; omega)]
  rfl
theorem atI_1 {x y : V} {xs : List V} : atI (x :: y :: xs) 1 = some y := by
  unfold atI ixN
  rw [if_pos (by decide), if_pos (by rw [List.length_cons, List.length_cons]; omega)]
  rfl
theorem sum_grow {x y : Int × Int} {k : Nat} (hx : 0 < x.2) (bx : x.2.natAbs < 2 ^ (110 * k + 1)) (tx : x.1.natAbs < 2 ^ (121 * k + 121)) (fy : Fine y) :
    0 < (addQ x y).2 ∧ (addQ x y).2.natAbs < 2 ^ (110 * (k + 1) + 1) ∧ (addQ x y).1.natAbs < 2 ^ (121 * (k + 1) + 121) := by
  have g := low_ok (t := x.1 * y.2 + y.1 * x.2) (b := x.2 * y.2) (Int.ne_of_gt (Int.mul_pos hx fy.pos))
  refine ⟨g.pos, Nat.lt_of_le_of_lt g.bot ?_, Nat.lt_of_le_of_lt g.top ?_⟩
  · rw [Int.natAbs_mul, show 110 * (k + 1) + 1 = (110 * k + 1) + 110 by omega, Nat.pow_add]
    exact Nat.mul_lt_mul'' bx fy.bot
  · have h1 : (x.1 * y.2).natAbs < 2 ^ (121 * k + 121) * 2 ^ 110 := by
      rw [Int.natAbs_mul]
      exact Nat.mul_lt_mul'' tx fy.bot
    have h2 : (y.1 * x.2).natAbs < 2 ^ 120 * 2 ^ (110 * k + 1) := by
      rw [Int.natAbs_mul]
      exact Nat.mul_lt_mul'' fy.top bx
    rw [← Nat.pow_add] at h1 h2
    have h3 : 2 ^ (120 + (110 * k + 1)) ≤ 2 ^ (121 * k + 121 + 110) := Nat.pow_le_pow_right (by decide) (by omega)
    have h4 : 2 ^ (121 * (k + 1) + 121) = 2 ^ (121 * k + 121 + 110) * 2 ^ 11 := by
      rw [← Nat.pow_add]
      congr 1
    have h5 := Int.natAbs_add_le (x.1 * y.2) (y.1 * x.2)
    rw [h4]
    generalize 2 ^ (121 * k + 121 + 110) = A at *
    generalize 2 ^ (120 + (110 * k + 1)) = A2 at *
    have h6 : A * 2 ^ 11 = A * 2048 := rfl
    omega
theorem sum_fine {qs : List (Int × Int)} (hq : ∀ q ∈ qs, Fine q) : ∀ k, k ≤ qs.length → 0 < (sumQ (qs.take k)).2 ∧ (sumQ (qs.take k)).2.natAbs < 2 ^ (110 * k + 1) ∧ (sumQ (qs.take k)).1.natAbs < 2 ^ (121 * k + 121)
  | 0, _ => by
    show 0 < (1 : Int) ∧ (1 : Int).natAbs < 2 ^ 1 ∧ (0 : Int).natAbs < 2 ^ 121
    decide
  | k + 1, h => by
    obtain ⟨z, hz⟩ : ∃ z, qs[k]? = some z := ⟨qs[k]'(by omega), by simp [show k < qs.length by omega]⟩
    obtain ⟨i1, i2, i3⟩ := sum_fine hq k (by omega)
    have es : sumQ (qs.take (k + 1)) = addQ (sumQ (qs.take k)) z := by
      unfold sumQ
      rw [take_at hz, List.foldl_append]
      rfl
    rw [es]
    exact sum_grow i1 i2 i3 (hq z (List.mem_of_getElem? hz))
theorem sum_small {qs : List (Int × Int)} (hq : ∀ q ∈ qs, Fine q) (hl : qs.length ≤ 9) (k : Nat) (h : k ≤ qs.length) : Small (sumQ (qs.take k)) := by
  obtain ⟨i1, i2, i3⟩ := sum_fine hq k h
  refine ⟨i1, ?_, ?_⟩
  · exact Nat.lt_of_lt_of_le (log_of i2 (by omega)) (by omega)
  · exact Nat.lt_of_lt_of_le (log_of i3 (by omega)) (by omega)
/-- lists of three answers, none of them at L -/
def KdP (L : Addr) (H : Hp) : List V → List (Option Int) → Prop
  | [], [] => True
  | x :: xs, o :: os => (∃ r, x = .ref r ∧ r ≠ L ∧ H r = some (.lst [.bl o.isSome, .bl o.isSome, .bl (cntO o)])) ∧ KdP L H xs os
  | _, _ => False
abbrev kdO (o : Option Int) : PyData := .list [.bool o.isSome, .bool o.isSome, .bool (cntO o)]
theorem kd_s {L : Addr} {H H' : Hp} (e : Same H H') : ∀ {xs : List V} {os : List (Option Int)}, KdP L H xs os → KdP L H' xs os
  | [], [], _ => trivial
  | _ :: _, _ :: _, ⟨⟨r, h1, h2, h3⟩, h⟩ => ⟨⟨r, h1, h2, e _ _ h3⟩, kd_s e h⟩
  | [], _ :: _, h => h.elim
  | _ :: _, [], h => h.elim
theorem kd_but {L : Addr} {H : Hp} {o : HO} : ∀ {xs : List V} {os : List (Option Int)}, KdP L H xs os → KdP L (upd H L o) xs os
  | [], [], _ => trivial
  | _ :: _, _ :: _, ⟨⟨r, h1, h2, h3⟩, h⟩ => ⟨⟨r, h1, h2, by rw [upd_ne h2]; exact h3⟩, kd_but h⟩
  | [], _ :: _, h => h.elim
  | _ :: _, [], h => h.elim
theorem kd_app {L : Addr} {H : Hp} : ∀ {xs ys : List V} {os ps : List (Option Int)}, KdP L H xs os → KdP L H ys ps → KdP L H (xs ++ ys) (os ++ ps)
  | [], _, [], _, _, h => h
  | _ :: _, _, _ :: _, _, ⟨h1, h2⟩, h => ⟨h1, kd_app h2 h⟩
  | [], _, _ :: _, _, h, _ => h.elim
  | _ :: _, _, [], _, h, _ => h.elim
theorem kd_len {L : Addr} {H : Hp} : ∀ {xs : List V} {os : List (Option Int)}, KdP L H xs os → xs.length = os.length
  | [], [], _ => rfl
  | _ :: _, _ :: _, ⟨_, h⟩ => by rw [List.length_cons, List.length_cons, kd_len h]
  | [], _ :: _, h => h.elim
  | _ :: _, [], h => h.elim
theorem kd_dps {K : PySem.W.Frag} {L : Addr} {H : Hp} : ∀ {xs : List V} {os : List (Option Int)}, KdP L H xs os → DpAll K H xs (os.map kdO)
  | [], [], _ => .nil
  | _ :: _, _ :: _, ⟨⟨r, h1, _, h3⟩, h⟩ => by
    rw [h1]
    exact .cons (.lst (sl_of h3) (.cons (.bl _) (.cons (.bl _) (.cons (.bl _) .nil)))) (kd_dps h)
  | [], _ :: _, h => h.elim
  | _ :: _, [], h => h.elim
theorem dps_appR {K : PySem.W.Frag} {H : Hp} : ∀ {xs ys : List V} {ds es : List PyData}, DpAll K H xs ds → DpAll K H ys es → DpAll K H (xs ++ ys) (ds ++ es)
  | _, _, _, _, .nil, h => h
  | _, _, _, _, .cons h1 h2, h => .cons h1 (dps_appR h2 h)
abbrev osV : List (Option Int) := [some 0, some 1, some (-1), some 5, none, none, none, none, none, none, some (10 ^ 5)]
abbrev lq (q : Int × Int) : Int × Int := lowQ q.1 q.2
theorem prs_smx {K : PySem.W.Frag} {a : Addr} {H H' : Hp} (pa : Pot H a) (e : SmX a H H') : ∀ {xs : List V} {qs : List (Int × Int)}, PrsP K H xs qs → PrsP K H' xs qs
  | [], [], _ => trivial
  | _ :: _, _ :: _, ⟨⟨p, h1, h2⟩, h⟩ => ⟨⟨p, h1, smx_t pa e h2⟩, prs_smx pa e h⟩
  | [], _ :: _, h => h.elim
  | _ :: _, [], h => h.elim
theorem prs_atR {K : PySem.W.Frag} {H : Hp} : ∀ {xs : List V} {qs : List (Int × Int)}, PrsP K H xs qs → xs.length = qs.length ∧ ∀ (i : Nat) (x : V), xs[i]? = some x → ∃ p q, x = .ref p ∧ qs[i]? = some q ∧ PairAt K H p q
  | [], [], _ => ⟨rfl, fun i x h => by simp at h⟩
  | x :: xs, q :: qs, ⟨⟨p, h1, h2⟩, h⟩ => by
    obtain ⟨l, g⟩ := prs_atR h
    refine ⟨by simp [l], fun i y hy => ?_⟩
    cases i with
    | zero =>
      simp at hy
      subst hy
      exact ⟨p, q, h1, rfl, h2⟩
    | succ i => exact g i y (by simpa using hy)
  | [], _ :: _, h => h.elim
  | _ :: _, [], h => h.elim
structure CallsRv (P : Program) (w : World) (K : PySem.W.Frag) (mg : Str → Option Value) (base : Heap) (C : Addr) : Prop where
  raw : ∃ f fd, Df K mg "_law_raw" sRawR ["_law_pot_here"] f fd ∧ FnOk P w K mg base CX0 3 f fd ["_law_pot_here"] spRawR
  one : ∃ f fd, Df K mg "_law_one_right" sOneRt ["_law_raw_here"] f fd ∧ FnG P w K mg base 7 f fd ["_law_raw_here"] (spOneRt K)
  two : ∃ f fd, Df K mg "_law_two_right" sTwoRt ["_law_raw_here", "_law_other_raw", "_law_number"] f fd ∧ FnOk P w K mg base CX0 7 f fd ["_law_raw_here", "_law_other_raw", "_law_number"] (spTwoRt K)
  pick : ∃ f fd, Df K mg "_law_pick" sPick ["_law_pot_here", "_law_some"] f fd ∧ FnOk P w K mg base CX0 2 f fd ["_law_pot_here", "_law_some"] (spPick K)
  draw : ∃ f fd, Df K mg "_law_draw" sDraw ["_law_pot_here", "_law_room"] f fd ∧ FnOk P w K mg base CX0 1 f fd ["_law_pot_here", "_law_room"] spDraw
  ltot : ∃ f fd, Df K mg "_law_total" sTotR ["_law_pairs_here"] f fd ∧ FnOk P w K mg base CX0 3 f fd ["_law_pairs_here"] (spTotR K)
  tot : ∃ mc p g fd, CRead K C mc ∧ CMet K C mc "total" p g ∧ FnOk P w K mg base CX0 6 g fd ["cls", "numbers"] (spTotal K C) ∧ Binds K fd ["cls", "numbers"] [] ∧ ∀ (s : Shared) (u : Value) (ws : List Value), ws.length = (["numbers"] : List Str).length → BindsTo s fd ⟨[u], (["numbers"] : List Str).zip ws⟩ ((["cls", "numbers"] : List Str).zip (u :: ws))
  kB : PySem.W.kitOne K (.type "bool") (.ref C) = some false
  kN : PySem.W.kitOne K (.type "NoneType") (.ref C) = some false
  kS : PySem.W.kitOne K (.type "str") (.ref C) = some false
  kL : PySem.W.kitOne K (.type "list") (.ref C) = some false
  kT : PySem.W.kitOne K (.type "tuple") (.ref C) = some false
def spRightR : Sp := fun vs H Q _ => ∃ a : Addr, vs = [.ref a] ∧ Pot H a ∧ ∀ H', Q (.bl true) H'
section
variable {P : Program} {w : World} {K : PySem.W.Frag} {mg : Str → Option Value} {base : Heap}
abbrev nRtR : List Str := ["_law_pot_here", "_law_raws", "_law_turn", "_law_raw_here", "_law_pairs_here", "_law_given", "_law_told", "_law_values", "_law_one", "_law_due"]
theorem sc_rtR : FnScope nRtR ["_law_pot_here"] (defScope sRight) := ⟨rfl, rfl, rfl, by decide +kernel, rfl, by decide +kernel, by decide +kernel⟩
abbrev teKinds (K : PySem.W.Frag) (C : Addr) : TE := tLst (tCons (tCall (spIsNumV K C) [] E0 (tCons (tVar 8) tNil)) (tCons (tCall (spIsInt K) [] E0 (tCons (tVar 8) tNil)) (tCons (tCall (spIsCnt K) [] E0 (tCons (tVar 8) tNil)) tNil)))
theorem ok_rightR {f C : Addr} {fd : FuncData} (F : Fun K "_law_right" "_law_right" sRight f fd) (Z : CallsRt P w K mg base C) (Y : CallsRu P w K mg base C) (V' : CallsRv P w K mg base C) (B : Bl mg) : FnG P w K mg base 8 f fd ["_law_pot_here"] spRightR := by
  obtain ⟨fI, dI, M, GI, _⟩ := Z.make
  obtain ⟨fL, dL, DL, GL⟩ := Z.low
  obtain ⟨f1, d1, D1, _, G1⟩ := Z.num
  obtain ⟨f2, d2, D2, _, G2⟩ := Z.int
  obtain ⟨f3, d3, D3, _, G3⟩ := Z.cnt
  obtain ⟨f5, d5, D5, G5⟩ := Y.pairs
  obtain ⟨fR, dR, DR, GR⟩ := V'.raw
  obtain ⟨fO, dO, DO, GO⟩ := V'.one
  obtain ⟨fW, dW, DW, GW⟩ := V'.two
  obtain ⟨fP, dP', DP, GP⟩ := V'.pick
  obtain ⟨fD, dD, DD, GD⟩ := V'.draw
  obtain ⟨fT, dT, DT, GT⟩ := V'.ltot
  obtain ⟨mc, pT, gT, dTt, rC, cT, GTt, bTt, kTt⟩ := V'.tot
  refine okG F sc_rtR (fun vs H Q E h => ?_) (fun cdv A outer s H vs Q E hgd hr h => ?_)
  · obtain ⟨a, rfl, _⟩ := h
    rfl
  · obtain ⟨a, rfl, pot, q⟩ := h
    have h1 : Room 1 _ := hr.mono (by decide)
    have h2 : Room 2 _ := hr.mono (by decide)
    have h3 : Room 3 _ := hr.mono (by decide)
    have h4 : Room 4 _ := hr.mono (by decide)
    have h6 : Room 6 _ := hr.mono (by decide)
    have h7 : Room 7 _ := hr.mono (by decide)
    refine ⟨_, pss_cons (ps_setLc (i := 1) (own := [("_law_turn", 2)]) (g := gName 2) (tt := tYes) (te := tCall spRawR [] E0 (tCons (tVar 0) tNil)) rfl sc_rtR.nd rfl rfl (sw_true rfl rfl rfl (by decide +kernel)) (pi_range1 rfl B.range (pa_cons pe_int pa_nil)) (blkOk_by (N := nRtR) (sc := defScope sRight) (by decide +kernel))
          (fun _ _ _ _ _ => pg_name (i := 2) sc_rtR.nd rfl (Or.inl rfl)) (fun _ _ _ _ _ => pts_nil) (fun _ _ _ _ _ => pe_call GR h3 rfl DR.g DR.F.kp DR.b .nil pass0 (pa_cons (pv 0) pa_nil)))
      (pss_cons (ps_expr (pe_bm PySem.F.plainAttrs_list PySem.F.slot_list_append PySem.F.type_list_append mt_append (pv 1) (pa_cons (pe_tup (pa_cons (pe_op op_mulW (pe_ix ix_tup (pe_ix ix_list (pv 1) pe_int (fun _ _ => rfl)) pe_int (fun _ _ => rfl)) pe_int) (pa_cons (pe_op op_mulW (pe_ix ix_tup (pe_ix ix_list (pv 1) pe_int (fun _ _ => rfl)) pe_int (fun _ _ => rfl)) pe_int) pa_nil))) pa_nil)))
      (pss_cons (ps_expr (pe_bm PySem.F.plainAttrs_list PySem.F.slot_list_append PySem.F.type_list_append mt_append (pv 1) (pa_cons (pe_tup (pa_cons pe_int (pa_cons (pe_ix ix_tup (pe_ix ix_list (pv 1) pe_int (fun _ _ => rfl)) pe_int (fun _ _ => rfl)) pa_nil))) pa_nil)))
      (pss_cons (ps_for PassesOwn.never rfl (pi_list (pv 1)) (pg_name (i := 3) sc_rtR.nd rfl (Or.inl rfl))
        (pss_one (ps_if (pt_not (pt_val (pe_callG GO hgd h7 rfl DO.g DO.F.kp DO.b (pa_cons (pv 3) pa_nil)))) (pss_one (ps_ret pe_bl)) pss_nil)))
      (pss_cons (ps_for PassesOwn.never rfl (pi_range1 rfl B.range (pa_cons pe_int pa_nil)) (pg_name (i := 2) sc_rtR.nd rfl (Or.inl rfl))
        (pss_one (ps_if (pt_not (pt_val (pe_call GW h7 rfl DW.g DW.F.kp DW.b .nil pass0 (pa_cons (pe_call GP h2 rfl DP.g DP.F.kp DP.b .nil pass0 (pa_cons (pv 0) (pa_cons (pv 1) pa_nil))) (pa_cons (pe_call GP h2 rfl DP.g DP.F.kp DP.b .nil pass0 (pa_cons (pv 0) (pa_cons (pv 1) pa_nil)))
          (pa_cons (pe_op op_sub (pe_call GD h1 rfl DD.g DD.F.kp DD.b .nil pass0 (pa_cons (pv 0) (pa_cons pe_int pa_nil))) pe_int) pa_nil)))))) (pss_one (ps_ret pe_bl)) pss_nil)))
      (pss_cons (ps_setLc (i := 4) (own := [("_law_raw_here", 3)]) (g := gName 3) (tt := tYes) (te := tCall (spLowR K) [] E0 (tCons (tOp (rIxT K) (tVar 3) (tC (.int 0))) (tCons (tOp (rIxT K) (tVar 3) (tC (.int 1))) tNil))) rfl sc_rtR.nd rfl rfl (sw_true rfl rfl rfl (by decide +kernel)) (pi_list (pv 1)) (blkOk_by (N := nRtR) (sc := defScope sRight) (by decide +kernel))
          (fun _ _ _ _ _ => pg_name (i := 3) sc_rtR.nd rfl (Or.inl rfl)) (fun _ _ _ _ _ => pts_nil) (fun _ _ _ _ _ => pe_call GL h1 rfl DL.g DL.F.kp DL.b .nil pass0 (pa_cons (pe_ix ix_tup (pv 3) pe_int (fun _ _ => rfl)) (pa_cons (pe_ix ix_tup (pv 3) pe_int (fun _ _ => rfl)) pa_nil))))
      (pss_cons (ps_set (i := 5) sc_rtR.nd rfl (Or.inl rfl) (pe_op op_cat (pe_lc (own := [("_law_raw_here", 3)]) (g := gName 3) (tt := tYes) (te := tMake C (spRInit C) [] E0 (tCons (tOp (rIxT K) (tVar 3) (tC (.int 0))) (tCons (tOp (rIxT K) (tVar 3) (tC (.int 1))) tNil))) rfl sc_rtR.nd (pi_list (pv 1)) (blkOk_by (N := nRtR) (sc := defScope sRight) (by decide +kernel))
          (fun _ _ _ _ _ => pg_name (i := 3) sc_rtR.nd rfl (Or.inl rfl)) (fun _ _ _ _ _ => pts_nil) (fun _ _ _ _ _ => pe_make M.mkr GI h3 rfl M.c.mgC M.bI .nil pass0 (pa_cons (pe_ix ix_tup (pv 3) pe_int (fun _ _ => rfl)) (pa_cons (pe_ix ix_tup (pv 3) pe_int (fun _ _ => rfl)) pa_nil)))) (pe_lst (pa_cons pe_int pa_nil))))
      (pss_cons (ps_set (i := 6) sc_rtR.nd rfl (Or.inl rfl) (pe_lst (pa_cons (pe_cmeth (pe_glob (v := .ref C) rfl M.c.mgC rfl) rC cT (GTt.raw bTt .nil) h6 pass0 (pa_cons (pv 5) pa_nil)) (pa_cons (pe_cmeth (pe_glob (v := .ref C) rfl M.c.mgC rfl) rC cT (GTt.raw bTt .nil) h6 pass0 (pa_cons (pe_callTy call_tuple_of (by rfl) B.tuple PySem.Pv.boot_tuple (pa_cons (pv 5) pa_nil)) pa_nil))
          (pa_cons (NeO.pe_cmethK (pe_glob (v := .ref C) rfl M.c.mgC rfl) rC cT GTt h6 kTt (pk_cons (pv 5) pk_nil)) (pa_cons (pe_cmeth (pe_glob (v := .ref C) rfl M.c.mgC rfl) rC cT (GTt.raw bTt .nil) h6 pass0 (pa_cons (pe_lst pa_nil) pa_nil)) pa_nil))))))
      (pss_cons (ps_if (pt_cmpR (op_neD hr.units) (pe_call G5 h4 rfl D5.g D5.F.kp D5.b .nil pass0 (pa_cons (pv 6) pa_nil)) (pe_op op_cat (pe_op op_rep (pe_lst (pa_cons (pe_call GT h3 rfl DT.g DT.F.kp DT.b .nil pass0 (pa_cons (pe_op op_cat (pv 4) (pe_lst (pa_cons (pe_tup (pa_cons pe_int (pa_cons pe_int pa_nil))) pa_nil))) pa_nil)) pa_nil)) pe_int) (pe_lst (pa_cons (pe_tup (pa_cons pe_int (pa_cons pe_int pa_nil))) pa_nil))) (nomark _)) (pss_one (ps_ret pe_bl)) pss_nil)
      (pss_cons (ps_set (i := 7) sc_rtR.nd rfl (Or.inl rfl) (pe_lst (pa_cons pe_int (pa_cons pe_int (pa_cons (pe_un un_neg pe_int) (pa_cons pe_int (pa_cons pe_bl (pa_cons pe_bl (pa_cons pe_non (pa_cons pe_str (pa_cons (pe_lst (pa_cons pe_int pa_nil)) (pa_cons (pe_tup (pa_cons pe_int (pa_cons pe_int pa_nil))) (pa_cons (pe_op op_pow pe_int pe_int) pa_nil)))))))))))))
      (pss_cons (ps_setLc (i := 6) (own := [("_law_one", 8)]) (g := gName 8) (tt := tYes) (te := teKinds K C) rfl sc_rtR.nd rfl rfl (sw_true rfl rfl rfl (by decide +kernel)) (pi_list (pv 7)) (blkOk_by (N := nRtR) (sc := defScope sRight) (by decide +kernel))
          (fun _ _ _ _ _ => pg_name (i := 8) sc_rtR.nd rfl (Or.inl rfl)) (fun _ _ _ _ _ => pts_nil) (fun _ _ _ _ _ => pe_lst (pa_cons (pe_call G1 h2 rfl D1.g D1.F.kp D1.b .nil pass0 (pa_cons (pv 8) pa_nil)) (pa_cons (pe_call G2 h1 rfl D2.g D2.F.kp D2.b .nil pass0 (pa_cons (pv 8) pa_nil)) (pa_cons (pe_call G3 h2 rfl D3.g D3.F.kp D3.b .nil pass0 (pa_cons (pv 8) pa_nil)) pa_nil)))))
      (pss_cons (ps_set (i := 9) sc_rtR.nd rfl (Or.inl rfl) (pe_lst (pa_cons (pe_lst (pa_cons pe_bl (pa_cons pe_bl (pa_cons pe_bl pa_nil)))) (pa_cons (pe_lst (pa_cons pe_bl (pa_cons pe_bl (pa_cons pe_bl pa_nil)))) (pa_cons (pe_lst (pa_cons pe_bl (pa_cons pe_bl (pa_cons pe_bl pa_nil)))) (pa_cons (pe_lst (pa_cons pe_bl (pa_cons pe_bl (pa_cons pe_bl pa_nil)))) pa_nil))))))
      (pss_one (ps_ret (pe_cmpR (op_eqD hr.units) (pv 6) (pe_op op_cat (pe_op op_cat (pv 9) (pe_lc (own := [("_law_turn", 2)]) (g := gName 2) (tt := tYes) (te := tOp rRep (tLst (tCons (tC (.bl false)) tNil)) (tC (.int 3))) rfl sc_rtR.nd (pi_range1 rfl B.range (pa_cons pe_int pa_nil)) (blkOk_by (N := nRtR) (sc := defScope sRight) (by decide +kernel))
          (fun _ _ _ _ _ => pg_name (i := 2) sc_rtR.nd rfl (Or.inl rfl)) (fun _ _ _ _ _ => pts_nil) (fun _ _ _ _ _ => pe_op op_rep (pe_lst (pa_cons pe_bl pa_nil)) pe_int)))
          (pe_lst (pa_cons (pe_lst (pa_cons pe_bl (pa_cons pe_bl (pa_cons pe_bl pa_nil)))) pa_nil))) (nomark _))))))))))))))), ?_⟩
    -- six raws
    have nD : ∀ {D : Addr} {G : Hp}, Pot G a → G D = none → D ≠ a := fun {D G} pG h e => by obtain ⟨u, v, g, _⟩ := pG; rw [e, g] at h; cases h
    have pup : ∀ {D : Addr} {o : HO} {G : Hp}, Pot G a → D ≠ a → Pot (upd G D o) a := fun {D o G} pG n => by
      obtain ⟨u, v, g, o'⟩ := pG
      exact ⟨u, v, by rw [upd_ne (Ne.symm n)]; exact g, o'⟩
    refine ⟨6, rfl, by omega, by omega, fun D hD => ?_⟩
    have nDa := nD pot hD
    refine lc_range (lo := 0) (n := (6 : Int).toNat) (fun i G => ∃ acc qs, G D = some (.lst acc) ∧ acc.length = i ∧ Pot G a ∧ PrsP K G acc qs ∧ ∀ z ∈ qs, RawOk z ∧ RawOk (z.1 * 3, z.2 * 3)) ⟨[], [], upd_same, rfl, pot_s pot (same_new hD), trivial, by simp⟩ ?_ ?_
    · rintro i G hi ⟨acc, qs, hacc, hlen, pG, hP, hok⟩
      refine ⟨rfl, _, rfl, a, rfl, pG, fun G2 r z s2 p2 _ hr1 rk rk3 => ⟨acc, s2 _ _ nDa hacc, szlt (by have : i < 6 := hi; omega), acc ++ [.ref r], qs ++ [z], upd_same, by simp [hlen], pup p2 nDa, ?_, ?_⟩⟩
      · exact prs_butR (s2 _ _ nDa hacc) smx_upd (prs_appR (prs_smx pG s2 hP) ⟨⟨r, rfl, st_of hr1⟩, trivial⟩)
      · intro y hy
        rcases List.mem_append.mp hy with h | h
        · exact hok y h
        · have e : y = z := by simpa using h
          rw [e]
          exact ⟨rk, rk3⟩
    rintro G ⟨acc, qs, hacc, hlen, pG, hP, hok⟩
    have l6 : qs.length = 6 := by rw [← (prs_atR hP).1]; exact hlen
    obtain ⟨x0, x1, xs, rfl⟩ : ∃ x0 x1 xs, acc = x0 :: x1 :: xs := by
      match acc, hlen with
      | x0 :: x1 :: xs, _ => exact ⟨x0, x1, xs, rfl⟩
    obtain ⟨z0, z1, zs, rfl⟩ : ∃ z0 z1 zs, qs = z0 :: z1 :: zs := by
      match qs, l6 with
      | z0 :: z1 :: zs, _ => exact ⟨z0, z1, zs, rfl⟩
    obtain ⟨k0, k03⟩ := hok z0 (by simp)
    obtain ⟨k1, _⟩ := hok z1 (by simp)
    obtain ⟨⟨p0, e0, hp0⟩, ⟨p1, e1, hp1⟩, _⟩ := id hP
    subst e0
    subst e1
    have lg : ∀ x : Int, x.natAbs < 2 ^ 120 → CMulW x 3 := fun x h => by
      have := log_of h (by decide)
      have e : (3 : Int).natAbs.log2 = 1 := by decide
      unfold CMulW
      omega
    have kb : z0.2.natAbs < 2 ^ 120 := Nat.lt_trans k0.bot (by decide)
    -- thrice the first
    refine ⟨_, rfl, .inl ⟨rfl, _, sl_of hacc⟩, _, rfl, D, _, _, _, rfl, rfl, sl_of hacc, atI_0, p0, _, _, _, rfl, rfl, hp0, at_i0, _, _, rfl, rfl, lg _ k0.top, ?_⟩
    refine ⟨_, rfl, D, _, _, _, rfl, rfl, sl_of hacc, atI_0, p0, _, _, _, rfl, rfl, hp0, at_i1, _, _, rfl, rfl, lg _ kb, szle (by show 2 ≤ 100000; decide), fun t ht => ?_⟩
    have st := same_new (o := .tup [V.int (z0.1 * 3), V.int (z0.2 * 3)]) ht
    have hacc1 := st _ _ hacc
    have pG1 := pot_s pG st
    refine ⟨D, _, _, rfl, rfl, hacc1, szlt (by omega), ?_⟩
    have P2 : PrsP K (upd (upd G t (.tup [V.int (z0.1 * 3), V.int (z0.2 * 3)])) D (.lst (.ref p0 :: .ref p1 :: xs ++ [.ref t]))) (.ref p0 :: .ref p1 :: xs ++ [.ref t]) (z0 :: z1 :: zs ++ [(z0.1 * 3, z0.2 * 3)]) :=
      prs_butR hacc1 smx_upd (prs_appR (prs_sR st hP) ⟨⟨t, rfl, st_of upd_same⟩, trivial⟩)
    have hacc2 : upd (upd G t (.tup [V.int (z0.1 * 3), V.int (z0.2 * 3)])) D (.lst (.ref p0 :: .ref p1 :: xs ++ [.ref t])) D = some (.lst (.ref p0 :: .ref p1 :: xs ++ [.ref t])) := upd_same
    have hp12 : PairAt K (upd (upd G t (.tup [V.int (z0.1 * 3), V.int (z0.2 * 3)])) D (.lst (.ref p0 :: .ref p1 :: xs ++ [.ref t]))) p1 z1 := pair_but (pair_sR hp1 st) hacc1 smx_upd
    have pG2 : Pot (upd (upd G t (.tup [V.int (z0.1 * 3), V.int (z0.2 * 3)])) D (.lst (.ref p0 :: .ref p1 :: xs ++ [.ref t]))) a := pup pG1 nDa
    generalize upd (upd G t (.tup [V.int (z0.1 * 3), V.int (z0.2 * 3)])) D (.lst (.ref p0 :: .ref p1 :: xs ++ [.ref t])) = G2 at P2 hacc2 hp12 pG2
    clear st hacc1 hacc hP hp0 hp1 pG1 ht pG
    -- nothing over the second's
    refine ⟨_, rfl, .inl ⟨rfl, _, sl_of hacc2⟩, _, rfl, D, _, _, _, rfl, rfl, sl_of hacc2, atI_1, p1, _, _, _, rfl, rfl, hp12, at_i1, szle (by show 2 ≤ 100000; decide), fun t2 ht2 => ?_⟩
    have st := same_new (o := .tup [V.int 0, V.int z1.2]) ht2
    have hacc3 := st _ _ hacc2
    have pG3 := pot_s pG2 st
    have ln : (.ref p0 :: .ref p1 :: xs ++ [V.ref t]).length = 7 := by rw [List.length_append, hlen]; rfl
    refine ⟨D, _, _, rfl, rfl, hacc3, szlt (by omega), ?_⟩
    have P4 : PrsP K (upd (upd G2 t2 (.tup [V.int 0, V.int z1.2])) D (.lst (.ref p0 :: .ref p1 :: xs ++ [.ref t] ++ [.ref t2]))) (.ref p0 :: .ref p1 :: xs ++ [.ref t] ++ [.ref t2]) (z0 :: z1 :: zs ++ [(z0.1 * 3, z0.2 * 3)] ++ [(0, z1.2)]) :=
      prs_butR hacc3 smx_upd (prs_appR (prs_sR st P2) ⟨⟨t2, rfl, st_of upd_same⟩, trivial⟩)
    have hacc4 : upd (upd G2 t2 (.tup [V.int 0, V.int z1.2])) D (.lst (.ref p0 :: .ref p1 :: xs ++ [.ref t] ++ [.ref t2])) D = some (.lst (.ref p0 :: .ref p1 :: xs ++ [.ref t] ++ [.ref t2])) := upd_same
    have pG4 : Pot (upd (upd G2 t2 (.tup [V.int 0, V.int z1.2])) D (.lst (.ref p0 :: .ref p1 :: xs ++ [.ref t] ++ [.ref t2]))) a := pup pG3 nDa
    have ok4 : ∀ z ∈ z0 :: z1 :: zs ++ [(z0.1 * 3, z0.2 * 3)] ++ [(0, z1.2)], RawOk z := fun z hz => by
      rcases List.mem_append.mp hz with h | h
      · rcases List.mem_append.mp h with h | h
        · exact (hok z h).1
        · have e : z = (z0.1 * 3, z0.2 * 3) := by simpa using h
          rw [e]
          exact k03
      · have e : z = (0, z1.2) := by simpa using h
        rw [e]
        exact ⟨k1.ne, by show (0 : Int).natAbs < 2 ^ 120; decide, k1.bot⟩
    have l8 : (.ref p0 :: .ref p1 :: xs ++ [V.ref t] ++ [V.ref t2]).length = 8 := by rw [List.length_append, ln]; rfl
    generalize upd (upd G2 t2 (.tup [V.int 0, V.int z1.2])) D (.lst (.ref p0 :: .ref p1 :: xs ++ [.ref t] ++ [.ref t2])) = G4 at P4 hacc4 pG4
    generalize .ref p0 :: .ref p1 :: xs ++ [V.ref t] ++ [V.ref t2] = rw' at P4 hacc4 l8
    generalize z0 :: z1 :: zs ++ [(z0.1 * 3, z0.2 * 3)] ++ [(0, z1.2)] = rq at P4 ok4
    clear st hacc3 hacc2 P2 hp12 pG2 pG3 ht2 hok k0 k03 k1 kb ln hlen l6 lg
    have at4 := prs_atR P4
    -- each right
    refine ⟨_, rfl, D, rfl, ⟨rw', sl_of hacc4⟩, for_list (K := K) (a := D) (xs := rw') (fun i σ G => ∃ v, σ = [some (V.ref a), some (V.ref D), none, v, none, none, none, none, none, none] ∧ Same G4 G) ⟨none, rfl, fun _ _ h => h⟩ (fun i σ G _ z => by obtain ⟨_, _, z⟩ := z; exact sl_of (z _ _ hacc4)) ?_ ?_⟩
    · rintro i y σ G hy ⟨v, rfl, sG⟩
      obtain ⟨p, z, rfl, hz, hp⟩ := at4.2 i y hy
      refine ⟨_, rfl, p, z, rfl, pair_sR hp sG, ok4 z (List.mem_of_getElem? hz), fun G' s' => ⟨_, rfl, iteF ?_⟩⟩
      exact ⟨_, rfl, sG.trans s'⟩
    rintro σ G5 ⟨v3, rfl, s5⟩
    have P5 := prs_sR s5 P4
    have hacc5 := s5 _ _ hacc4
    have pG5 := pot_s pG4 s5
    clear P4 hacc4 pG4 s5 at4
    -- twelve pairs
    refine ⟨12, rfl, by omega, by omega, for_range (lo := 0) (n := (12 : Int).toNat) (fun i σ G => ∃ v2, σ = [some (V.ref a), some (V.ref D), v2, v3, none, none, none, none, none, none] ∧ SmX a G5 G ∧ Pot G a) ⟨none, rfl, SmX.refl _ _, pG5⟩ ?_ ?_⟩
    · rintro i σ G hi ⟨v2, rfl, sG, pG⟩
      have hD1 := sG _ _ nDa hacc5
      have ne : rw' ≠ [] := fun e => by rw [e] at l8; simp at l8
      refine ⟨_, rfl, _, rfl, a, D, rw', rfl, pG, hD1, nDa, ne, by omega, fun G1 i1 v1 s1 p1 hv1 => ?_⟩
      refine ⟨_, rfl, _, rfl, a, D, rw', rfl, p1, s1 _ _ nDa hD1, nDa, ne, by omega, fun G2 i2 v2' s2 p2 hv2 => ?_⟩
      refine ⟨_, rfl, a, 41, rfl, p2, by decide, by decide, fun G3 d s3 p3 d0 d1 => ⟨_, _, rfl, rfl, ?_⟩⟩
      have P6 := prs_smx pG5 (((sG.trans s1).trans s2).trans s3) P5
      obtain ⟨pa, za, rfl, hza, ha⟩ := (prs_atR P6).2 i1 v1 hv1
      obtain ⟨pb, zb, rfl, hzb, hb⟩ := (prs_atR P6).2 i2 v2' hv2
      refine ⟨pa, pb, za, zb, d - 20, rfl, ha, hb, ok4 za (List.mem_of_getElem? hza), ok4 zb (List.mem_of_getElem? hzb), by omega, fun G' s' => ⟨_, rfl, iteF ?_⟩⟩
      exact ⟨_, rfl, (((sG.trans s1).trans s2).trans s3).trans (smx_of s'), pot_s p3 s'⟩
    rintro σ G6 ⟨v2, rfl, s6, pG6⟩
    have P6 := prs_smx pG5 s6 P5
    have hacc6 := s6 _ _ nDa hacc5
    clear P5 hacc5 s6 pG5 pG6 pup nD pot hD
    have lr : rq.length = 8 := by rw [← (prs_atR P6).1]; exact l8
    have at6 := (prs_atR P6).2
    have blr : ∀ z ∈ rq, z.2.natAbs.log2 < 9000 := fun z hz => Nat.lt_of_lt_of_le (log_of (ok4 z hz).bot (by decide)) (by decide)
    have tkl : ∀ k, ((rq.take k).map lq).length ≤ 8 := fun k => by
      rw [List.length_map, List.length_take]
      omega
    have tks : ∀ {k : Nat} {z : Int × Int}, rq[k]? = some z → (rq.take (k + 1)).map lq = (rq.take k).map lq ++ [lq z] := fun {k z} hz => by
      rw [take_at hz, List.map_append]
      rfl
    -- the law's pairs
    refine ⟨_, rfl, D, rfl, ⟨rw', sl_of hacc6⟩, fun L hL => ?_⟩
    refine lc_list (xs := rw') (fun k G => Same G6 G ∧ ∃ acc, G L = some (.lst acc) ∧ PrsP K G acc ((rq.take k).map lq)) ⟨same_new hL, [], upd_same, by simp [PrsP]⟩ (fun k G _ z => sl_of (z.1 _ _ hacc6)) ?_ ?_
    · rintro k y G hy ⟨sG, acc, hacc, hP⟩
      obtain ⟨p, z, rfl, hz, hp⟩ := at6 k y hy
      have hp' := pair_sR hp sG
      have zr := ok4 z (List.mem_of_getElem? hz)
      have few := (prs_atR hP).1
      have := tkl k
      refine ⟨rfl, _, rfl, p, _, _, _, rfl, rfl, hp', at_i0, _, rfl, p, _, _, _, rfl, rfl, hp', at_i1, z.1, z.2, rfl, zr.ne, blr z (List.mem_of_getElem? hz), fun G2 r s2 _ hr => ?_⟩
      refine ⟨acc, s2 _ _ hacc, szlt (by omega), same_mut (sG.trans s2) hL, acc ++ [.ref r], upd_same, ?_⟩
      rw [tks hz]
      exact prs_butR (s2 _ _ hacc) smx_upd (prs_appR (prs_sR s2 hP) ⟨⟨r, rfl, hr⟩, trivial⟩)
    rintro G7 ⟨s7, pw, hpw, P7⟩
    rw [show rq.take rw'.length = rq by rw [l8, ← lr, List.take_length]] at P7
    have hacc7 := s7 _ _ hacc6
    have at7 : ∀ (i : Nat) (x : V), rw'[i]? = some x → ∃ p q, x = .ref p ∧ rq[i]? = some q ∧ PairAt K G7 p q := fun i x h => by
      obtain ⟨p, q, e1, e2, e3⟩ := at6 i x h
      exact ⟨p, q, e1, e2, pair_sR e3 s7⟩
    clear at6 P6 hacc6 s7 hL
    -- Ratios
    refine ⟨_, rfl, D, rfl, ⟨rw', sl_of hacc7⟩, fun L2 hL2 => ?_⟩
    refine lc_list (xs := rw') (fun k G => Same G7 G ∧ ∃ acc, G L2 = some (.lst acc) ∧ RatsP C G acc ((rq.take k).map lq)) ⟨same_new hL2, [], upd_same, by simp [RatsP]⟩ (fun k G _ z => sl_of (z.1 _ _ hacc7)) ?_ ?_
    · rintro k y G hy ⟨sG, acc, hacc, hP⟩
      obtain ⟨p, z, rfl, hz, hp⟩ := at7 k y hy
      have hp' := pair_sR hp sG
      have zr := ok4 z (List.mem_of_getElem? hz)
      have few := (rats_at hP).1
      have := tkl k
      refine ⟨rfl, _, rfl, p, _, _, _, rfl, rfl, hp', at_i0, _, rfl, p, _, _, _, rfl, rfl, hp', at_i1, fun m dx nx ndx nex => mk_ratio zr.ne (blr z (List.mem_of_getElem? hz)) nx ndx fun G2 s2 hm => ⟨rfl, ?_⟩⟩
      refine ⟨acc, s2 _ _ hacc, szlt (by omega), same_mut (sG.trans s2) hL2, acc ++ [.ref m], upd_same, ?_⟩
      rw [tks hz]
      exact rats_but (s2 _ _ hacc) smx_upd (rats_app (rats_s s2 hP) ⟨⟨m, rfl, hm⟩, trivial⟩)
    rintro G8 ⟨s8, rs, hrs, R8⟩
    rw [show rq.take rw'.length = rq by rw [l8, ← lr, List.take_length]] at R8
    have hpw8 := s8 _ _ hpw
    have P8 := prs_sR s8 P7
    have fin : ∀ z ∈ rq.map lq, Fine z := fun z hz => by
      obtain ⟨x, hx, rfl⟩ := List.mem_map.mp hz
      exact raw_fine (ok4 x hx)
    have lm : (rq.map lq).length = 8 := by rw [List.length_map]; exact lr
    generalize rq.map lq = ls at R8 P7 P8 fin lm
    clear at7 P7 hacc7 hpw s8 hL2 tks tkl blr ok4 l8 lr
    -- and seven
    refine ⟨szle (by show 1 ≤ 100000; decide), fun l7 hl7 => ?_⟩
    have z1 := same_new (o := .lst [V.int 7]) hl7
    have lrs : rs.length = 8 := by rw [(rats_at R8).1]; exact lm
    refine ⟨L2, l7, _, _, rfl, rfl, z1 _ _ hrs, upd_same, szle (by rw [lrs]; show 9 ≤ 100000; decide), fun g hg => ?_⟩
    have z2 := same_new (o := .lst (rs ++ [V.int 7])) hg
    have h9 : upd (upd G8 l7 (.lst [V.int 7])) g (.lst (rs ++ [V.int 7])) g = some (.lst (rs ++ [V.int 7])) := upd_same
    have R9 := rats_s (z1.trans z2) R8
    have hpw9 := (z1.trans z2) _ _ hpw8
    have P9 := prs_sR (z1.trans z2) P8
    generalize upd (upd G8 l7 (.lst [V.int 7])) g (.lst (rs ++ [V.int 7])) = G9 at h9 R9 hpw9 P9
    clear z1 z2 hg hl7 R8 hrs hpw8 P8
    have f7 : Fine (7, 1) := fine_int (i := 7) (by decide)
    have fin9 : ∀ z ∈ ls ++ [(7, 1)], Fine z := fun z hz => by
      rcases List.mem_append.mp hz with h | h
      · exact fin z h
      · have e : z = (7, 1) := by simpa using h
        rw [e]
        exact f7
    have l9 : (ls ++ [((7 : Int), (1 : Int))]).length = 9 := by rw [List.length_append, lm]; rfl
    have small9 : ∀ i, i ≤ (ls ++ [((7 : Int), (1 : Int))]).length → Small (sumQ ((ls ++ [(7, 1)]).take i)) := fun i h => sum_small fin9 (by omega) i h
    have each9 : ∀ {G : Hp}, RatsP C G rs ls → (rs ++ [V.int 7]).length = (ls ++ [((7 : Int), (1 : Int))]).length ∧ ∀ (i : Nat) (x : V) (z : Int × Int), (rs ++ [V.int 7])[i]? = some x → (ls ++ [(7, 1)])[i]? = some z → NumAt C G x z ∧ Small z := fun {G} hR => by
      obtain ⟨e1, e2⟩ := rats_at hR
      refine ⟨by rw [List.length_append, List.length_append, e1]; rfl, fun i x z hx hz => ?_⟩
      refine ⟨?_, fine_small (fin9 z (List.mem_of_getElem? hz))⟩
      by_cases c : i < rs.length
      · rw [List.getElem?_append_left c] at hx
        rw [List.getElem?_append_left (by omega)] at hz
        exact .inl (e2 i x z hx hz)
      · rw [List.getElem?_append_right (by omega)] at hx hz
        have e0 : i - rs.length = 0 := by
          cases e : i - rs.length with
          | zero => rfl
          | succ n => rw [e] at hx; simp at hx
        rw [e0] at hx
        rw [← e1, e0] at hz
        simp at hx hz
        exact .inr ⟨7, hx.symm, hz.symm⟩
    -- four totals
    generalize hS : sumQ (ls ++ [(7, 1)]) = S
    refine ⟨rfl, _, rfl, g, _, _, rfl, .inl (sl_of h9), (each9 R9).1, (each9 R9).2, small9, fun Ga r1 y1 k1 => ?_⟩
    have Ra := rats_s y1 R9
    refine ⟨rfl, _, rfl, g, _, rfl, .inl ⟨sl_of (y1 _ _ h9), fun u hu => ?_⟩⟩
    have y2 := same_new (o := .tup (rs ++ [V.int 7])) hu
    have Rb := rats_s y2 Ra
    refine ⟨u, _, _, rfl, .inr (st_of upd_same), (each9 Rb).1, (each9 Rb).2, small9, fun Gb r2 y3 k2 => ?_⟩
    have Rc := rats_s y3 Rb
    have hgc := (y1.trans (y2.trans y3)) _ _ h9
    refine ⟨rfl, _, rfl, rfl, g, _, _, rfl, .inl (sl_of hgc), (each9 Rc).1, (each9 Rc).2, small9, fun Gc r3 y4 k3 => ?_⟩
    refine ⟨rfl, szle (by show 0 ≤ 100000; decide), fun v0 hv0 => ?_⟩
    have y5 := same_new (o := .lst []) hv0
    refine ⟨v0, [], [], rfl, .inl (sl_of upd_same), rfl, fun i x z h => by simp at h, fun i _ => by rw [List.take_nil]; exact fine_small (fine_int (i := 0) (by decide)), fun Gd r4 y6 k4 => ?_⟩
    rw [hS] at k1 k2 k3
    refine ⟨szle (by show 4 ≤ 100000; decide), fun tl htl => ?_⟩
    have y7 := same_new (o := .lst [V.ref r1, .ref r2, .ref r3, .ref r4]) htl
    have y47 := ((y4.trans y5).trans y6).trans y7
    have RT : RatsP C (upd Gd tl (.lst [V.ref r1, .ref r2, .ref r3, .ref r4])) [V.ref r1, .ref r2, .ref r3, .ref r4] [S, S, S, (0, 1)] :=
      ⟨⟨_, rfl, rat_s k1 ((y2.trans y3).trans y47)⟩, ⟨_, rfl, rat_s k2 y47⟩, ⟨_, rfl, rat_s k3 ((y5.trans y6).trans y7)⟩, ⟨_, rfl, rat_s k4 y7⟩, trivial⟩
    have y9 := ((y1.trans y2).trans y3).trans y47
    have hpwd := y9 _ _ hpw9
    have Pd := prs_sR y9 P9
    have htd : upd Gd tl (.lst [V.ref r1, .ref r2, .ref r3, .ref r4]) tl = some (.lst [V.ref r1, .ref r2, .ref r3, .ref r4]) := upd_same
    generalize upd Gd tl (.lst [V.ref r1, .ref r2, .ref r3, .ref r4]) = Ge at RT hpwd Pd htd
    clear y9 y47 y1 y2 y3 y4 y5 y6 y7 k1 k2 k3 k4 Ra Rb Rc hgc hu hv0 htl R9 h9 hpw9 P9 each9
    -- compared
    refine ⟨_, rfl, tl, _, _, rfl, htd, (rats_at RT).1, by show 4 ≤ 1000; decide, (rats_at RT).2, fun Gf d1' y1 _ hd1 => ?_⟩
    have hpwf := y1 _ _ hpwd
    have Pf := prs_sR y1 Pd
    refine ⟨_, rfl, szle (by show 2 ≤ 100000; decide), fun t ht => ⟨szle (by show 1 ≤ 100000; decide), fun l1 hl1 => ?_⟩⟩
    have z1 := same_new (o := .tup [V.int 7, V.int 1]) ht
    have z2 := same_new (o := .lst [V.ref t]) hl1
    have lpw : pw.length = 8 := by rw [(prs_atR Pf).1]; exact lm
    refine ⟨L, l1, _, _, rfl, rfl, (z1.trans z2) _ _ hpwf, upd_same, szle (by rw [lpw]; show 9 ≤ 100000; decide), fun c hc => ?_⟩
    have z3 := same_new (o := .lst (pw ++ [V.ref t])) hc
    have P9 := prs_appR (prs_sR ((z1.trans z2).trans z3) Pf) (show PrsP K _ [V.ref t] [(7, 1)] from ⟨⟨t, rfl, pair_sR (st_of upd_same) (z2.trans z3)⟩, trivial⟩)
    have hc9 : upd (upd (upd Gf t (.tup [V.int 7, V.int 1])) l1 (.lst [V.ref t])) c (.lst (pw ++ [V.ref t])) c = some (.lst (pw ++ [V.ref t])) := upd_same
    refine ⟨c, _, _, rfl, sl_of hc9, (prs_atR P9).1, fun i x z hx hz => ?_, small9, fun Gg r y2 hr' => ?_⟩
    · obtain ⟨p, z', e1, e2, e3⟩ := (prs_atR P9).2 i x hx
      rw [hz] at e2
      cases e2
      exact ⟨p, e1, e3, fine_small (fin9 z (List.mem_of_getElem? hz))⟩
    rw [hS] at hr'
    refine ⟨szle (by show 1 ≤ 100000; decide), fun l2 hl2 => ⟨l2, 3, [V.ref r], rfl, rfl, upd_same, by decide, by decide, szle (by show 3 ≤ 100000; decide), fun l3 hl3 => ?_⟩⟩
    have z4 := same_new (o := .lst [V.ref r]) hl2
    have z5 := same_new (o := .lst [V.ref r, .ref r, .ref r]) hl3
    refine ⟨szle (by show 2 ≤ 100000; decide), fun t0 ht0 => ⟨szle (by show 1 ≤ 100000; decide), fun l4 hl4 => ?_⟩⟩
    have z6 := same_new (o := .tup [V.int 0, V.int 1]) ht0
    have z7 := same_new (o := .lst [V.ref t0]) hl4
    refine ⟨l3, l4, [V.ref r, .ref r, .ref r], [V.ref t0], rfl, rfl, (z6.trans z7) _ _ upd_same, upd_same, szle (by show 4 ≤ 100000; decide), fun l5 hl5 => ?_⟩
    have z8 := same_new (o := .lst [V.ref r, .ref r, .ref r, .ref t0]) hl5
    have z47 := ((z5.trans z6).trans z7).trans z8
    have hrr := pair_sR hr' (z4.trans z47)
    have hr0 : PairAt K _ t0 (0, 1) := pair_sR (st_of upd_same) (z7.trans z8)
    refine ⟨_, .list ([S, S, S, (0, 1)].map dP), dp_s hd1 ((((z1.trans z2).trans z3).trans y2).trans (z4.trans z47)), .lst (xs := [V.ref r, .ref r, .ref r, .ref t0]) (sl_of upd_same) (.cons (dP_mk hrr) (.cons (dP_mk hrr) (.cons (dP_mk hrr) (.cons (dP_mk hr0) .nil)))), rfl, rfl, ?_⟩
    rw [eqv_prs, decide_eq_true rfl]
    refine ⟨_, rfl, iteF ?_⟩
    generalize upd (upd (upd (upd (upd Gg l2 _) l3 _) t0 _) l4 _) l5 _ = Gh
    clear z1 z2 z3 z4 z5 z6 z7 z8 z47 hrr hr0 hr' P9 hc9 hd1 hpwf Pf hpwd Pd htd RT small9 hc hl1 hl2 hl3 hl4 hl5 ht ht0 y1 y2 hS fin9 f7 fin l9 lm lrs lpw
    -- values
    refine ⟨_, rfl, szle (by show 1 ≤ 100000; decide), fun la hla => ⟨szle (by show 2 ≤ 100000; decide), fun tb htb => ?_⟩⟩
    refine ⟨_, _, rfl, rfl, ⟨by decide, by decide, by decide⟩, szle (by show 11 ≤ 100000; decide), fun lv hlv => ?_⟩
    have y1 := same_new (o := .tup [V.int 1, V.int 2]) htb
    have y2 : Same _ (upd (upd (upd Gh la (.lst [V.int 1])) tb (.tup [V.int 1, V.int 2])) lv (.lst [V.int 0, .int 1, .int (-1), .int 5, .bl true, .bl false, .non, .str "1", .ref la, .ref tb, .int (10 ^ (5 : Int).toNat)])) := same_new hlv
    have hla' := (y1.trans y2) _ _ (upd_same (H := Gh) (a := la) (o := .lst [V.int 1]))
    have htb' := y2 _ _ (upd_same (H := upd Gh la (.lst [V.int 1])) (a := tb) (o := .tup [V.int 1, V.int 2]))
    have hv : upd (upd (upd Gh la (.lst [V.int 1])) tb (.tup [V.int 1, V.int 2])) lv (.lst [V.int 0, .int 1, .int (-1), .int 5, .bl true, .bl false, .non, .str "1", .ref la, .ref tb, .int (10 ^ (5 : Int).toNat)]) lv = some (.lst [V.int 0, .int 1, .int (-1), .int 5, .bl true, .bl false, .non, .str "1", .ref la, .ref tb, .int (10 ^ (5 : Int).toNat)]) := upd_same
    generalize upd (upd (upd Gh la (.lst [V.int 1])) tb (.tup [V.int 1, V.int 2])) lv _ = Gi at y1 y2 hla' htb' hv
    have kinds : ∀ (i : Nat) (x : V), [V.int 0, .int 1, .int (-1), .int 5, .bl true, .bl false, .non, .str "1", .ref la, .ref tb, .int (10 ^ (5 : Int).toNat)][i]? = some x → ∃ o t, osV[i]? = some o ∧ IntV K Gi x o ∧ TyX K Gi x t ∧ PySem.W.kitOne K t (.ref C) = some false := by
      intro i x h
      match i, h with
      | 0, h => cases h; exact ⟨_, _, rfl, .int _, .base (.int _), M.kI⟩
      | 1, h => cases h; exact ⟨_, _, rfl, .int _, .base (.int _), M.kI⟩
      | 2, h => cases h; exact ⟨_, _, rfl, .int _, .base (.int _), M.kI⟩
      | 3, h => cases h; exact ⟨_, _, rfl, .int _, .base (.int _), M.kI⟩
      | 4, h => cases h; exact ⟨_, _, rfl, .bl _, .base (.bl _), V'.kB⟩
      | 5, h => cases h; exact ⟨_, _, rfl, .bl _, .base (.bl _), V'.kB⟩
      | 6, h => cases h; exact ⟨_, _, rfl, .oth (.base .non) rfl, .base .non, V'.kN⟩
      | 7, h => cases h; exact ⟨_, _, rfl, .oth (.base (.str _)) rfl, .base (.str _), V'.kS⟩
      | 8, h => cases h; exact ⟨_, _, rfl, .oth (.base (.lst hla')) rfl, .base (.lst hla'), V'.kL⟩
      | 9, h => cases h; exact ⟨_, _, rfl, .oth (.base (.tup htb')) rfl, .base (.tup htb'), V'.kT⟩
      | 10, h => cases h; exact ⟨_, _, rfl, .int _, .base (.int _), M.kI⟩
      | n + 11, h => simp at h
    have lv11 : [V.int 0, .int 1, .int (-1), .int 5, .bl true, .bl false, .non, .str "1", .ref la, .ref tb, .int (10 ^ (5 : Int).toNat)].length = 11 := rfl
    generalize [V.int 0, .int 1, .int (-1), .int 5, .bl true, .bl false, .non, .str "1", .ref la, .ref tb, .int (10 ^ (5 : Int).toNat)] = vs at hv kinds lv11
    clear y1 y2 hla' htb' hla htb hlv
    refine ⟨_, rfl, lv, rfl, ⟨vs, sl_of hv⟩, fun L3 hL3 => ?_⟩
    refine lc_list (xs := vs) (fun k G => Same Gi G ∧ ∃ acc, G L3 = some (.lst acc) ∧ KdP L3 G acc (osV.take k)) ⟨same_new hL3, [], upd_same, by simp [KdP]⟩ (fun k G _ z => sl_of (z.1 _ _ hv)) ?_ ?_
    · rintro k y G hy ⟨sG, acc, hacc, hP⟩
      obtain ⟨o, t, ho, i1, i2, i3⟩ := kinds k y hy
      have few := kd_len hP
      have : (osV.take k).length ≤ 11 := by rw [List.length_take]; exact Nat.min_le_right _ _
      refine ⟨rfl, _, rfl, y, o, t, rfl, intv_s i1 sG, tyx_s i2 sG, i3, _, rfl, y, o, rfl, intv_s i1 sG, _, rfl, y, o, rfl, intv_s i1 sG, szle (by show 3 ≤ 100000; decide), fun r hr' => ?_⟩
      have z1 := same_new (o := .lst [V.bl o.isSome, .bl o.isSome, .bl (cntO o)]) hr'
      have nr : r ≠ L3 := fun e => by rw [e, hacc] at hr'; cases hr'
      refine ⟨acc, z1 _ _ hacc, szlt (by omega), same_mut (sG.trans z1) hL3, acc ++ [.ref r], upd_same, ?_⟩
      rw [take_at ho]
      exact kd_but (kd_app (kd_s z1 hP) ⟨⟨r, rfl, nr, upd_same⟩, trivial⟩)
    rintro Gj ⟨_, tl, htl, KT⟩
    rw [lv11, show osV.take 11 = osV from rfl] at KT
    clear kinds hv hL3
    -- what is due
    refine ⟨szle (by show 3 ≤ 100000; decide), fun a1 h1 => ⟨szle (by show 3 ≤ 100000; decide), fun a2 h2 => ⟨szle (by show 3 ≤ 100000; decide), fun a3 h3 => ⟨szle (by show 3 ≤ 100000; decide), fun a4 h4 => ⟨szle (by show 4 ≤ 100000; decide), fun ld hld => ?_⟩⟩⟩⟩⟩
    have z1 := same_new (o := .lst [V.bl true, .bl true, .bl true]) h1
    have z2 := same_new (o := .lst [V.bl true, .bl true, .bl true]) h2
    have z3 := same_new (o := .lst [V.bl true, .bl true, .bl false]) h3
    have z4 := same_new (o := .lst [V.bl true, .bl true, .bl true]) h4
    have z5 := same_new (o := .lst [V.ref a1, .ref a2, .ref a3, .ref a4]) hld
    have z45 := z4.trans z5
    have z35 := z3.trans z45
    have z25 := z2.trans z35
    have e1 := z25 _ _ (upd_same (H := Gj) (a := a1) (o := .lst [V.bl true, .bl true, .bl true]))
    have e2 := z35 _ _ upd_same
    have e3 := z45 _ _ upd_same
    have e4 := z5 _ _ upd_same
    have hld' := upd_same (H := upd (upd (upd (upd Gj a1 (.lst [V.bl true, .bl true, .bl true])) a2 (.lst [V.bl true, .bl true, .bl true])) a3 (.lst [V.bl true, .bl true, .bl false])) a4 (.lst [V.bl true, .bl true, .bl true])) (a := ld) (o := .lst [V.ref a1, .ref a2, .ref a3, .ref a4])
    have htl' := (z1.trans z25) _ _ htl
    have KT' := kd_s (z1.trans z25) KT
    generalize upd (upd (upd (upd (upd Gj a1 (.lst [V.bl true, .bl true, .bl true])) a2 (.lst [V.bl true, .bl true, .bl true])) a3 (.lst [V.bl true, .bl true, .bl false])) a4 (.lst [V.bl true, .bl true, .bl true])) ld (.lst [V.ref a1, .ref a2, .ref a3, .ref a4]) = Gk at e1 e2 e3 e4 hld' htl' KT'
    have b3 : ∀ {G : Hp} {r : Addr} {x y z : Bool}, G r = some (.lst [V.bl x, .bl y, .bl z]) → Dp K G (.ref r) (.list [.bool x, .bool y, .bool z]) := fun h => .lst (sl_of h) (.cons (.bl _) (.cons (.bl _) (.cons (.bl _) .nil)))
    have DD4 : DpAll K Gk [V.ref a1, .ref a2, .ref a3, .ref a4] ([some 0, some 1, some (-1), some 5].map kdO) := .cons (b3 e1) (.cons (b3 e2) (.cons (b3 e3) (.cons (b3 e4) .nil)))
    clear z1 z2 z3 z4 z5 z45 z35 z25 e1 e2 e3 e4 h1 h2 h3 h4 hld htl KT
    refine ⟨_, rfl, _, rfl, 6, rfl, by omega, by omega, fun L4 hL4 => ?_⟩
    refine lc_range (lo := 0) (n := (6 : Int).toNat) (fun i G => Same Gk G ∧ ∃ acc, G L4 = some (.lst acc) ∧ KdP L4 G acc (List.replicate i none)) ⟨same_new hL4, [], upd_same, trivial⟩ ?_ ?_
    · rintro i G hi ⟨sG, acc, hacc, hP⟩
      have few := kd_len hP
      rw [List.length_replicate] at few
      have hi' : i < 6 := hi
      refine ⟨rfl, szle (by show 1 ≤ 100000; decide), fun b hb => ⟨b, 3, [V.bl false], rfl, rfl, upd_same, by decide, by decide, szle (by show 3 ≤ 100000; decide), fun b2 hb2 => ?_⟩⟩
      have z1 := same_new (o := .lst [V.bl false]) hb
      have z2 := same_new (o := .lst [V.bl false, .bl false, .bl false]) hb2
      have z12 := z1.trans z2
      have nr : b2 ≠ L4 := fun e => by rw [e, z1 _ _ hacc] at hb2; cases hb2
      refine ⟨acc, z12 _ _ hacc, szlt (by omega), same_mut (sG.trans z12) hL4, acc ++ [.ref b2], upd_same, ?_⟩
      rw [List.replicate_succ']
      exact kd_but (kd_app (kd_s z12 hP) ⟨⟨b2, rfl, nr, upd_same⟩, trivial⟩)
    rintro Gl ⟨s6, nl, hnl, KN⟩
    have few := kd_len KN
    rw [List.length_replicate] at few
    refine ⟨ld, L4, _, _, rfl, rfl, s6 _ _ hld', hnl, szle (by rw [few]; show 10 ≤ 100000; decide), fun c hc => ?_⟩
    have z1 := same_new (o := .lst ([V.ref a1, .ref a2, .ref a3, .ref a4] ++ nl)) hc
    refine ⟨szle (by show 3 ≤ 100000; decide), fun e1 h1 => ⟨szle (by show 1 ≤ 100000; decide), fun e2 h2 => ?_⟩⟩
    have z2 := same_new (o := .lst [V.bl true, .bl true, .bl true]) h1
    have z3 := same_new (o := .lst [V.ref e1]) h2
    refine ⟨c, e2, _, _, rfl, rfl, (z2.trans z3) _ _ upd_same, upd_same, szle (by rw [List.length_append, few]; show 11 ≤ 100000; decide), fun c2 hc2 => ?_⟩
    have z4 := same_new (o := .lst ([V.ref a1, .ref a2, .ref a3, .ref a4] ++ nl ++ [V.ref e1])) hc2
    have z14 := (z1.trans z2).trans (z3.trans z4)
    have DX := b3 ((z3.trans z4) _ _ (upd_same (H := upd Gl c (.lst ([V.ref a1, .ref a2, .ref a3, .ref a4] ++ nl))) (a := e1) (o := .lst [V.bl true, .bl true, .bl true])))
    have DX' := DpAll.cons DX .nil
    have DA := dps_appR (dps_appR (dps_s DD4 (s6.trans z14)) (dps_s (kd_dps (K := K) KN) z14)) DX'
    refine ⟨.list (osV.map kdO), .list ([some 0, some 1, some (-1), some 5].map kdO ++ (List.replicate 6 none).map kdO ++ [PyData.list [PyData.bool true, PyData.bool true, PyData.bool true]]), .lst (sl_of ((s6.trans z14) _ _ htl')) (kd_dps (kd_s (s6.trans z14) KT')),
      .lst (sl_of upd_same) DA, rfl, rfl, ?_⟩
    rw [show PyData.eqv (.list (osV.map kdO)) (.list ([some 0, some 1, some (-1), some 5].map kdO ++ (List.replicate 6 none).map kdO ++ [PyData.list [PyData.bool true, PyData.bool true, PyData.bool true]])) = true by decide +kernel]
    exact q _
def spLawR (K : PySem.W.Frag) : Sp := fun vs H Q _ => ∃ (a : Addr) (ns : List Int), vs = [.ref a] ∧ SqL K H a (ns.map V.int) ∧ ∀ H', Q (.bl true) H'
theorem sc_lawR : FnScope ["_law_script"] ["_law_script"] (defScope sLaw) := ⟨rfl, rfl, rfl, by decide +kernel, rfl, by decide +kernel, by decide +kernel⟩
theorem ok_lawR {f f1 f2 : Addr} {fd fd1 fd2 : FuncData} (F : Fun K "law" "law" sLaw f fd) (D1 : Df K mg "_law_pot" sPot ["_law_script", "_law_k"] f1 fd1) (D2 : Df K mg "_law_right" sRight ["_law_pot_here"] f2 fd2)
    (G2 : FnG P w K mg base 8 f2 fd2 ["_law_pot_here"] spRightR) (B : Bl mg) : FnG P w K mg base 9 f fd ["_law_script"] (spLawR K) := by
  have G1 : FnOk P w K mg base CX0 1 f1 fd1 ["_law_script", "_law_k"] (spPot K) := ok_pot D1.F B
  refine okG F sc_lawR (fun vs H Q E h => ?_) (fun cdv A outer s H vs Q E hgd hr h => ?_)
  · obtain ⟨a, ns, rfl, _⟩ := h
    rfl
  · obtain ⟨a, ns, rfl, ha, q⟩ := h
    refine ⟨_, pss_one (ps_ret (pe_callG G2 hgd hr rfl D2.g D2.F.kp D2.b (pa_cons (pe_call G1 (hr.mono (by decide)) rfl D1.g D1.F.kp D1.b .nil pass0 (pa_cons (pv 0) (pa_cons pe_int pa_nil))) pa_nil))), ?_⟩
    exact ⟨_, rfl, a, ns, rfl, ha, fun H1 p s1 hp pot => ⟨p, rfl, pot, q⟩⟩
end
end Tk

namespace Tk
open PySem PySem.Spec PyProof.Rows L2
theorem kit_self {K : PySem.W.Frag} {C : Addr} : PySem.W.kitOne K (.ref C) (.ref C) = some true := by
  unfold PySem.W.kitOne
  rw [if_pos (by simp)]
theorem kit_no {K : PySem.W.Frag} {S : Addr} {t : Value} (h2 : PySem.W.isClsIn K S = true) (h3 : PySem.W.typeIn K (.ref S) = some (.type "type")) (h4 : PySem.W.subIn K t (.ref S) = some false) (ne : (t == .ref S) = false) :
    PySem.W.kitOne K t (.ref S) = some false := by
  have h2' : (PySem.W.clsIn K S).isSome = true := h2
  have e2 : ((PySem.W.clsIn K S).isSome && PySem.W.typeIn K (.ref S) == some (.type "type")) = true := by rw [h2', h3]; rfl
  show (if (t == .ref S) = true then some true else (if ((PySem.W.clsIn K S).isSome && PySem.W.typeIn K (.ref S) == some (.type "type")) = true then PySem.W.subIn K t (.ref S) else none)) = some false
  rw [ne, if_neg (by simp), if_pos e2]
  exact h4
theorem all_mk {P : Program} {w : World} {K : PySem.W.Frag} {h : Heap} {mg : Str → Option Value} {fa C T1 pM p0 p1 p2 p3 f0 f1 f2 f3 f4 f5 f6 f7 f8 f9 f10 f11 f12 f13 f14 f15 f16 f17 f18 f19 f20 f21 f22 f23 f24 f25 f26 f27 f28 f29 f30 f31 f32 f33 f34 f35 f36 f37 f38 f39 f40 f41 : Addr} {restM rest0 rest1 rest2 rest3 : List Value} {tkT : Tok} {oT : Value} {dT : Option Addr} {nT : Nat} {sT : Array (Option Value)} {fo_add ro_add fo_sub ro_sub fo_mul ro_mul : Option Value} (X : K.In h) (G : h.Ns mainGlobals mg) (hfa : mg "law" = some (.ref fa))
    {od0 an0 od1 an1 od2 an2 od3 an3 od4 an4 od5 an5 od6 an6 od7 an7 od8 an8 od9 an9 od10 an10 od11 an11 od12 an12 od13 an13 od14 an14 od15 an15 od16 an16 od17 an17 od18 an18 od19 an19 od20 an20 od21 an21 od22 an22 od23 an23 od24 an24 od25 an25 od26 an26 od27 an27 od28 an28 od29 an29 od30 an30 od31 an31 od32 an32 od33 an33 od34 an34 od35 an35 od36 an36 od37 an37 od38 an38 od39 an39 od40 an40 od41 an41 : Option Addr} {sl0 sl1 sl2 sl3 sl4 sl5 sl6 sl7 sl8 sl9 sl10 sl11 sl12 sl13 sl14 sl15 sl16 sl17 sl18 sl19 sl20 sl21 sl22 sl23 sl24 sl25 sl26 sl27 sl28 sl29 sl30 sl31 sl32 sl33 sl34 sl35 sl36 sl37 sl38 sl39 sl40 sl41 : Array (Option Value)}
    {oc0 kV0 dc0 pm0 cd0 ct0 oc1 kV1 dc1 pm1 cd1 ct1 oc2 kV2 dc2 pm2 cd2 ct2 oc3 kV3 dc3 pm3 cd3 ct3 oc4 kV4 dc4 pm4 cd4 ct4 oc5 kV5 dc5 pm5 cd5 ct5 oc6 kV6 dc6 pm6 cd6 ct6 oc7 kV7 dc7 pm7 cd7 ct7 oc8 kV8 dc8 pm8 cd8 ct8 oc9 kV9 dc9 pm9 cd9 ct9 oc10 kV10 dc10 pm10 cd10 ct10 oc11 kV11 dc11 pm11 cd11 ct11 oc12 kV12 dc12 pm12 cd12 ct12 oc13 kV13 dc13 pm13 cd13 ct13 oc14 kV14 dc14 pm14 cd14 ct14 oc15 kV15 dc15 pm15 cd15 ct15 oc16 kV16 dc16 pm16 cd16 ct16 oc17 kV17 dc17 pm17 cd17 ct17 oc18 kV18 dc18 pm18 cd18 ct18 oc19 kV19 dc19 pm19 cd19 ct19 oc20 kV20 dc20 pm20 cd20 ct20 oc21 kV21 dc21 pm21 cd21 ct21 oc22 kV22 dc22 pm22 cd22 ct22 oc23 kV23 dc23 pm23 cd23 ct23 oc24 kV24 dc24 pm24 cd24 ct24 oc25 kV25 dc25 pm25 cd25 ct25 oc26 kV26 dc26 pm26 cd26 ct26 oc27 kV27 dc27 pm27 cd27 ct27 oc28 kV28 dc28 pm28 cd28 ct28 oc29 kV29 dc29 pm29 cd29 ct29 oc30 kV30 dc30 pm30 cd30 ct30 oc31 kV31 dc31 pm31 cd31 ct31 oc32 kV32 dc32 pm32 cd32 ct32 oc33 kV33 dc33 pm33 cd33 ct33 oc34 kV34 dc34 pm34 cd34 ct34 oc35 kV35 dc35 pm35 cd35 ct35 oc36 kV36 dc36 pm36 cd36 ct36 oc37 kV37 dc37 pm37 cd37 ct37 oc38 kV38 dc38 pm38 cd38 ct38 oc39 kV39 dc39 pm39 cd39 ct39 oc40 kV40 dc40 pm40 cd40 ct40 oc41 kV41 dc41 pm41 cd41 ct41 : Value}
    (aC : PySem.W.nsIn K mainGlobals "Ratio" = some (some (.ref C)))
    (aG : PySem.W.nsIn K mainGlobals "gcd" = some (some (.builtin "math.gcd")))
    (a0 : PySem.W.nsIn K mainGlobals "is_integer" = some (some (.ref f0)))
    (l0 : K.lookup f0 = some ⟨oc0, od0, .func (PySem.W.fnOf "is_integer" "is_integer" (defArgs sIsInt) (defBody sIsInt) (defScope sIsInt) .none kV0 dc0 pm0 an0 cd0 ct0), sl0⟩)
    (c0 : PySem.W.codeIn K cd0 "is_integer" = true)
    (k0 : PySem.W.keepIn K (.ref f0) = true)
    (a1 : PySem.W.nsIn K mainGlobals "is_count" = some (some (.ref f1)))
    (l1 : K.lookup f1 = some ⟨oc1, od1, .func (PySem.W.fnOf "is_count" "is_count" (defArgs sIsCnt) (defBody sIsCnt) (defScope sIsCnt) .none kV1 dc1 pm1 an1 cd1 ct1), sl1⟩)
    (c1 : PySem.W.codeIn K cd1 "is_count" = true)
    (k1 : PySem.W.keepIn K (.ref f1) = true)
    (a2 : PySem.W.nsIn K mainGlobals "is_list" = some (some (.ref f2)))
    (l2 : K.lookup f2 = some ⟨oc2, od2, .func (PySem.W.fnOf "is_list" "is_list" (defArgs sIsLst) (defBody sIsLst) (defScope sIsLst) .none kV2 dc2 pm2 an2 cd2 ct2), sl2⟩)
    (c2 : PySem.W.codeIn K cd2 "is_list" = true)
    (k2 : PySem.W.keepIn K (.ref f2) = true)
    (a3 : PySem.W.nsIn K mainGlobals "is_number" = some (some (.ref f3)))
    (l3 : K.lookup f3 = some ⟨oc3, od3, .func (PySem.W.fnOf "is_number" "is_number" (defArgs sIsNum) (defBody sIsNum) (defScope sIsNum) .none kV3 dc3 pm3 an3 cd3 ct3), sl3⟩)
    (c3 : PySem.W.codeIn K cd3 "is_number" = true)
    (k3 : PySem.W.keepIn K (.ref f3) = true)
    (a4 : PySem.W.nsIn K mainGlobals "as_ratio" = some (some (.ref f4)))
    (l4 : K.lookup f4 = some ⟨oc4, od4, .func (PySem.W.fnOf "as_ratio" "as_ratio" (defArgs sAsRat) (defBody sAsRat) (defScope sAsRat) .none kV4 dc4 pm4 an4 cd4 ct4), sl4⟩)
    (c4 : PySem.W.codeIn K cd4 "as_ratio" = true)
    (k4 : PySem.W.keepIn K (.ref f4) = true)
    (a5 : PySem.W.nsIn K mainGlobals "_law_pot" = some (some (.ref f5)))
    (l5 : K.lookup f5 = some ⟨oc5, od5, .func (PySem.W.fnOf "_law_pot" "_law_pot" (defArgs sPot) (defBody sPot) (defScope sPot) .none kV5 dc5 pm5 an5 cd5 ct5), sl5⟩)
    (c5 : PySem.W.codeIn K cd5 "_law_pot" = true)
    (k5 : PySem.W.keepIn K (.ref f5) = true)
    (a6 : PySem.W.nsIn K mainGlobals "_law_draw" = some (some (.ref f6)))
    (l6 : K.lookup f6 = some ⟨oc6, od6, .func (PySem.W.fnOf "_law_draw" "_law_draw" (defArgs sDraw) (defBody sDraw) (defScope sDraw) .none kV6 dc6 pm6 an6 cd6 ct6), sl6⟩)
    (c6 : PySem.W.codeIn K cd6 "_law_draw" = true)
    (k6 : PySem.W.keepIn K (.ref f6) = true)
    (a7 : PySem.W.nsIn K mainGlobals "_law_pick" = some (some (.ref f7)))
    (l7 : K.lookup f7 = some ⟨oc7, od7, .func (PySem.W.fnOf "_law_pick" "_law_pick" (defArgs sPick) (defBody sPick) (defScope sPick) .none kV7 dc7 pm7 an7 cd7 ct7), sl7⟩)
    (c7 : PySem.W.codeIn K cd7 "_law_pick" = true)
    (k7 : PySem.W.keepIn K (.ref f7) = true)
    (a8 : PySem.W.nsIn K mainGlobals "_law_low" = some (some (.ref f8)))
    (l8 : K.lookup f8 = some ⟨oc8, od8, .func (PySem.W.fnOf "_law_low" "_law_low" (defArgs sLowR) (defBody sLowR) (defScope sLowR) .none kV8 dc8 pm8 an8 cd8 ct8), sl8⟩)
    (c8 : PySem.W.codeIn K cd8 "_law_low" = true)
    (k8 : PySem.W.keepIn K (.ref f8) = true)
    (a9 : PySem.W.nsIn K mainGlobals "_law_sum" = some (some (.ref f9)))
    (l9 : K.lookup f9 = some ⟨oc9, od9, .func (PySem.W.fnOf "_law_sum" "_law_sum" (defArgs sSumR) (defBody sSumR) (defScope sSumR) .none kV9 dc9 pm9 an9 cd9 ct9), sl9⟩)
    (c9 : PySem.W.codeIn K cd9 "_law_sum" = true)
    (k9 : PySem.W.keepIn K (.ref f9) = true)
    (a10 : PySem.W.nsIn K mainGlobals "_law_by" = some (some (.ref f10)))
    (l10 : K.lookup f10 = some ⟨oc10, od10, .func (PySem.W.fnOf "_law_by" "_law_by" (defArgs sByR) (defBody sByR) (defScope sByR) .none kV10 dc10 pm10 an10 cd10 ct10), sl10⟩)
    (c10 : PySem.W.codeIn K cd10 "_law_by" = true)
    (k10 : PySem.W.keepIn K (.ref f10) = true)
    (a11 : PySem.W.nsIn K mainGlobals "_law_less" = some (some (.ref f11)))
    (l11 : K.lookup f11 = some ⟨oc11, od11, .func (PySem.W.fnOf "_law_less" "_law_less" (defArgs sLessR) (defBody sLessR) (defScope sLessR) .none kV11 dc11 pm11 an11 cd11 ct11), sl11⟩)
    (c11 : PySem.W.codeIn K cd11 "_law_less" = true)
    (k11 : PySem.W.keepIn K (.ref f11) = true)
    (a12 : PySem.W.nsIn K mainGlobals "_law_over" = some (some (.ref f12)))
    (l12 : K.lookup f12 = some ⟨oc12, od12, .func (PySem.W.fnOf "_law_over" "_law_over" (defArgs sOverR) (defBody sOverR) (defScope sOverR) .none kV12 dc12 pm12 an12 cd12 ct12), sl12⟩)
    (c12 : PySem.W.codeIn K cd12 "_law_over" = true)
    (k12 : PySem.W.keepIn K (.ref f12) = true)
    (a13 : PySem.W.nsIn K mainGlobals "_law_total" = some (some (.ref f13)))
    (l13 : K.lookup f13 = some ⟨oc13, od13, .func (PySem.W.fnOf "_law_total" "_law_total" (defArgs sTotR) (defBody sTotR) (defScope sTotR) .none kV13 dc13 pm13 an13 cd13 ct13), sl13⟩)
    (c13 : PySem.W.codeIn K cd13 "_law_total" = true)
    (k13 : PySem.W.keepIn K (.ref f13) = true)
    (a14 : PySem.W.nsIn K mainGlobals "_law_pair" = some (some (.ref f14)))
    (l14 : K.lookup f14 = some ⟨oc14, od14, .func (PySem.W.fnOf "_law_pair" "_law_pair" (defArgs sRtPair) (defBody sRtPair) (defScope sRtPair) .none kV14 dc14 pm14 an14 cd14 ct14), sl14⟩)
    (c14 : PySem.W.codeIn K cd14 "_law_pair" = true)
    (k14 : PySem.W.keepIn K (.ref f14) = true)
    (a15 : PySem.W.nsIn K mainGlobals "_law_pairs" = some (some (.ref f15)))
    (l15 : K.lookup f15 = some ⟨oc15, od15, .func (PySem.W.fnOf "_law_pairs" "_law_pairs" (defArgs sRtPairs) (defBody sRtPairs) (defScope sRtPairs) .none kV15 dc15 pm15 an15 cd15 ct15), sl15⟩)
    (c15 : PySem.W.codeIn K cd15 "_law_pairs" = true)
    (k15 : PySem.W.keepIn K (.ref f15) = true)
    (a16 : PySem.W.nsIn K mainGlobals "_law_shown" = some (some (.ref f16)))
    (l16 : K.lookup f16 = some ⟨oc16, od16, .func (PySem.W.fnOf "_law_shown" "_law_shown" (defArgs sShownR) (defBody sShownR) (defScope sShownR) .none kV16 dc16 pm16 an16 cd16 ct16), sl16⟩)
    (c16 : PySem.W.codeIn K cd16 "_law_shown" = true)
    (k16 : PySem.W.keepIn K (.ref f16) = true)
    (a17 : PySem.W.nsIn K mainGlobals "_law_raw" = some (some (.ref f17)))
    (l17 : K.lookup f17 = some ⟨oc17, od17, .func (PySem.W.fnOf "_law_raw" "_law_raw" (defArgs sRawR) (defBody sRawR) (defScope sRawR) .none kV17 dc17 pm17 an17 cd17 ct17), sl17⟩)
    (c17 : PySem.W.codeIn K cd17 "_law_raw" = true)
    (k17 : PySem.W.keepIn K (.ref f17) = true)
    (a18 : PySem.W.nsIn K mainGlobals "_law_one_right" = some (some (.ref f18)))
    (l18 : K.lookup f18 = some ⟨oc18, od18, .func (PySem.W.fnOf "_law_one_right" "_law_one_right" (defArgs sOneRt) (defBody sOneRt) (defScope sOneRt) .none kV18 dc18 pm18 an18 cd18 ct18), sl18⟩)
    (c18 : PySem.W.codeIn K cd18 "_law_one_right" = true)
    (k18 : PySem.W.keepIn K (.ref f18) = true)
    (a19 : PySem.W.nsIn K mainGlobals "_law_two_right" = some (some (.ref f19)))
    (l19 : K.lookup f19 = some ⟨oc19, od19, .func (PySem.W.fnOf "_law_two_right" "_law_two_right" (defArgs sTwoRt) (defBody sTwoRt) (defScope sTwoRt) .none kV19 dc19 pm19 an19 cd19 ct19), sl19⟩)
    (c19 : PySem.W.codeIn K cd19 "_law_two_right" = true)
    (k19 : PySem.W.keepIn K (.ref f19) = true)
    (a20 : PySem.W.nsIn K mainGlobals "_law_right" = some (some (.ref f20)))
    (l20 : K.lookup f20 = some ⟨oc20, od20, .func (PySem.W.fnOf "_law_right" "_law_right" (defArgs sRight) (defBody sRight) (defScope sRight) .none kV20 dc20 pm20 an20 cd20 ct20), sl20⟩)
    (c20 : PySem.W.codeIn K cd20 "_law_right" = true)
    (k20 : PySem.W.keepIn K (.ref f20) = true)
    (a21 : PySem.W.nsIn K mainGlobals "law" = some (some (.ref f21)))
    (l21 : K.lookup f21 = some ⟨oc21, od21, .func (PySem.W.fnOf "law" "law" (defArgs sLaw) (defBody sLaw) (defScope sLaw) .none kV21 dc21 pm21 an21 cd21 ct21), sl21⟩)
    (c21 : PySem.W.codeIn K cd21 "law" = true)
    (k21 : PySem.W.keepIn K (.ref f21) = true)
    (a22 : PySem.W.findIn K (.ref C) "__add__" = some (some (.ref f22)))
    (i22 : PySem.W.isFn K (.ref f22) = true)
    (l22 : K.lookup f22 = some ⟨oc22, od22, .func (PySem.W.fnOf "__add__" "Ratio.__add__" (defArgs sRAdd) (defBody sRAdd) (defScope sRAdd) .none kV22 dc22 pm22 an22 cd22 ct22), sl22⟩)
    (c22 : PySem.W.codeIn K cd22 "Ratio.__add__" = true)
    (k22 : PySem.W.keepIn K (.ref f22) = true)
    (a23 : PySem.W.findIn K (.ref C) "__radd__" = some (some (.ref f23)))
    (i23 : PySem.W.isFn K (.ref f23) = true)
    (l23 : K.lookup f23 = some ⟨oc23, od23, .func (PySem.W.fnOf "__radd__" "Ratio.__radd__" (defArgs sRRadd) (defBody sRRadd) (defScope sRRadd) .none kV23 dc23 pm23 an23 cd23 ct23), sl23⟩)
    (c23 : PySem.W.codeIn K cd23 "Ratio.__radd__" = true)
    (k23 : PySem.W.keepIn K (.ref f23) = true)
    (a24 : PySem.W.findIn K (.ref C) "__sub__" = some (some (.ref f24)))
    (i24 : PySem.W.isFn K (.ref f24) = true)
    (l24 : K.lookup f24 = some ⟨oc24, od24, .func (PySem.W.fnOf "__sub__" "Ratio.__sub__" (defArgs sRSub) (defBody sRSub) (defScope sRSub) .none kV24 dc24 pm24 an24 cd24 ct24), sl24⟩)
    (c24 : PySem.W.codeIn K cd24 "Ratio.__sub__" = true)
    (k24 : PySem.W.keepIn K (.ref f24) = true)
    (a25 : PySem.W.findIn K (.ref C) "__rsub__" = some (some (.ref f25)))
    (i25 : PySem.W.isFn K (.ref f25) = true)
    (l25 : K.lookup f25 = some ⟨oc25, od25, .func (PySem.W.fnOf "__rsub__" "Ratio.__rsub__" (defArgs sRRsub) (defBody sRRsub) (defScope sRRsub) .none kV25 dc25 pm25 an25 cd25 ct25), sl25⟩)
    (c25 : PySem.W.codeIn K cd25 "Ratio.__rsub__" = true)
    (k25 : PySem.W.keepIn K (.ref f25) = true)
    (a26 : PySem.W.findIn K (.ref C) "__mul__" = some (some (.ref f26)))
    (i26 : PySem.W.isFn K (.ref f26) = true)
    (l26 : K.lookup f26 = some ⟨oc26, od26, .func (PySem.W.fnOf "__mul__" "Ratio.__mul__" (defArgs sRMul) (defBody sRMul) (defScope sRMul) .none kV26 dc26 pm26 an26 cd26 ct26), sl26⟩)
    (c26 : PySem.W.codeIn K cd26 "Ratio.__mul__" = true)
    (k26 : PySem.W.keepIn K (.ref f26) = true)
    (a27 : PySem.W.findIn K (.ref C) "__rmul__" = some (some (.ref f27)))
    (i27 : PySem.W.isFn K (.ref f27) = true)
    (l27 : K.lookup f27 = some ⟨oc27, od27, .func (PySem.W.fnOf "__rmul__" "Ratio.__rmul__" (defArgs sRRmul) (defBody sRRmul) (defScope sRRmul) .none kV27 dc27 pm27 an27 cd27 ct27), sl27⟩)
    (c27 : PySem.W.codeIn K cd27 "Ratio.__rmul__" = true)
    (k27 : PySem.W.keepIn K (.ref f27) = true)
    (a28 : PySem.W.findIn K (.ref C) "__neg__" = some (some (.ref f28)))
    (i28 : PySem.W.isFn K (.ref f28) = true)
    (l28 : K.lookup f28 = some ⟨oc28, od28, .func (PySem.W.fnOf "__neg__" "Ratio.__neg__" (defArgs sRNeg) (defBody sRNeg) (defScope sRNeg) .none kV28 dc28 pm28 an28 cd28 ct28), sl28⟩)
    (c28 : PySem.W.codeIn K cd28 "Ratio.__neg__" = true)
    (k28 : PySem.W.keepIn K (.ref f28) = true)
    (a29 : PySem.W.findIn K (.ref C) "over" = some (some (.ref f29)))
    (i29 : PySem.W.isFn K (.ref f29) = true)
    (l29 : K.lookup f29 = some ⟨oc29, od29, .func (PySem.W.fnOf "over" "Ratio.over" (defArgs sROver) (defBody sROver) (defScope sROver) .none kV29 dc29 pm29 an29 cd29 ct29), sl29⟩)
    (c29 : PySem.W.codeIn K cd29 "Ratio.over" = true)
    (k29 : PySem.W.keepIn K (.ref f29) = true)
    (a30 : PySem.W.findIn K (.ref C) "size" = some (some (.ref f30)))
    (i30 : PySem.W.isFn K (.ref f30) = true)
    (l30 : K.lookup f30 = some ⟨oc30, od30, .func (PySem.W.fnOf "size" "Ratio.size" (defArgs sRSize) (defBody sRSize) (defScope sRSize) .none kV30 dc30 pm30 an30 cd30 ct30), sl30⟩)
    (c30 : PySem.W.codeIn K cd30 "Ratio.size" = true)
    (k30 : PySem.W.keepIn K (.ref f30) = true)
    (a31 : PySem.W.findIn K (.ref C) "is_below" = some (some (.ref f31)))
    (i31 : PySem.W.isFn K (.ref f31) = true)
    (l31 : K.lookup f31 = some ⟨oc31, od31, .func (PySem.W.fnOf "is_below" "Ratio.is_below" (defArgs sRBelow) (defBody sRBelow) (defScope sRBelow) .none kV31 dc31 pm31 an31 cd31 ct31), sl31⟩)
    (c31 : PySem.W.codeIn K cd31 "Ratio.is_below" = true)
    (k31 : PySem.W.keepIn K (.ref f31) = true)
    (a32 : PySem.W.findIn K (.ref C) "is_at_most" = some (some (.ref f32)))
    (i32 : PySem.W.isFn K (.ref f32) = true)
    (l32 : K.lookup f32 = some ⟨oc32, od32, .func (PySem.W.fnOf "is_at_most" "Ratio.is_at_most" (defArgs sRMost) (defBody sRMost) (defScope sRMost) .none kV32 dc32 pm32 an32 cd32 ct32), sl32⟩)
    (c32 : PySem.W.codeIn K cd32 "Ratio.is_at_most" = true)
    (k32 : PySem.W.keepIn K (.ref f32) = true)
    (a33 : PySem.W.findIn K (.ref C) "__eq__" = some (some (.ref f33)))
    (i33 : PySem.W.isFn K (.ref f33) = true)
    (l33 : K.lookup f33 = some ⟨oc33, od33, .func (PySem.W.fnOf "__eq__" "Ratio.__eq__" (defArgs sREq) (defBody sREq) (defScope sREq) .none kV33 dc33 pm33 an33 cd33 ct33), sl33⟩)
    (c33 : PySem.W.codeIn K cd33 "Ratio.__eq__" = true)
    (k33 : PySem.W.keepIn K (.ref f33) = true)
    (a34 : PySem.W.findIn K (.ref C) "__str__" = some (some (.ref f34)))
    (i34 : PySem.W.isFn K (.ref f34) = true)
    (l34 : K.lookup f34 = some ⟨oc34, od34, .func (PySem.W.fnOf "__str__" "Ratio.__str__" (defArgs sRStr) (defBody sRStr) (defScope sRStr) .none kV34 dc34 pm34 an34 cd34 ct34), sl34⟩)
    (c34 : PySem.W.codeIn K cd34 "Ratio.__str__" = true)
    (k34 : PySem.W.keepIn K (.ref f34) = true)
    (a35 : PySem.W.findIn K (.ref C) "__repr__" = some (some (.ref f35)))
    (i35 : PySem.W.isFn K (.ref f35) = true)
    (l35 : K.lookup f35 = some ⟨oc35, od35, .func (PySem.W.fnOf "__repr__" "Ratio.__repr__" (defArgs sRRepr) (defBody sRRepr) (defScope sRRepr) .none kV35 dc35 pm35 an35 cd35 ct35), sl35⟩)
    (c35 : PySem.W.codeIn K cd35 "Ratio.__repr__" = true)
    (k35 : PySem.W.keepIn K (.ref f35) = true)
    (pa0 : PySem.W.findIn K (.ref C) "top" = some (some (.ref p0)))
    (pg0 : PySem.W.specialIn K (.ref p0) "__get__" = some (some (.builtin "property.__get__")))
    (pt0 : PySem.W.takesIn K (.ref p0) = some true)
    (pr0 : PySem.W.recIn K p0 "property" = some (.ref f36 :: rest0))
    (l36 : K.lookup f36 = some ⟨oc36, od36, .func (PySem.W.fnOf "top" "Ratio.top" (defArgs sRTop) (defBody sRTop) (defScope sRTop) .none kV36 dc36 pm36 an36 cd36 ct36), sl36⟩)
    (c36 : PySem.W.codeIn K cd36 "Ratio.top" = true)
    (k36 : PySem.W.keepIn K (.ref f36) = true)
    (pa1 : PySem.W.findIn K (.ref C) "bottom" = some (some (.ref p1)))
    (pg1 : PySem.W.specialIn K (.ref p1) "__get__" = some (some (.builtin "property.__get__")))
    (pt1 : PySem.W.takesIn K (.ref p1) = some true)
    (pr1 : PySem.W.recIn K p1 "property" = some (.ref f37 :: rest1))
    (l37 : K.lookup f37 = some ⟨oc37, od37, .func (PySem.W.fnOf "bottom" "Ratio.bottom" (defArgs sRBot) (defBody sRBot) (defScope sRBot) .none kV37 dc37 pm37 an37 cd37 ct37), sl37⟩)
    (c37 : PySem.W.codeIn K cd37 "Ratio.bottom" = true)
    (k37 : PySem.W.keepIn K (.ref f37) = true)
    (pa2 : PySem.W.findIn K (.ref C) "sign" = some (some (.ref p2)))
    (pg2 : PySem.W.specialIn K (.ref p2) "__get__" = some (some (.builtin "property.__get__")))
    (pt2 : PySem.W.takesIn K (.ref p2) = some true)
    (pr2 : PySem.W.recIn K p2 "property" = some (.ref f38 :: rest2))
    (l38 : K.lookup f38 = some ⟨oc38, od38, .func (PySem.W.fnOf "sign" "Ratio.sign" (defArgs sRSign) (defBody sRSign) (defScope sRSign) .none kV38 dc38 pm38 an38 cd38 ct38), sl38⟩)
    (c38 : PySem.W.codeIn K cd38 "Ratio.sign" = true)
    (k38 : PySem.W.keepIn K (.ref f38) = true)
    (pa3 : PySem.W.findIn K (.ref C) "is_whole" = some (some (.ref p3)))
    (pg3 : PySem.W.specialIn K (.ref p3) "__get__" = some (some (.builtin "property.__get__")))
    (pt3 : PySem.W.takesIn K (.ref p3) = some true)
    (pr3 : PySem.W.recIn K p3 "property" = some (.ref f39 :: rest3))
    (l39 : K.lookup f39 = some ⟨oc39, od39, .func (PySem.W.fnOf "is_whole" "Ratio.is_whole" (defArgs sRWhole) (defBody sRWhole) (defScope sRWhole) .none kV39 dc39 pm39 an39 cd39 ct39), sl39⟩)
    (c39 : PySem.W.codeIn K cd39 "Ratio.is_whole" = true)
    (k39 : PySem.W.keepIn K (.ref f39) = true)
    (a40 : PySem.W.findIn K (.ref C) "__init__" = some (some (.ref f40)))
    (i40 : PySem.W.isFn K (.ref f40) = true)
    (l40 : K.lookup f40 = some ⟨oc40, od40, .func (PySem.W.fnOf "__init__" "Ratio.__init__" (defArgs sRInit) (defBody sRInit) (defScope sRInit) (.ref T1) kV40 dc40 pm40 an40 cd40 ct40), sl40⟩)
    (c40 : PySem.W.codeIn K cd40 "Ratio.__init__" = true)
    (k40 : PySem.W.keepIn K (.ref f40) = true)
    (lT : K.lookup T1 = some ⟨oT, dT, .seq #[.int 1 tkT] nT, sT⟩)
    (rd : PySem.W.readsIn K C (.type "type") = true)
    (ga : PySem.W.specialIn K (.ref C) "__getattribute__" = some (some (.builtin "type.__getattribute__")))
    (ca : PySem.W.findCls K (.ref C) (.type "type") "total" = some (.get (.builtin "classmethod.__get__") (.ref pM) .none (.ref C)))
    (cr : PySem.W.recIn K pM "classmethod" = some (.ref f41 :: restM))
    (l41 : K.lookup f41 = some ⟨oc41, od41, .func (PySem.W.fnOf "total" "Ratio.total" (defArgs sRTotal) (defBody sRTotal) (defScope sRTotal) .none kV41 dc41 pm41 an41 cd41 ct41), sl41⟩)
    (c41 : PySem.W.codeIn K cd41 "Ratio.total" = true)
    (k41 : PySem.W.keepIn K (.ref f41) = true)
    (cf : PySem.W.fnIn K f41 = true)
    (sf : PySem.W.selfFirst K C = true)
    (tadd : PySem.W.findIn K (.type "int") "__add__" = some fo_add)
    (radd : PySem.W.findIn K (.type "int") "__radd__" = some ro_add)
    (tsub : PySem.W.findIn K (.type "int") "__sub__" = some fo_sub)
    (rsub : PySem.W.findIn K (.type "int") "__rsub__" = some ro_sub)
    (tmul : PySem.W.findIn K (.type "int") "__mul__" = some fo_mul)
    (rmul : PySem.W.findIn K (.type "int") "__rmul__" = some ro_mul)
    (s1 : PySem.W.subIn K (.type "int") (.ref C) = some false)
    (s2 : PySem.W.subIn K (.ref C) (.type "int") = some false)
    (nf : PySem.W.notFirst K C (.type "int") = true)
    (kc : PySem.W.isClsIn K C = true)
    (kt : PySem.W.typeIn K (.ref C) = some (.type "type"))
    (ks0 : PySem.W.subIn K (.type "bool") (.ref C) = some false)
    (ks1 : PySem.W.subIn K (.type "NoneType") (.ref C) = some false)
    (ks2 : PySem.W.subIn K (.type "str") (.ref C) = some false)
    (ks3 : PySem.W.subIn K (.type "list") (.ref C) = some false)
    (ks4 : PySem.W.subIn K (.type "tuple") (.ref C) = some false)
    (kr : PySem.W.kitOne K (.ref C) (.type "int") = some false)
    (q1 : PySem.W.plainGet K C Str.empty = true)
    (q2 : PySem.W.hasDictIn K C = true)
    (q3 : PySem.W.plainOver K C = true)
    (q4 : PySem.W.findIn K (.ref C) "__setattr__" = some (some (.builtin "object.__setattr__")))
    (q5 : PySem.W.makesIn K C = true)
    (q6 : PySem.W.keepIn K (.ref C) = true)
    (n1 : PySem.W.findIn K (.ref C) "_top" = some none)
    (n2 : PySem.W.findIn K (.ref C) "_bottom" = some none)
    (w1 : PySem.W.findIn K (.ref C) "__class__" = some (some (.builtin "object.__class__")))
    (w2 : PySem.W.specialIn K (.builtin "object.__class__") "__get__" = some (some (.builtin "getset_descriptor.__get__")))
    (w3 : PySem.W.takesIn K (.builtin "object.__class__") = some true)
    (w4 : PySem.W.mroIn K C (.type "object") = some true)
    (ne : PySem.W.findIn K (.ref C) "__ne__" = some (some (.builtin "object.__ne__")))
    (z_isinstance : PySem.W.nsIn K mainGlobals "isinstance" = some none)
    (z_int : PySem.W.nsIn K mainGlobals "int" = some none)
    (z_bool : PySem.W.nsIn K mainGlobals "bool" = some none)
    (z_list : PySem.W.nsIn K mainGlobals "list" = some none)
    (z_tuple : PySem.W.nsIn K mainGlobals "tuple" = some none)
    (z_len : PySem.W.nsIn K mainGlobals "len" = some none)
    (z_all : PySem.W.nsIn K mainGlobals "all" = some none)
    (z_any : PySem.W.nsIn K mainGlobals "any" = some none)
    (z_set : PySem.W.nsIn K mainGlobals "set" = some none)
    (z_range : PySem.W.nsIn K mainGlobals "range" = some none)
    (z_sorted : PySem.W.nsIn K mainGlobals "sorted" = some none)
    (z_sum : PySem.W.nsIn K mainGlobals "sum" = some none)
    (z_abs : PySem.W.nsIn K mainGlobals "abs" = some none)
    (z_max : PySem.W.nsIn K mainGlobals "max" = some none)
    (z_min : PySem.W.nsIn K mainGlobals "min" = some none)
    (z_divmod : PySem.W.nsIn K mainGlobals "divmod" = some none)
    (z_repr : PySem.W.nsIn K mainGlobals "repr" = some none)
    (z_enumerate : PySem.W.nsIn K mainGlobals "enumerate" = some none)
    (z_zip : PySem.W.nsIn K mainGlobals "zip" = some none)
    (z_str : PySem.W.nsIn K mainGlobals "str" = some none) :
    ∃ fd : FuncData, (∀ (s : Shared) (v : Value), BindsTo s fd ⟨[v], []⟩ [("_law_script", v)]) ∧ ∀ base : Heap, K.In base → base.Ns mainGlobals mg → FnG P w K mg base 9 fa fd ["_law_script"] (spLawR K) := by
  have e := hfa.symm.trans (PySem.W.mg_of X G a21)
  cases e
  have B : Bl mg := ⟨PySem.W.mg_none_of X G z_isinstance, PySem.W.mg_none_of X G z_int, PySem.W.mg_none_of X G z_bool, PySem.W.mg_none_of X G z_list, PySem.W.mg_none_of X G z_tuple, PySem.W.mg_none_of X G z_len, PySem.W.mg_none_of X G z_all, PySem.W.mg_none_of X G z_any, PySem.W.mg_none_of X G z_set, PySem.W.mg_none_of X G z_range, PySem.W.mg_none_of X G z_sorted, PySem.W.mg_none_of X G z_sum, PySem.W.mg_none_of X G z_abs, PySem.W.mg_none_of X G z_max, PySem.W.mg_none_of X G z_min, PySem.W.mg_none_of X G z_divmod, PySem.W.mg_none_of X G z_repr, PySem.W.mg_none_of X G z_enumerate, PySem.W.mg_none_of X G z_zip⟩
  have ms : mg "str" = none := PySem.W.mg_none_of X G z_str
  have F0 := fun_mk (st := sIsInt) l0 c0 k0
  have D0 : Df K mg "is_integer" sIsInt ["value"] f0 _ := ⟨F0, PySem.W.mg_of X G a0, F0.binds (ps := ["value"]) fun _ _ _ _ _ _ us hl => match us, hl with | [_], _ => rfl⟩
  have F1 := fun_mk (st := sIsCnt) l1 c1 k1
  have D1 : Df K mg "is_count" sIsCnt ["value"] f1 _ := ⟨F1, PySem.W.mg_of X G a1, F1.binds (ps := ["value"]) fun _ _ _ _ _ _ us hl => match us, hl with | [_], _ => rfl⟩
  have F2 := fun_mk (st := sIsLst) l2 c2 k2
  have D2 : Df K mg "is_list" sIsLst ["value"] f2 _ := ⟨F2, PySem.W.mg_of X G a2, F2.binds (ps := ["value"]) fun _ _ _ _ _ _ us hl => match us, hl with | [_], _ => rfl⟩
  have F3 := fun_mk (st := sIsNum) l3 c3 k3
  have D3 : Df K mg "is_number" sIsNum ["value"] f3 _ := ⟨F3, PySem.W.mg_of X G a3, F3.binds (ps := ["value"]) fun _ _ _ _ _ _ us hl => match us, hl with | [_], _ => rfl⟩
  have F4 := fun_mk (st := sAsRat) l4 c4 k4
  have D4 : Df K mg "as_ratio" sAsRat ["number"] f4 _ := ⟨F4, PySem.W.mg_of X G a4, F4.binds (ps := ["number"]) fun _ _ _ _ _ _ us hl => match us, hl with | [_], _ => rfl⟩
  have F5 := fun_mk (st := sPot) l5 c5 k5
  have D5 : Df K mg "_law_pot" sPot ["_law_script", "_law_k"] f5 _ := ⟨F5, PySem.W.mg_of X G a5, F5.binds (ps := ["_law_script", "_law_k"]) fun _ _ _ _ _ _ us hl => match us, hl with | [_, _], _ => rfl⟩
  have F6 := fun_mk (st := sDraw) l6 c6 k6
  have D6 : Df K mg "_law_draw" sDraw ["_law_pot_here", "_law_room"] f6 _ := ⟨F6, PySem.W.mg_of X G a6, F6.binds (ps := ["_law_pot_here", "_law_room"]) fun _ _ _ _ _ _ us hl => match us, hl with | [_, _], _ => rfl⟩
  have F7 := fun_mk (st := sPick) l7 c7 k7
  have D7 : Df K mg "_law_pick" sPick ["_law_pot_here", "_law_some"] f7 _ := ⟨F7, PySem.W.mg_of X G a7, F7.binds (ps := ["_law_pot_here", "_law_some"]) fun _ _ _ _ _ _ us hl => match us, hl with | [_, _], _ => rfl⟩
  have F8 := fun_mk (st := sLowR) l8 c8 k8
  have D8 : Df K mg "_law_low" sLowR ["_law_top", "_law_bottom"] f8 _ := ⟨F8, PySem.W.mg_of X G a8, F8.binds (ps := ["_law_top", "_law_bottom"]) fun _ _ _ _ _ _ us hl => match us, hl with | [_, _], _ => rfl⟩
  have F9 := fun_mk (st := sSumR) l9 c9 k9
  have D9 : Df K mg "_law_sum" sSumR ["_law_one", "_law_other"] f9 _ := ⟨F9, PySem.W.mg_of X G a9, F9.binds (ps := ["_law_one", "_law_other"]) fun _ _ _ _ _ _ us hl => match us, hl with | [_, _], _ => rfl⟩
  have F10 := fun_mk (st := sByR) l10 c10 k10
  have D10 : Df K mg "_law_by" sByR ["_law_one", "_law_other"] f10 _ := ⟨F10, PySem.W.mg_of X G a10, F10.binds (ps := ["_law_one", "_law_other"]) fun _ _ _ _ _ _ us hl => match us, hl with | [_, _], _ => rfl⟩
  have F11 := fun_mk (st := sLessR) l11 c11 k11
  have D11 : Df K mg "_law_less" sLessR ["_law_one", "_law_other"] f11 _ := ⟨F11, PySem.W.mg_of X G a11, F11.binds (ps := ["_law_one", "_law_other"]) fun _ _ _ _ _ _ us hl => match us, hl with | [_, _], _ => rfl⟩
  have F12 := fun_mk (st := sOverR) l12 c12 k12
  have D12 : Df K mg "_law_over" sOverR ["_law_one", "_law_other"] f12 _ := ⟨F12, PySem.W.mg_of X G a12, F12.binds (ps := ["_law_one", "_law_other"]) fun _ _ _ _ _ _ us hl => match us, hl with | [_, _], _ => rfl⟩
  have F13 := fun_mk (st := sTotR) l13 c13 k13
  have D13 : Df K mg "_law_total" sTotR ["_law_pairs_here"] f13 _ := ⟨F13, PySem.W.mg_of X G a13, F13.binds (ps := ["_law_pairs_here"]) fun _ _ _ _ _ _ us hl => match us, hl with | [_], _ => rfl⟩
  have F14 := fun_mk (st := sRtPair) l14 c14 k14
  have D14 : Df K mg "_law_pair" sRtPair ["_law_value"] f14 _ := ⟨F14, PySem.W.mg_of X G a14, F14.binds (ps := ["_law_value"]) fun _ _ _ _ _ _ us hl => match us, hl with | [_], _ => rfl⟩
  have F15 := fun_mk (st := sRtPairs) l15 c15 k15
  have D15 : Df K mg "_law_pairs" sRtPairs ["_law_value"] f15 _ := ⟨F15, PySem.W.mg_of X G a15, F15.binds (ps := ["_law_value"]) fun _ _ _ _ _ _ us hl => match us, hl with | [_], _ => rfl⟩
  have F16 := fun_mk (st := sShownR) l16 c16 k16
  have D16 : Df K mg "_law_shown" sShownR ["_law_pair_here"] f16 _ := ⟨F16, PySem.W.mg_of X G a16, F16.binds (ps := ["_law_pair_here"]) fun _ _ _ _ _ _ us hl => match us, hl with | [_], _ => rfl⟩
  have F17 := fun_mk (st := sRawR) l17 c17 k17
  have D17 : Df K mg "_law_raw" sRawR ["_law_pot_here"] f17 _ := ⟨F17, PySem.W.mg_of X G a17, F17.binds (ps := ["_law_pot_here"]) fun _ _ _ _ _ _ us hl => match us, hl with | [_], _ => rfl⟩
  have F18 := fun_mk (st := sOneRt) l18 c18 k18
  have D18 : Df K mg "_law_one_right" sOneRt ["_law_raw_here"] f18 _ := ⟨F18, PySem.W.mg_of X G a18, F18.binds (ps := ["_law_raw_here"]) fun _ _ _ _ _ _ us hl => match us, hl with | [_], _ => rfl⟩
  have F19 := fun_mk (st := sTwoRt) l19 c19 k19
  have D19 : Df K mg "_law_two_right" sTwoRt ["_law_raw_here", "_law_other_raw", "_law_number"] f19 _ := ⟨F19, PySem.W.mg_of X G a19, F19.binds (ps := ["_law_raw_here", "_law_other_raw", "_law_number"]) fun _ _ _ _ _ _ us hl => match us, hl with | [_, _, _], _ => rfl⟩
  have F20 := fun_mk (st := sRight) l20 c20 k20
  have D20 : Df K mg "_law_right" sRight ["_law_pot_here"] f20 _ := ⟨F20, PySem.W.mg_of X G a20, F20.binds (ps := ["_law_pot_here"]) fun _ _ _ _ _ _ us hl => match us, hl with | [_], _ => rfl⟩
  have F21 := fun_mk (st := sLaw) l21 c21 k21
  have F22 := fun_mk (st := sRAdd) l22 c22 k22
  have b22 := F22.binds (ps := ["self", "other"]) fun _ _ _ _ _ _ us hl => match us, hl with | [_, _], _ => rfl
  have F23 := fun_mk (st := sRRadd) l23 c23 k23
  have b23 := F23.binds (ps := ["self", "other"]) fun _ _ _ _ _ _ us hl => match us, hl with | [_, _], _ => rfl
  have F24 := fun_mk (st := sRSub) l24 c24 k24
  have b24 := F24.binds (ps := ["self", "other"]) fun _ _ _ _ _ _ us hl => match us, hl with | [_, _], _ => rfl
  have F25 := fun_mk (st := sRRsub) l25 c25 k25
  have b25 := F25.binds (ps := ["self", "other"]) fun _ _ _ _ _ _ us hl => match us, hl with | [_, _], _ => rfl
  have F26 := fun_mk (st := sRMul) l26 c26 k26
  have b26 := F26.binds (ps := ["self", "other"]) fun _ _ _ _ _ _ us hl => match us, hl with | [_, _], _ => rfl
  have F27 := fun_mk (st := sRRmul) l27 c27 k27
  have b27 := F27.binds (ps := ["self", "other"]) fun _ _ _ _ _ _ us hl => match us, hl with | [_, _], _ => rfl
  have F28 := fun_mk (st := sRNeg) l28 c28 k28
  have b28 := F28.binds (ps := ["self"]) fun _ _ _ _ _ _ us hl => match us, hl with | [_], _ => rfl
  have F29 := fun_mk (st := sROver) l29 c29 k29
  have b29 := F29.binds (ps := ["self", "other"]) fun _ _ _ _ _ _ us hl => match us, hl with | [_, _], _ => rfl
  have F30 := fun_mk (st := sRSize) l30 c30 k30
  have b30 := F30.binds (ps := ["self"]) fun _ _ _ _ _ _ us hl => match us, hl with | [_], _ => rfl
  have F31 := fun_mk (st := sRBelow) l31 c31 k31
  have b31 := F31.binds (ps := ["self", "other"]) fun _ _ _ _ _ _ us hl => match us, hl with | [_, _], _ => rfl
  have F32 := fun_mk (st := sRMost) l32 c32 k32
  have b32 := F32.binds (ps := ["self", "other"]) fun _ _ _ _ _ _ us hl => match us, hl with | [_, _], _ => rfl
  have F33 := fun_mk (st := sREq) l33 c33 k33
  have b33 := F33.binds (ps := ["self", "other"]) fun _ _ _ _ _ _ us hl => match us, hl with | [_, _], _ => rfl
  have F34 := fun_mk (st := sRStr) l34 c34 k34
  have b34 := F34.binds (ps := ["self"]) fun _ _ _ _ _ _ us hl => match us, hl with | [_], _ => rfl
  have F35 := fun_mk (st := sRRepr) l35 c35 k35
  have b35 := F35.binds (ps := ["self"]) fun _ _ _ _ _ _ us hl => match us, hl with | [_], _ => rfl
  have F36 := fun_mk (st := sRTop) l36 c36 k36
  have b36 := F36.binds (ps := ["self"]) fun _ _ _ _ _ _ us hl => match us, hl with | [_], _ => rfl
  have F37 := fun_mk (st := sRBot) l37 c37 k37
  have b37 := F37.binds (ps := ["self"]) fun _ _ _ _ _ _ us hl => match us, hl with | [_], _ => rfl
  have F38 := fun_mk (st := sRSign) l38 c38 k38
  have b38 := F38.binds (ps := ["self"]) fun _ _ _ _ _ _ us hl => match us, hl with | [_], _ => rfl
  have F39 := fun_mk (st := sRWhole) l39 c39 k39
  have b39 := F39.binds (ps := ["self"]) fun _ _ _ _ _ _ us hl => match us, hl with | [_], _ => rfl
  have F41 := fun_mk (st := sRTotal) l41 c41 k41
  have b41 := F41.binds (ps := ["cls", "numbers"]) fun _ _ _ _ _ _ us hl => match us, hl with | [_, _], _ => rfl
  have FI : FunD K "__init__" "Ratio.__init__" (defArgs sRInit) (defBody sRInit) (defScope sRInit) [.int 1] [] f40 _ := ⟨⟨_, _, _, _, _, _, _, _, _, _, rfl, l40, c40, .inr ⟨by simp, T1, _, [.int 1 tkT], nT, rfl, lT, rfl, .cons ⟨tkT, rfl⟩ .nil⟩, .inl rfl⟩, k40⟩
  have T : RtC K mg C := ⟨⟨q1, q2, q3, q4⟩, n1, n2, PySem.W.mg_of X G aC, PySem.W.mg_of X G aG⟩
  have I : C8.InsC K C := ⟨T.cl, w1, w2, w3, w4, kit_self⟩
  have MI : Mk K C f40 := ⟨q5, a40, i40, q6⟩
  have M : RtM K mg C f40 _ := ⟨T, I, kit_no kc kt s1 rfl, kr, MI, FI, rinit_b FI, rinit_b1 FI⟩
  have Zp : RtP K C p0 f36 p1 f37 _ _ := ⟨⟨pa0, pg0, pt0, ⟨_, pr0⟩⟩, F36, b36, ⟨pa1, pg1, pt1, ⟨_, pr1⟩⟩, F37, b37⟩
  have pS : PropOf K C "sign" p2 f38 := ⟨pa2, pg2, pt2, ⟨_, pr2⟩⟩
  have pW : PropOf K C "is_whole" p3 f39 := ⟨pa3, pg3, pt3, ⟨_, pr3⟩⟩
  have TA : NeO.BinT K C f22 "add" := ⟨sf, a22, i22, ⟨_, a23, .inr ⟨_, rfl⟩⟩, ⟨_, tadd⟩, ⟨_, radd⟩, s1⟩
  have TS : NeO.BinT K C f24 "sub" := ⟨sf, a24, i24, ⟨_, a25, .inr ⟨_, rfl⟩⟩, ⟨_, tsub⟩, ⟨_, rsub⟩, s1⟩
  have TM : NeO.BinT K C f26 "mul" := ⟨sf, a26, i26, ⟨_, a27, .inr ⟨_, rfl⟩⟩, ⟨_, tmul⟩, ⟨_, rmul⟩, s1⟩
  have RA : NeO.BinR K C f23 "add" := ⟨sf, ⟨_, a22⟩, a23, i23, s2⟩
  have RS : NeO.BinR K C f25 "sub" := ⟨sf, ⟨_, a24⟩, a25, i25, s2⟩
  have RM : NeO.BinR K C f27 "mul" := ⟨sf, ⟨_, a26⟩, a27, i27, s2⟩
  refine ⟨PySem.W.fnOf "law" "law" (defArgs sLaw) (defBody sLaw) (defScope sLaw) .none kV21 dc21 pm21 an21 cd21 ct21, fun s v => .of_eq rfl, fun base _ _ => ?_⟩
  have GI : FnOk P w K mg base CX0 2 f40 _ ["self", "top", "bottom"] (spRInit C) := ok_rinit FI T D0 B
  have GAd : FnOk P w K mg base CX0 5 f22 _ ["self", "other"] (spBin C addQ) := ok_radd F22 M Zp D0 D4 B
  have GSu : FnOk P w K mg base CX0 5 f24 _ ["self", "other"] (spBin C subQ) := ok_rsub F24 M Zp D0 D4 B
  have GMu : FnOk P w K mg base CX0 5 f26 _ ["self", "other"] (spBin C mulQ) := ok_rmul F26 M Zp D0 D4 B
  have GRa : FnOk P w K mg base CX0 6 f23 _ ["self", "other"] (spRev C addQ) := ok_rradd F23 M D0 D4 sf a22 i22 b22 GAd B
  have GRs : FnOk P w K mg base CX0 6 f25 _ ["self", "other"] (spRev C subQ) := ok_rrsub F25 M D0 D4 sf a24 i24 b24 GSu B
  have GRm : FnOk P w K mg base CX0 6 f27 _ ["self", "other"] (spRev C mulQ) := ok_rrmul F27 M D0 D4 sf a26 i26 b26 GMu B
  have GTo : FnOk P w K mg base CX0 6 f41 _ ["cls", "numbers"] (spTotal K C) := ok_total F41 M D0 D2 TA b22 GAd B
  have GPr : FnOk P w K mg base CX0 3 f14 _ ["_law_value"] (spPairR K C) := ok_pairR D14.F M Zp B
  have GSm : FnOk P w K mg base CX0 2 f9 _ ["_law_one", "_law_other"] (spTwoR K addQ) := ok_sumR D9.F D8 B
  have Z : CallsRt P w K mg base C :=
    { make := ⟨_, _, M, GI, rinit_k FI⟩,
       pair := ⟨_, _, D14, GPr⟩,
       low := ⟨_, _, D8, ok_lowR D8.F B⟩,
       shown := ⟨_, _, D16, ok_shownR D16.F ms⟩,
       sign := ⟨_, _, _, pS, ok_rsign F38 T, b38⟩,
       whole := ⟨_, _, _, pW, ok_rwhole F39 T, b39⟩,
       size := ⟨_, _, ⟨a30, i30, k30⟩, ok_rsize F30 M D0 B, b30⟩,
       neg := ⟨_, _, ⟨a28, i28⟩, ok_rneg F28 M D0 B, b28⟩,
       rsub := ⟨_, _, RS, GRs, b25⟩,
       num := ⟨_, _, D3, ok_isNumR D3.F M D0 B, ok_isNumV D3.F M D0 B⟩,
       int := ⟨_, _, D0, ok_noInt D0.F M B, ok_isInt D0.F B⟩,
       cnt := ⟨_, _, D1, ok_noCnt D1.F M D0 B, ok_isCnt D1.F D0 B⟩,
       str := ⟨_, _, ⟨a34, i34⟩, ok_rstr F34 T ms, b34⟩,
       repr := ⟨_, _, ⟨a35, i35⟩, ok_rrepr F35 T, b35⟩,
       ms := ms }
  have Y : CallsRu P w K mg base C :=
    { add := ⟨_, _, TA, GAd, b22⟩, sub := ⟨_, _, TS, GSu, b24⟩, mul := ⟨_, _, TM, GMu, b26⟩, radd := ⟨_, _, RA, GRa, b23⟩, rmul := ⟨_, _, RM, GRm, b27⟩,
       over := ⟨_, _, ⟨a29, i29, k29⟩, ok_rover F29 M Zp pS F38 b38 D0 D4 B, b29, fun s u ws h => match ws, h with | [_], _ => .of_eq rfl⟩,
       below := ⟨_, _, ⟨a31, i31, k31⟩, ok_rbelow F31 M pS F38 b38 TS b24 GSu, b31⟩,
       most := ⟨_, _, ⟨a32, i32, k32⟩, ok_rmost F32 M pS F38 b38 TS b24 GSu, b32⟩,
       eq := ⟨_, _, ⟨a33, i33⟩, ⟨a33, i33, ne, w4⟩, ok_req F33 M B, ok_reqV F33 M B, b33, s2, nf⟩,
       lsum := ⟨_, _, D9, GSm⟩,
       lless := ⟨_, _, D11, ok_lessR D11.F D9 GSm⟩,
       lby := ⟨_, _, D10, ok_byR D10.F D8 B⟩,
       lover := ⟨_, _, D12, ok_overR D12.F D8 B⟩,
       pairs := ⟨_, _, D15, ok_pairsR D15.F D14 GPr B⟩ }
  have V' : CallsRv P w K mg base C :=
    { raw := ⟨_, _, D17, ok_rawR D17.F D6 D7 B⟩,
       one := ⟨_, _, D18, ok_oneRt D18.F Z B⟩,
       two := ⟨_, _, D19, ok_twoRt D19.F Z Y B⟩,
       pick := ⟨_, _, D7, ok_pick D7.F D6 B⟩,
       draw := ⟨_, _, D6, ok_draw D6.F B⟩,
       ltot := ⟨_, _, D13, ok_totR D13.F D9 GSm⟩,
       tot := ⟨_, _, _, _, ⟨rd, ga⟩, ⟨ca, ⟨_, cr⟩, cf⟩, GTo, b41, fun s u ws h => match ws, h with | [_], _ => .of_eq rfl⟩,
       kB := kit_no kc kt ks0 rfl, kN := kit_no kc kt ks1 rfl, kS := kit_no kc kt ks2 rfl, kL := kit_no kc kt ks3 rfl, kT := kit_no kc kt ks4 rfl }
  exact ok_lawR F21 D5 D20 (ok_rightR D20.F Z Y V' B) B
theorem walk {l : PySem.W.OpenLaw} {q : Program} {loose : List Str} {XP : (Str → Option Value) → Heap → Prop} {YP : World → Heap → Prop} {d : DefRec} {K : Params → PySem.W.Frag} (hn : l.most = some 63) (hdf : d.params.defaults = [])
    (hY : ∀ (w : World) (h : Heap), YP w h → (K w.params).In h)
    (F : ∀ (w : World) (mg : Str → Option Value) (fa : Addr) (h : Heap), (K w.params).In h → h.Ns mainGlobals mg → mg d.name = some (.ref fa) →
      ∃ fd : FuncData, (∀ (s : Shared) (u : Value), BindsTo s fd ⟨[u], []⟩ [("_law_script", u)]) ∧ ∀ base : Heap, (K w.params).In base → base.Ns mainGlobals mg → FnG l.prog w (K w.params) mg base 9 fa fd ["_law_script"] (spLawR (K w.params))) :
    PySem.W.WalkO q loose XP YP l.row.toRowW d [] (fun f vs => PySem.call f vs) :=
  walkG (n := 63) (k := 9) (x := "_law_script") (sp := fun w => spLawR (K w.params)) hn (by decide) hdf ⟨rfl, by decide, by decide⟩ hY F (fun _ _ a ns _ _ _ hS => ⟨a, ns, rfl, hS, fun _ => rfl⟩)
end Tk
open PySem PySem.W PyProof.Rows
set_option maxRecDepth 100000 in
set_option maxHeartbeats 0 in
theorem PySem.Challenge.cw_toldpushes_k11_ratios_reckoned_holds : PySem.Challenge.rw_toldpushes_k11_ratios_reckoned.Holds := by
  w_on; o_law; k_head; (case hw => w_witness2)
  k_fill
  refine Tk.walk (l := PySem.Challenge.rw_toldpushes_k11_ratios_reckoned) rfl rfl (fun w h Y => PySem.W.kIn_of Y) ?F
  case F =>
    intro w mg fa h KX G hmg
    refine' Tk.all_mk KX G hmg ?aC ?aG ?a0 ?l0 ?c0 ?k0 ?a1 ?l1 ?c1 ?k1 ?a2 ?l2 ?c2 ?k2 ?a3 ?l3 ?c3 ?k3 ?a4 ?l4 ?c4 ?k4 ?a5 ?l5 ?c5 ?k5 ?a6 ?l6 ?c6 ?k6 ?a7 ?l7 ?c7 ?k7 ?a8 ?l8 ?c8 ?k8 ?a9 ?l9 ?c9 ?k9 ?a10 ?l10 ?c10 ?k10 ?a11 ?l11 ?c11 ?k11 ?a12 ?l12 ?c12 ?k12 ?a13 ?l13 ?c13 ?k13 ?a14 ?l14 ?c14 ?k14 ?a15 ?l15 ?c15 ?k15 ?a16 ?l16 ?c16 ?k16 ?a17 ?l17 ?c17 ?k17 ?a18 ?l18 ?c18 ?k18 ?a19 ?l19 ?c19 ?k19 ?a20 ?l20 ?c20 ?k20 ?a21 ?l21 ?c21 ?k21 ?a22 ?i22 ?l22 ?c22 ?k22 ?a23 ?i23 ?l23 ?c23 ?k23 ?a24 ?i24 ?l24 ?c24 ?k24 ?a25 ?i25 ?l25 ?c25 ?k25 ?a26 ?i26 ?l26 ?c26 ?k26 ?a27 ?i27 ?l27 ?c27 ?k27 ?a28 ?i28 ?l28 ?c28 ?k28 ?a29 ?i29 ?l29 ?c29 ?k29 ?a30 ?i30 ?l30 ?c30 ?k30 ?a31 ?i31 ?l31 ?c31 ?k31 ?a32 ?i32 ?l32 ?c32 ?k32 ?a33 ?i33 ?l33 ?c33 ?k33 ?a34 ?i34 ?l34 ?c34 ?k34 ?a35 ?i35 ?l35 ?c35 ?k35 ?pa0 ?pg0 ?pt0 ?pr0 ?l36 ?c36 ?k36 ?pa1 ?pg1 ?pt1 ?pr1 ?l37 ?c37 ?k37 ?pa2 ?pg2 ?pt2 ?pr2 ?l38 ?c38 ?k38 ?pa3 ?pg3 ?pt3 ?pr3 ?l39 ?c39 ?k39 ?a40 ?i40 ?l40 ?c40 ?k40 ?lT ?rd ?ga ?ca ?cr ?l41 ?c41 ?k41 ?cf ?sf ?tadd ?radd ?tsub ?rsub ?tmul ?rmul ?s1 ?s2 ?nf ?kc ?kt ?ks0 ?ks1 ?ks2 ?ks3 ?ks4 ?kr ?q1 ?q2 ?q3 ?q4 ?q5 ?q6 ?n1 ?n2 ?w1 ?w2 ?w3 ?w4 ?ne ?z_isinstance ?z_int ?z_bool ?z_list ?z_tuple ?z_len ?z_all ?z_any ?z_set ?z_range ?z_sorted ?z_sum ?z_abs ?z_max ?z_min ?z_divmod ?z_repr ?z_enumerate ?z_zip ?z_str
    (case aC => first | k_is | rfl | decide +kernel)
    (case aG => first | k_is | rfl | decide +kernel)
    (case a0 => first | k_is | rfl | decide +kernel)
    (case l0 => first | k_is | rfl | decide +kernel)
    (case c0 => first | k_is | rfl | decide +kernel)
    (case k0 => first | k_is | rfl | decide +kernel)
    (case a1 => first | k_is | rfl | decide +kernel)
    (case l1 => first | k_is | rfl | decide +kernel)
    (case c1 => first | k_is | rfl | decide +kernel)
    (case k1 => first | k_is | rfl | decide +kernel)
    (case a2 => first | k_is | rfl | decide +kernel)
    (case l2 => first | k_is | rfl | decide +kernel)
    (case c2 => first | k_is | rfl | decide +kernel)
    (case k2 => first | k_is | rfl | decide +kernel)
    (case a3 => first | k_is | rfl | decide +kernel)
    (case l3 => first | k_is | rfl | decide +kernel)
    (case c3 => first | k_is | rfl | decide +kernel)
    (case k3 => first | k_is | rfl | decide +kernel)
    (case a4 => first | k_is | rfl | decide +kernel)
    (case l4 => first | k_is | rfl | decide +kernel)
    (case c4 => first | k_is | rfl | decide +kernel)
    (case k4 => first | k_is | rfl | decide +kernel)
    (case a5 => first | k_is | rfl | decide +kernel)
    (case l5 => first | k_is | rfl | decide +kernel)
    (case c5 => first | k_is | rfl | decide +kernel)
    (case k5 => first | k_is | rfl | decide +kernel)
    (case a6 => first | k_is | rfl | decide +kernel)
    (case l6 => first | k_is | rfl | decide +kernel)
    (case c6 => first | k_is | rfl | decide +kernel)
    (case k6 => first | k_is | rfl | decide +kernel)
    (case a7 => first | k_is | rfl | decide +kernel)
    (case l7 => first | k_is | rfl | decide +kernel)
    (case c7 => first | k_is | rfl | decide +kernel)
    (case k7 => first | k_is | rfl | decide +kernel)
    (case a8 => first | k_is | rfl | decide +kernel)
    (case l8 => first | k_is | rfl | decide +kernel)
    (case c8 => first | k_is | rfl | decide +kernel)
    (case k8 => first | k_is | rfl | decide +kernel)
    (case a9 => first | k_is | rfl | decide +kernel)
    (case l9 => first | k_is | rfl | decide +kernel)
    (case c9 => first | k_is | rfl | decide +kernel)
    (case k9 => first | k_is | rfl | decide +kernel)
    (case a10 => first | k_is | rfl | decide +kernel)
    (case l10 => first | k_is | rfl | decide +kernel)
    (case c10 => first | k_is | rfl | decide +kernel)
    (case k10 => first | k_is | rfl | decide +kernel)
    (case a11 => first | k_is | rfl | decide +kernel)
    (case l11 => first | k_is | rfl | decide +kernel)
    (case c11 => first | k_is | rfl | decide +kernel)
    (case k11 => first | k_is | rfl | decide +kernel)
    (case a12 => first | k_is | rfl | decide +kernel)
    (case l12 => first | k_is | rfl | decide +kernel)
    (case c12 => first | k_is | rfl | decide +kernel)
    (case k12 => first | k_is | rfl | decide +kernel)
    (case a13 => first | k_is | rfl | decide +kernel)
    (case l13 => first | k_is | rfl | decide +kernel)
    (case c13 => first | k_is | rfl | decide +kernel)
    (case k13 => first | k_is | rfl | decide +kernel)
    (case a14 => first | k_is | rfl | decide +kernel)
    (case l14 => first | k_is | rfl | decide +kernel)
    (case c14 => first | k_is | rfl | decide +kernel)
    (case k14 => first | k_is | rfl | decide +kernel)
    (case a15 => first | k_is | rfl | decide +kernel)
    (case l15 => first | k_is | rfl | decide +kernel)
    (case c15 => first | k_is | rfl | decide +kernel)
    (case k15 => first | k_is | rfl | decide +kernel)
    (case a16 => first | k_is | rfl | decide +kernel)
    (case l16 => first | k_is | rfl | decide +kernel)
    (case c16 => first | k_is | rfl | decide +kernel)
    (case k16 => first | k_is | rfl | decide +kernel)
    (case a17 => first | k_is | rfl | decide +kernel)
    (case l17 => first | k_is | rfl | decide +kernel)
    (case c17 => first | k_is | rfl | decide +kernel)
    (case k17 => first | k_is | rfl | decide +kernel)
    (case a18 => first | k_is | rfl | decide +kernel)
    (case l18 => first | k_is | rfl | decide +kernel)
    (case c18 => first | k_is | rfl | decide +kernel)
    (case k18 => first | k_is | rfl | decide +kernel)
    (case a19 => first | k_is | rfl | decide +kernel)
    (case l19 => first | k_is | rfl | decide +kernel)
    (case c19 => first | k_is | rfl | decide +kernel)
    (case k19 => first | k_is | rfl | decide +kernel)
    (case a20 => first | k_is | rfl | decide +kernel)
    (case l20 => first | k_is | rfl | decide +kernel)
    (case c20 => first | k_is | rfl | decide +kernel)
    (case k20 => first | k_is | rfl | decide +kernel)
    (case a21 => first | k_is | rfl | decide +kernel)
    (case l21 => first | k_is | rfl | decide +kernel)
    (case c21 => first | k_is | rfl | decide +kernel)
    (case k21 => first | k_is | rfl | decide +kernel)
    (case a22 => first | k_is | rfl | decide +kernel)
    (case i22 => first | k_is | rfl | decide +kernel)
    (case l22 => first | k_is | rfl | decide +kernel)
    (case c22 => first | k_is | rfl | decide +kernel)
    (case k22 => first | k_is | rfl | decide +kernel)
    (case a23 => first | k_is | rfl | decide +kernel)
    (case i23 => first | k_is | rfl | decide +kernel)
    (case l23 => first | k_is | rfl | decide +kernel)
    (case c23 => first | k_is | rfl | decide +kernel)
    (case k23 => first | k_is | rfl | decide +kernel)
    (case a24 => first | k_is | rfl | decide +kernel)
    (case i24 => first | k_is | rfl | decide +kernel)
    (case l24 => first | k_is | rfl | decide +kernel)
    (case c24 => first | k_is | rfl | decide +kernel)
    (case k24 => first | k_is | rfl | decide +kernel)
    (case a25 => first | k_is | rfl | decide +kernel)
    (case i25 => first | k_is | rfl | decide +kernel)
    (case l25 => first | k_is | rfl | decide +kernel)
    (case c25 => first | k_is | rfl | decide +kernel)
    (case k25 => first | k_is | rfl | decide +kernel)
    (case a26 => first | k_is | rfl | decide +kernel)
    (case i26 => first | k_is | rfl | decide +kernel)
    (case l26 => first | k_is | rfl | decide +kernel)
    (case c26 => first | k_is | rfl | decide +kernel)
    (case k26 => first | k_is | rfl | decide +kernel)
    (case a27 => first | k_is | rfl | decide +kernel)
    (case i27 => first | k_is | rfl | decide +kernel)
    (case l27 => first | k_is | rfl | decide +kernel)
    (case c27 => first | k_is | rfl | decide +kernel)
    (case k27 => first | k_is | rfl | decide +kernel)
    (case a28 => first | k_is | rfl | decide +kernel)
    (case i28 => first | k_is | rfl | decide +kernel)
    (case l28 => first | k_is | rfl | decide +kernel)
    (case c28 => first | k_is | rfl | decide +kernel)
    (case k28 => first | k_is | rfl | decide +kernel)
    (case a29 => first | k_is | rfl | decide +kernel)
    (case i29 => first | k_is | rfl | decide +kernel)
    (case l29 => first | k_is | rfl | decide +kernel)
    (case c29 => first | k_is | rfl | decide +kernel)
    (case k29 => first | k_is | rfl | decide +kernel)
    (case a30 => first | k_is | rfl | decide +kernel)
    (case i30 => first | k_is | rfl | decide +kernel)
    (case l30 => first | k_is | rfl | decide +kernel)
    (case c30 => first | k_is | rfl | decide +kernel)
    (case k30 => first | k_is | rfl | decide +kernel)
    (case a31 => first | k_is | rfl | decide +kernel)
    (case i31 => first | k_is | rfl | decide +kernel)
    (case l31 => first | k_is | rfl | decide +kernel)
    (case c31 => first | k_is | rfl | decide +kernel)
    (case k31 => first | k_is | rfl | decide +kernel)
    (case a32 => first | k_is | rfl | decide +kernel)
    (case i32 => first | k_is | rfl | decide +kernel)
    (case l32 => first | k_is | rfl | decide +kernel)
    (case c32 => first | k_is | rfl | decide +kernel)
    (case k32 => first | k_is | rfl | decide +kernel)
    (case a33 => first | k_is | rfl | decide +kernel)
    (case i33 => first | k_is | rfl | decide +kernel)
    (case l33 => first | k_is | rfl | decide +kernel)
    (case c33 => first | k_is | rfl | decide +kernel)
    (case k33 => first | k_is | rfl | decide +kernel)
    (case a34 => first | k_is | rfl | decide +kernel)
    (case i34 => first | k_is | rfl | decide +kernel)
    (case l34 => first | k_is | rfl | decide +kernel)
    (case c34 => first | k_is | rfl | decide +kernel)
    (case k34 => first | k_is | rfl | decide +kernel)
    (case a35 => first | k_is | rfl | decide +kernel)
    (case i35 => first | k_is | rfl | decide +kernel)
    (case l35 => first | k_is | rfl | decide +kernel)
    (case c35 => first | k_is | rfl | decide +kernel)
    (case k35 => first | k_is | rfl | decide +kernel)
    (case pa0 => first | k_is | rfl | decide +kernel)
    (case pg0 => first | k_is | rfl | decide +kernel)
    (case pt0 => first | k_is | rfl | decide +kernel)
    (case pr0 => first | k_is | rfl | decide +kernel)
    (case l36 => first | k_is | rfl | decide +kernel)
    (case c36 => first | k_is | rfl | decide +kernel)
    (case k36 => first | k_is | rfl | decide +kernel)
    (case pa1 => first | k_is | rfl | decide +kernel)
    (case pg1 => first | k_is | rfl | decide +kernel)
    (case pt1 => first | k_is | rfl | decide +kernel)
    (case pr1 => first | k_is | rfl | decide +kernel)
    (case l37 => first | k_is | rfl | decide +kernel)
    (case c37 => first | k_is | rfl | decide +kernel)
    (case k37 => first | k_is | rfl | decide +kernel)
    (case pa2 => first | k_is | rfl | decide +kernel)
    (case pg2 => first | k_is | rfl | decide +kernel)
    (case pt2 => first | k_is | rfl | decide +kernel)
    (case pr2 => first | k_is | rfl | decide +kernel)
    (case l38 => first | k_is | rfl | decide +kernel)
    (case c38 => first | k_is | rfl | decide +kernel)
    (case k38 => first | k_is | rfl | decide +kernel)
    (case pa3 => first | k_is | rfl | decide +kernel)
    (case pg3 => first | k_is | rfl | decide +kernel)
    (case pt3 => first | k_is | rfl | decide +kernel)
    (case pr3 => first | k_is | rfl | decide +kernel)
    (case l39 => first | k_is | rfl | decide +kernel)
    (case c39 => first | k_is | rfl | decide +kernel)
    (case k39 => first | k_is | rfl | decide +kernel)
    (case a40 => first | k_is | rfl | decide +kernel)
    (case i40 => first | k_is | rfl | decide +kernel)
    (case l40 => first | k_is | rfl | decide +kernel)
    (case c40 => first | k_is | rfl | decide +kernel)
    (case k40 => first | k_is | rfl | decide +kernel)
    (case lT => first | k_is | rfl | decide +kernel)
    (case rd => first | k_is | rfl | decide +kernel)
    (case ga => first | k_is | rfl | decide +kernel)
    (case ca => first | k_is | rfl | decide +kernel)
    (case cr => first | k_is | rfl | decide +kernel)
    (case l41 => first | k_is | rfl | decide +kernel)
    (case c41 => first | k_is | rfl | decide +kernel)
    (case k41 => first | k_is | rfl | decide +kernel)
    (case cf => first | k_is | rfl | decide +kernel)
    (case sf => first | k_is | rfl | decide +kernel)
    (case tadd => first | k_is | rfl | decide +kernel)
    (case radd => first | k_is | rfl | decide +kernel)
    (case tsub => first | k_is | rfl | decide +kernel)
    (case rsub => first | k_is | rfl | decide +kernel)
    (case tmul => first | k_is | rfl | decide +kernel)
    (case rmul => first | k_is | rfl | decide +kernel)
    (case s1 => first | k_is | rfl | decide +kernel)
    (case s2 => first | k_is | rfl | decide +kernel)
    (case nf => first | k_is | rfl | decide +kernel)
    (case kc => first | k_is | rfl | decide +kernel)
    (case kt => first | k_is | rfl | decide +kernel)
    (case ks0 => first | k_is | rfl | decide +kernel)
    (case ks1 => first | k_is | rfl | decide +kernel)
    (case ks2 => first | k_is | rfl | decide +kernel)
    (case ks3 => first | k_is | rfl | decide +kernel)
    (case ks4 => first | k_is | rfl | decide +kernel)
    (case kr => first | k_is | rfl | decide +kernel)
    (case q1 => first | k_is | rfl | decide +kernel)
    (case q2 => first | k_is | rfl | decide +kernel)
    (case q3 => first | k_is | rfl | decide +kernel)
    (case q4 => first | k_is | rfl | decide +kernel)
    (case q5 => first | k_is | rfl | decide +kernel)
    (case q6 => first | k_is | rfl | decide +kernel)
    (case n1 => first | k_is | rfl | decide +kernel)
    (case n2 => first | k_is | rfl | decide +kernel)
    (case w1 => first | k_is | rfl | decide +kernel)
    (case w2 => first | k_is | rfl | decide +kernel)
    (case w3 => first | k_is | rfl | decide +kernel)
    (case w4 => first | k_is | rfl | decide +kernel)
    (case ne => first | k_is | rfl | decide +kernel)
    (case z_isinstance => first | k_is | rfl | decide +kernel)
    (case z_int => first | k_is | rfl | decide +kernel)
    (case z_bool => first | k_is | rfl | decide +kernel)
    (case z_list => first | k_is | rfl | decide +kernel)
    (case z_tuple => first | k_is | rfl | decide +kernel)
    (case z_len => first | k_is | rfl | decide +kernel)
    (case z_all => first | k_is | rfl | decide +kernel)
    (case z_any => first | k_is | rfl | decide +kernel)
    (case z_set => first | k_is | rfl | decide +kernel)
    (case z_range => first | k_is | rfl | decide +kernel)
    (case z_sorted => first | k_is | rfl | decide +kernel)
    (case z_sum => first | k_is | rfl | decide +kernel)
    (case z_abs => first | k_is | rfl | decide +kernel)
    (case z_max => first | k_is | rfl | decide +kernel)
    (case z_min => first | k_is | rfl | decide +kernel)
    (case z_divmod => first | k_is | rfl | decide +kernel)
    (case z_repr => first | k_is | rfl | decide +kernel)
    (case z_enumerate => first | k_is | rfl | decide +kernel)
    (case z_zip => first | k_is | rfl | decide +kernel)
    (case z_str => first | k_is | rfl | decide +kernel)
