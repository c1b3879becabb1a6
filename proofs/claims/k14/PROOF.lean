import PyProof.Rows.All
import Wide.All
import OpenK.AllK
import Wide.FinOn
import HandS.ForMost
import HandS.EndBits
import HandS.TupSets
import HandS.Deep
import HandS.Defaults
import HandS.Property
import HandS.IsInst
import HandS.Style
import HandS.Wide
import HandS.WideBits
import HandS.Flow
import PyProof.ReprRoads
import HandS.SetFor
import HandS.SortInts
import HandS.Zip
import PyProof.InstNe
import HandS.Base
import HandS.Call
import HandS.OwnEq
import OpenK.KOps
import OpenK.KMeth
import PyProof.ReprLen
import OpenK.KMore
import KE.KOpsOwn
import KE.KCallOwn
import PyProof.TwoTypes
import PyProof.Raises
import PyProof.AutoIntOps
import HandS.CallLocal
import HandS.ClsMeth
import HandS.Gcd
import HandS.Codes
import HandS.FStr
import HandS.Words
import PyProof.FitsInt
import HandS.Conv
import HandS.SortRule
import HandS.Star
import HandS.Walk
import HandS.Iter
import PyProof.CallFns
import KE.SortData
import PyProof.ReprNest
import PyProof.ReprReads
import PyProof.EqAt
import KE.GoesZip
import KE.GoesMore
import KE.GoesEnum
import HandS.Sort
import KE.KMathGC
import PySem.Challenge.RW_toldpushes_k14_whole_determinants
set_option Elab.async false
set_option linter.all false
set_option maxRecDepth 100000
set_option maxHeartbeats 8000000
namespace Tk
open PySem PySem.Spec PyProof.Rows L2

/-! ## promises of defs that want to know that no repr is running -/
structure FnG (P : Program) (w : World) (K : PySem.W.Frag) (mg : Str → Option Value) (base : Heap) (k : Nat) (f : Addr) (fd : FuncData) (ps : List Str) (sp : Sp) : Prop where
  len : ∀ vs H Q E, sp vs H Q E → vs.length = ps.length
  run : ∀ (A : Around) (outer : List Env) (s : Shared) (H : Hp) (args : Args) (us : List Value) (vs : List V) (Q : VK) (E : XK),
    A.guards = some [] → Room k A → Env0 P w K mg base A outer s H → BindsTo s fd args (ps.zip us) → Vals vs us → sp vs H Q E →
    codeAny (model P w) A (.call (.ref f) args) (CR CX0 outer P w H s Q E) s

theorem deeper_guards (A : Around) (env : Env) : (A.deeper env).guards = A.guards := rfl

section
variable {P : Program} {w : World} {K : PySem.W.Frag} {mg : Str → Option Value} {base : Heap}
/-- a def by its body, the body being told that no repr runs -/
theorem okG {nm qual : Str} {st : Stmt} {f : Addr} {fd : FuncData} {N ps : List Str} {k : Nat} {sp : Sp} (F : Fun K nm qual st f fd) (S : FnScope N ps (defScope st)) (len : ∀ vs H Q E, sp vs H Q E → vs.length = ps.length)
    (body : ∀ (cdv : Value) (A : Around) (outer : List Env) (s : Shared) (H : Hp) (vs : List V) (Q : VK) (E : XK), A.guards = some [] →
      Room k (A.deeper (envOfC qual (defScope st) s.heap.objs.size f cdv)) → sp vs H Q E →
      ∃ t, PSs (cxOf CX0 P w K mg base N qual (defScope st) f cdv A outer s H E).nox (defBody st) t ∧ t { nx := fun _ H' => Q .non H', rt := Q } (start N vs) H) :
    FnG P w K mg base (k + 1) f fd ps sp := by
  obtain ⟨oc, od, kV, doc, pm, an, cdv, ct, osl, rfl, lk, hcd⟩ := F.ex
  constructor
  · exact len
  intro A outer s H args us vs Q E hgd room en bnd vals hsp
  have nvs := len _ _ _ _ hsp
  have inK : K.In s.heap := en.mod.kin.keeps (fun b o z => (en.bs b o z).1)
  have noLim : s.heap.NoLimit := en.mod.nolimit.keeps (fun b o z => (en.bs b o z).1)
  have places : ∀ y ∈ ps.zip us, (defScope st).names.lookup y.1 = some .local ∨ ((defScope st).names.lookup y.1 = some .cell ∧ ((cellsFrom (s.heap.objs.size + 1) (defScope st).names []).lookup y.1).isSome = true) := by
    rintro ⟨n, v⟩ hy
    cases S.par n (List.of_mem_zip hy).1 with
    | inl l => exact Or.inl l
    | inr c => exact Or.inr ⟨c, PySem.W.cellsFrom_some _ _ _ (Or.inl c)⟩
  apply codeAny_call_function room.depth (inK _ _ lk) rfl S.co S.gen rfl (PySem.W.codeRec_of inK hcd)
  apply bnd
  apply wpAny_newFunctionEnv_cells S.kind places
  intro ev hev st1 ic
  subst hev
  refine ⟨noLim.keeps ic.toInCall.keep, ?_⟩
  apply codeAny_func
  obtain ⟨t, ht0, hq⟩ := body cdv A outer s H vs Q E hgd (room.deeper _) hsp
  have ht := ht0.nox
  have inv0 : Inv (cxOf CX0 P w K mg base N qual (defScope st) f cdv A outer s H E) [] (start N vs) H st1 := inv_start S room.hd en nvs vals ic
  have done : ∀ {σ' : L2.St} {H' : Hp} {v : V} {u : Value} {s' : Shared}, Inv (cxOf CX0 P w K mg base N qual (defScope st) f cdv A outer s H E) [] σ' H' s' → RelV v u → Q v H' → CE outer P w H s Q u s' := by
    intro σ' H' v u s' J rv q
    exact ⟨v, H', J.os, J.bare, J.base, J.hok, rv, q⟩
  refine wpAny_mono (ht.run [] st1 (start N vs) H _ inv0 hq) ?_ (fun e s' z => z)
  intro fl s' z
  cases fl with
  | next => obtain ⟨σ', H', J, q⟩ := z; exact done (v := V.non) (u := Value.none) J rfl q
  | ret u => obtain ⟨v, σ', H', J, rv, q⟩ := z; exact done J rv q
  | brk => obtain ⟨a1, a2, a3, q⟩ := z; exact q.elim
  | cont => obtain ⟨a1, a2, a3, q⟩ := z; exact q.elim
end

section
variable {X : Cx} {k : Nat} {f : Addr} {fd : FuncData} {ps : List Str} {sp : Sp} {x : Str} {p pos : Pos} {e : Expr} {es : List Expr} {t : TA}
theorem pe_callG (F : FnG X.prog X.w X.K X.mg X.base k f fd ps sp) (hgd : X.A.guards = some []) (hr : Room k X.A) (hg : Gl X x) (hm : X.mg x = some (.ref f)) (hk : PySem.W.keepIn X.K (.ref f) = true) (hb : Binds X.K fd ps [])
    (ha : PA X (e :: es) t) (hdb : (x == ("__debug__" : Str)) = false := by decide) (he : starEach (e :: es) X.env = (false, eval e X.env) :: starEach es X.env := by rfl) (hpl : (backTo pos (starEach es X.env)).any (·.1) = false := by rfl) :
    PE X (.Call (.Name x p) (e :: es) [] pos) (tCall sp [] E0 t) := by
  constructor
  intro pins s σ H Q I h
  apply wpAny_Call_Name_kw
  apply ld_glob I hg hm _ hdb
  refine PySem.W.callWith_K (h₀ := X.base) I.ok.mod.kin hk (thn (ha.run pos pins s σ H _ I h) ?_) he hpl
  rintro us s1 ⟨vs, H1, I1, rv, q⟩
  refine ⟨I1.kIn, ?_⟩
  rw [List.append_nil] at q
  have ln : us.length = ps.length := by rw [← rv.length]; exact F.len _ _ _ _ q
  have bd := hb s1 us I1.kIn (by rw [List.append_nil]; exact ln)
  rw [List.append_nil] at bd
  apply wpAny_call
  refine codeAny_mono (F.run X.A X.stack s1 H1 ⟨us, []⟩ us vs Q E0 hgd hr I1.env0 bd rv q) ?_
  intro r s' hq
  cases r with
  | error er => exact hq.elim
  | ok fl =>
    cases fl with
    | ret u => exact I1.after hq
    | next => exact hq.elim
    | brk => exact hq.elim
    | cont => exact hq.elim

/-- repr of data of any depth -/
def rRepD (K : PySem.W.Frag) : List V → Hp → VK → Prop := fun xs H Q => ∃ (a : Addr) (d : PyData), xs = [.ref a] ∧ Dp K H (.ref a) d ∧ d.showable = true ∧ d.hasDict = false ∧ d.depth ≤ 50 ∧ d.shown.length ≤ sizeLine ∧ Q (.str d.shown) H
theorem call_reprD (hgd : X.A.guards = some []) (hu : X.A.units + 64 < cLine) : CallR X (.builtin "repr") (rRepD X.K) := by
  intro pins s σ H xs us Q I r h
  obtain ⟨a, d, rfl, hd, hs, hn, hdp, hz, q⟩ := h
  obtain rfl : us = [Value.ref a] := Vals.ref1 r
  obtain ⟨as, rd⟩ := Dp.reads I d (.ref a) (.ref a) hd rfl
  refine repr_of_reads' (h₀ := s.heap) rd hs (PyData.noDict_hsm hn) hgd (by omega) (fun b o z => z) (fun h' u tk keep => ?_) hz
  have J : Inv X pins σ H { s with heap := h' } := I.kept keep
  exact ⟨.str d.shown, H, J.tok _, ⟨u, rfl⟩, q⟩
end

/-! ## the end: the law's def as the outermost call, no repr around it -/
theorem law_callG {P : Program} {w : World} {K : PySem.W.Frag} {mg mb : Str → Option Value} {k : Nat} {fa a : Addr} {fd : FuncData} {x : Str} {sp : Sp} {s1 : Shared} {vs : List Value} {ns : List Int}
    (inK : K.In s1.heap) (gn : s1.heap.Ns mainGlobals mg) (bn : s1.heap.Ns builtinsNs mb) (bb : ∀ y : Str, y ≠ "__name__" → mb y = bootBuiltins y) (noLim : s1.heap.NoLimit) (noGen : s1.gens = #[])
    (obj : s1.heap.get? a = some { cls := .type "list", data := .seq vs.toArray }) (hints : IntsAre vs ns) (short : ns.length ≤ sizeLine) (room : Room k callerA)
    (F : ∀ base : Heap, K.In base → base.Ns mainGlobals mg → FnG P w K mg base k fa fd [x] sp) (bind : ∀ (s : Shared) (u : Value), BindsTo s fd ⟨[u], []⟩ [(x, u)])
    (keeps : ∀ H : Hp, Only H → SqL K H a (ns.map V.int) → sp [.ref a] H (fun v _ => v = .bl true) fun _ _ _ => False) :
    codeAny (model P w) callerA (.call (.ref fa) ⟨[.ref a], []⟩) (fun r s' => r = .ok (.ret (.bool true)) ∧ OldK s1.heap s'.heap ∧ s'.os = s1.os ∧ AllBare s'.gens) s1 := by
  have rel := vals_ints hints
  have many := hints.length
  have main : ∀ H : Hp, Only H → SqL K H a (ns.map V.int) → HOk P w H s1.heap → (∀ b, H b ≠ none → b = a) → (H a ≠ none → K.lookup a = none) →
      codeAny (model P w) callerA (.call (.ref fa) ⟨[.ref a], []⟩) (fun r s' => r = .ok (.ret (.bool true)) ∧ OldK s1.heap s'.heap ∧ s'.os = s1.os ∧ AllBare s'.gens) s1 := by
    intro H only isl hok just noK
    have ofB : ∀ {b : Addr} {o : Obj}, s1.heap.get? b = some o → H b = none → (hidT s1.heap H).get? b = some o := fun z n => hidT_get z n
    have notA : ∀ {b : Addr} {o : Obj} {es : Array DictEntry} {ep : Nat}, s1.heap.get? b = some o → o.data = .dict es ep → H b = none := by
      intro b o es ep z d
      cases hb : H b with
      | none => rfl
      | some u =>
        obtain rfl : b = a := just b (by rw [hb]; simp)
        rw [obj] at z
        cases z
        exact absurd (show Data.seq vs.toArray _ = Data.dict es ep from d) (by intro y; cases y)
    have nsB : ∀ {b : Addr} {m : Str → Option Value}, s1.heap.Ns b m → (hidT s1.heap H).Ns b m := by
      rintro b m ⟨o, es, ep, z, d, r⟩
      exact ⟨o, es, ep, ofB z (notA z d), d, r⟩
    have inKb : K.In (hidT s1.heap H) := by
      intro b o z
      refine ofB (inK b o z) ?_
      cases hb : H b with
      | none => rfl
      | some u =>
        obtain rfl : b = a := just b (by rw [hb]; simp)
        rw [noK (by rw [hb]; simp)] at z
        cases z
    have md : Mod K mg (hidT s1.heap H) := by
      obtain ⟨mc, l1, l2⟩ := noLim
      exact ⟨inKb, nsB gn, ⟨mb, nsB bn, bb⟩, ⟨mc, nsB l1, l2⟩⟩
    have en : Env0 P w K mg (hidT s1.heap H) callerA [] s1 H := by
      refine ⟨rfl, md, fun b o z => of_hidT z, Nat.le_of_eq (hidT_size _ _), trivial, ?_, hok, .of_eq noGen⟩
      intro b hb
      exact absurd (show b ∈ ([] : List Addr) from hb) (by simp)
    refine codeAny_mono ((F _ inKb (nsB gn)).run callerA [] s1 H ⟨[.ref a], []⟩ [.ref a] [.ref a] _ _ rfl room en (bind s1 (.ref a)) (.cons rfl .nil) (keeps H only isl)) ?_
    intro r s' hr
    cases r with
    | error er => exact hr.elim
    | ok fl =>
      cases fl with
      | next => exact hr.elim
      | brk => exact hr.elim
      | cont => exact hr.elim
      | ret u =>
        obtain ⟨v, H', os, bare, un, hok', rv, q⟩ := hr
        obtain rfl : v = .bl true := q
        obtain rfl : u = Value.bool true := rv
        refine ⟨rfl, OldK.of_keep ?_, os, bare⟩
        intro b o z
        cases hb : H b with
        | none => exact un.keep b o z hb (fun y => absurd (show b ∈ ([] : List Addr) from y) (by simp)) (by simp)
        | some u =>
          rcases only b with n | ⟨ob, xs, y⟩
          · rw [hb] at n; cases n
          · obtain ⟨e1, _⟩ := hok b _ y
            obtain ⟨e2, _⟩ := hok' b _ (un.frzs b ob _ y)
            rw [z] at e1
            cases e1
            exact e2
  cases hk : K.lookup a with
  | some o =>
    have z := inK a o hk
    rw [obj] at z
    cases z
    exact main (fun _ => none) (fun _ => .inl rfl) (.inr ⟨_, vs.toArray, _, hk, rfl, rfl, rfl, by rw [List.size_toArray, many]; exact short, by simpa using rel⟩) (fun b u y => nomatch (show (none : Option HO) = some u from y)) (fun b y => absurd rfl y) (fun y => absurd rfl y)
  | none =>
    refine main (fun b => if b = a then some (.frz { cls := .type "list", data := .seq vs.toArray } (.lst (ns.map V.int))) else none) ?_ (.inl (.inr ⟨{ cls := .type "list", data := .seq vs.toArray }, if_pos rfl⟩)) ?_ ?_ (fun _ => hk)
    · intro b
      by_cases q : b = a
      · exact Or.inr ⟨_, _, if_pos q⟩
      · exact Or.inl (if_neg q)
    · intro b u y
      by_cases q : b = a
      · subst q
        have y1 := (if_pos rfl).symm.trans y
        cases y1
        exact ⟨obj, by rw [List.length_map]; exact short, vs, _, rel, obj⟩
      · have y1 := (if_neg q).symm.trans y
        cases y1
    · intro b y
      by_cases q : b = a
      · exact q
      · exact absurd (if_neg q) y

theorem walkG {l : PySem.W.OpenLaw} {n k : Nat} {q : Program} {loose : List Str} {XP : (Str → Option Value) → Heap → Prop} {YP : World → Heap → Prop} {d : DefRec} {K : Params → PySem.W.Frag} {sp : World → Sp} {x : Str}
    (hn : l.most = some n) (hn2 : n ≤ sizeLine) (hdf : d.params.defaults = []) (room : Room k callerA) (inK : ∀ (w : World) (h : Heap), YP w h → (K w.params).In h)
    (F : ∀ (w : World) (mg : Str → Option Value) (fa : Addr) (h : Heap), (K w.params).In h → h.Ns mainGlobals mg → mg d.name = some (.ref fa) →
      ∃ fd : FuncData, (∀ (s : Shared) (u : Value), BindsTo s fd ⟨[u], []⟩ [(x, u)]) ∧ ∀ base : Heap, (K w.params).In base → base.Ns mainGlobals mg → FnG l.prog w (K w.params) mg base k fa fd [x] (sp w))
    (keeps : ∀ (w : World) (H : Hp) (a : Addr) (ns : List Int), ns.length ≤ n → (∀ z ∈ ns, Builtin.Int.intBits z ≤ 1048576) → Only H → SqL (K w.params) H a (ns.map V.int) → sp w [.ref a] H (fun v _ => v = .bl true) fun _ _ _ => False) :
    PySem.W.WalkO q loose XP YP l.row.toRowW d [] (fun f vs => PySem.call f vs) := by
  refine Att.attach_callB hn hdf ?_
  intro w s0 s1 mg mb fa o pm cd doc a vs ns G Y ho hd hcd hmg hobj hints hlen hbits hg
  obtain ⟨fd, hb, hF⟩ := F w mg fa _ (inK w _ Y) G.T.g hmg
  exact law_callG (inK w _ Y) G.T.g G.T.b G.T.builtins G.T.nolimit hg hobj hints (Nat.le_trans hlen hn2) room hF hb (fun H hO hS => keeps w H a ns hlen hbits hO hS)
end Tk

namespace Tk
open PySem PySem.Spec PyProof.Rows L2

theorem same_rd {H H' : Hp} {a : Addr} {u : HO} (e : Same H H') (h : Rd H a u) : Rd H' a u := by
  rcases h with h | ⟨o, h⟩
  · exact Or.inl (e a _ h)
  · exact Or.inr ⟨o, e a _ h⟩
theorem same_l {K : PySem.W.Frag} {H H' : Hp} {a : Addr} {xs : List V} (e : Same H H') (h : SqL K H a xs) : SqL K H' a xs := by
  rcases h with h | h
  · exact Or.inl (same_rd e h)
  · exact Or.inr h
theorem same_t {K : PySem.W.Frag} {H H' : Hp} {a : Addr} {xs : List V} (e : Same H H') (h : SqT K H a xs) : SqT K H' a xs := by
  rcases h with h | h
  · exact Or.inl (same_rd e h)
  · exact Or.inr h
theorem same_new {H : Hp} {p : Addr} {o : HO} (h : H p = none) : Same H (upd H p o) := by
  intro a u e
  rw [upd_ne (ne_of_none e h)]
  exact e
/-- what is new in a later heap may change -/
theorem same_mut {H H' : Hp} {p : Addr} {o : HO} (e : Same H H') (h : H p = none) : Same H (upd H' p o) := by
  intro a u ha
  rw [upd_ne (ne_of_none ha h)]
  exact e a u ha
theorem sl_of {K : PySem.W.Frag} {H : Hp} {a : Addr} {xs : List V} (h : H a = some (.lst xs)) : SqL K H a xs := Or.inl (Or.inl h)
theorem st_of {K : PySem.W.Frag} {H : Hp} {a : Addr} {xs : List V} (h : H a = some (.tup xs)) : SqT K H a xs := Or.inl (Or.inl h)
theorem szle {n : Nat} (h : n ≤ 100000) : n ≤ sizeLine := Nat.le_trans h (by decide)
theorem szlt {n : Nat} (h : n < 100000) : n < sizeLine := Nat.lt_of_lt_of_le h (by decide)

mutual
theorem dp_same {K : PySem.W.Frag} {H H' : Hp} (e : Same H H') : ∀ (d : PyData) (v : V), Dp K H v d → Dp K H' v d
  | .none, _, h => by cases h; exact .non
  | .bool b, _, h => by cases h; exact .bl b
  | .int i, _, h => by cases h; exact .int i
  | .str x, _, h => by cases h; exact .str x
  | .list ds, _, h => by
    cases h with
    | lst h1 h2 => exact .lst (same_l e h1) (dps_same e ds _ h2)
  | .tuple ds, _, h => by
    cases h with
    | tup h1 h2 => exact .tup (same_t e h1) (dps_same e ds _ h2)
  | .dict _, _, h => by cases h
theorem dps_same {K : PySem.W.Frag} {H H' : Hp} (e : Same H H') : ∀ (ds : List PyData) (vs : List V), DpAll K H vs ds → DpAll K H' vs ds
  | [], _, h => by cases h; exact .nil
  | d :: ds, _, h => by
    cases h with
    | cons h1 h2 => exact .cons (dp_same e d _ h1) (dps_same e ds _ h2)
end
theorem dp_s {K : PySem.W.Frag} {H H' : Hp} {d : PyData} {v : V} (h : Dp K H v d) (e : Same H H') : Dp K H' v d := dp_same e d v h
theorem dps_s {K : PySem.W.Frag} {H H' : Hp} {ds : List PyData} {vs : List V} (h : DpAll K H vs ds) (e : Same H H') : DpAll K H' vs ds := dps_same e ds vs h
theorem dps_len {K : PySem.W.Frag} {H : Hp} : ∀ {ds : List PyData} {vs : List V}, DpAll K H vs ds → vs.length = ds.length
  | [], _, h => by cases h; rfl
  | d :: ds, _, h => by
    cases h with
    | cons h1 h2 => simp [dps_len h2]
theorem dps_at {K : PySem.W.Frag} {H : Hp} : ∀ {ds : List PyData} {vs : List V}, DpAll K H vs ds → ∀ (i : Nat) (x : V), vs[i]? = some x → ∃ d, ds[i]? = some d ∧ Dp K H x d
  | [], _, h, i, x, hx => by cases h; simp at hx
  | d :: ds, _, h, i, x, hx => by
    cases h with
    | cons h1 h2 =>
      cases i with
      | zero => simp at hx; subst hx; exact ⟨d, by simp, h1⟩
      | succ i => simp at hx; simpa using dps_at h2 i x hx
theorem dps_app {K : PySem.W.Frag} {H : Hp} : ∀ {ds es : List PyData} {vs ws : List V}, DpAll K H vs ds → DpAll K H ws es → DpAll K H (vs ++ ws) (ds ++ es)
  | [], _, _, _, h, h' => by cases h; exact h'
  | d :: ds, _, _, _, h, h' => by
    cases h with
    | cons h1 h2 => exact .cons h1 (dps_app h2 h')
theorem dps_ints {K : PySem.W.Frag} {H : Hp} : ∀ (ns : List Int), DpAll K H (ns.map V.int) (ns.map PyData.int)
  | [] => .nil
  | n :: ns => .cons (.int n) (dps_ints ns)
theorem ints_dps {K : PySem.W.Frag} {H : Hp} : ∀ {ns : List Int} {vs : List V}, DpAll K H vs (ns.map PyData.int) → vs = ns.map V.int
  | [], _, h => by cases h; rfl
  | n :: ns, _, h => by
    cases h with
    | cons h1 h2 => cases h1; rw [ints_dps h2]; rfl
theorem dps_bls {K : PySem.W.Frag} {H : Hp} : ∀ (bs : List Bool), DpAll K H (bs.map V.bl) (bs.map PyData.bool)
  | [] => .nil
  | n :: ns => .cons (.bl n) (dps_bls ns)

/-- a pair of ints, as data -/
def dP (p : Int × Int) : PyData := .tuple [.int p.1, .int p.2]
/-- v is a list of pairs -/
abbrev PL (K : PySem.W.Frag) (H : Hp) (a : Addr) (ps : List (Int × Int)) : Prop := ∃ xs, SqL K H a xs ∧ DpAll K H xs (ps.map dP)
/-- v is a list of ints -/
abbrev IL (K : PySem.W.Frag) (H : Hp) (a : Addr) (ns : List Int) : Prop := SqL K H a (ns.map V.int)
theorem pl_s {K : PySem.W.Frag} {H H' : Hp} {a : Addr} {ps : List (Int × Int)} (h : PL K H a ps) (e : Same H H') : PL K H' a ps :=
  let ⟨xs, h1, h2⟩ := h; ⟨xs, same_l e h1, dps_s h2 e⟩
theorem dP_inv {K : PySem.W.Frag} {H : Hp} {v : V} {p : Int × Int} (h : Dp K H v (dP p)) : ∃ t, v = .ref t ∧ SqT K H t [.int p.1, .int p.2] := by
  unfold dP at h
  cases h with
  | @tup a xs _ h1 h2 =>
    cases h2 with
    | cons a1 a2 =>
      cases a1
      cases a2 with
      | cons b1 b2 =>
        cases b1
        cases b2
        exact ⟨a, rfl, h1⟩
theorem dP_mk {K : PySem.W.Frag} {H : Hp} {t : Addr} {i j : Int} (h : SqT K H t [.int i, .int j]) : Dp K H (.ref t) (dP (i, j)) := .tup h (.cons (.int i) (.cons (.int j) .nil))
theorem pl_at {K : PySem.W.Frag} {H : Hp} {xs : List V} {ps : List (Int × Int)} (h : DpAll K H xs (ps.map dP)) {i : Nat} {x : V} (hx : xs[i]? = some x) :
    ∃ p t, ps[i]? = some p ∧ x = .ref t ∧ SqT K H t [.int p.1, .int p.2] := by
  obtain ⟨d, hd, hp⟩ := dps_at h i x hx
  rw [List.getElem?_map] at hd
  cases e : ps[i]? with
  | none => rw [e] at hd; cases hd
  | some p =>
    rw [e] at hd
    cases hd
    obtain ⟨t, rfl, ht⟩ := dP_inv hp
    exact ⟨p, t, rfl, rfl, ht⟩
theorem int_at {ns : List Int} {i : Nat} {x : V} (h : (ns.map V.int)[i]? = some x) : ∃ n, ns[i]? = some n ∧ x = .int n := by
  rw [List.getElem?_map] at h
  cases e : ns[i]? with
  | none => rw [e] at h; cases h
  | some n => rw [e] at h; cases h; exact ⟨n, rfl, rfl⟩
theorem lt_of_at {α : Type} {l : List α} {i : Nat} {x : α} (h : l[i]? = some x) : i < l.length := (List.getElem?_eq_some_iff.mp h).1
theorem take_at {α : Type} {l : List α} {i : Nat} {x : α} (h : l[i]? = some x) : l.take (i + 1) = l.take i ++ [x] := by
  rw [List.take_add_one, h]; rfl

/-- a comprehension's list behind one more item -/
theorem lc_put {H1 H4 : Hp} {D : Addr} {acc : List V} {y : V} {Pv : Hp → Prop} (h : H4 D = some (.lst acc)) (hl : acc.length < 100000) (q : Pv (upd H4 D (.lst (acc ++ [y])))) :
    ∃ acc', H4 D = some (.lst acc') ∧ acc'.length < sizeLine ∧ Pv (upd H4 D (.lst (acc' ++ [y]))) := ⟨acc, h, szlt hl, q⟩

theorem tyx_t {K : PySem.W.Frag} {H : Hp} {a : Addr} {xs : List V} (h : SqT K H a xs) : TyX K H (.ref a) (.type "tuple") := by
  rcases h with (h | ⟨o, h⟩) | ⟨o, its, n, h1, h2, _⟩
  · exact .base (.tup h)
  · exact .fTuple h
  · exact .kTuple h1 h2
theorem tyx_l {K : PySem.W.Frag} {H : Hp} {a : Addr} {xs : List V} (h : SqL K H a xs) : TyX K H (.ref a) (.type "list") := by
  rcases h with (h | ⟨o, h⟩) | ⟨o, its, n, h1, h2, _⟩
  · exact .base (.lst h)
  · exact .base (.frz h)
  · exact .kList h1 h2
theorem kit_lt {K : PySem.W.Frag} : PySem.W.kitAny K (.type "list") [.type "list", .type "tuple"] = some true := by
  refine kitAny_cons (b := true) (kit_ty (by decide +kernel)) (fun z => nomatch z) (fun _ => rfl)
/-- what stands of a comprehension over a heap H1 whose list D holds acc -/
def LcP (H1 : Hp) (D : Addr) (out : Nat → List V) (i : Nat) (H : Hp) : Prop := Same H1 H ∧ H D = some (.lst (out i))
theorem lcp_0 {H1 : Hp} {D : Addr} {out : Nat → List V} (hD : H1 D = none) (h0 : out 0 = []) : LcP H1 D out 0 (upd H1 D (.lst [])) := ⟨same_new hD, by rw [upd_same, h0]⟩
/-- one more item -/
theorem lcp_put {H1 H4 : Hp} {D : Addr} {out : Nat → List V} {i : Nat} {y : V} (hD : H1 D = none) (h : LcP H1 D out i H4) (ho : out (i + 1) = out i ++ [y]) (hl : (out i).length < 100000) :
    ∃ acc, H4 D = some (.lst acc) ∧ acc.length < sizeLine ∧ LcP H1 D out (i + 1) (upd H4 D (.lst (acc ++ [y]))) :=
  ⟨out i, h.2, szlt hl, same_mut h.1 hD, by rw [upd_same, ho]⟩
theorem lcp_no {H1 H4 : Hp} {D : Addr} {out : Nat → List V} {i : Nat} (h : LcP H1 D out i H4) (ho : out (i + 1) = out i) : LcP H1 D out (i + 1) H4 := ⟨h.1, by rw [h.2, ho]⟩
theorem lcp_s {H1 H2 H4 : Hp} {D : Addr} {out : Nat → List V} {i : Nat} (h : LcP H1 D out i H2) (e : Same H2 H4) : LcP H1 D out i H4 := ⟨h.1.trans e, e _ _ h.2⟩

section
variable {X : Cx}
/-- len of a set of tuples -/
theorem call_lenSetT : CallR X (.builtin "len") (fun xs H Q => ∃ a L, xs = [.ref a] ∧ H a = some (SetTO X.prog X.w a L) ∧ (∀ p ∈ L, SqT X.K H p.1 (p.2.map V.int)) ∧ ((L.map (·.2)).Nodup → Q (.int L.length) H)) := by
  intro pins s σ H xs us Q I r h
  obtain ⟨a, L, rfl, ha, ht, q⟩ := h
  rw [Vals.ref1 r]
  have R0 : SetT0 X.prog X.w s.heap a L := (I.hok a _ ha).1
  obtain ⟨es, ep, t, R⟩ := R0.full fun p hp => I.isT (ht p hp)
  obtain ⟨o, ho, hex, hd⟩ := R.ob
  have hs := R.size
  have hf := R.few
  refine call_len_set ho hex hd R.fits (by omega) ⟨.int L.length, H, (I.tok _), ⟨_, by rw [hs]⟩, q R.nd⟩

variable {k n : Nat} {f : Addr} {fd : FuncData} {ps ks : List Str} {sp : Sp} {x : Str} {p pos : Pos} {kws : List Keyword} {tk : TA} {g : List Value → List Value → List Value} {gV : List V → List V → List V} {CX : CXT} {E : XK}
end
end Tk

namespace Tk
open PySem PySem.Spec PyProof.Rows L2
/-! ## lists and tuples alike -/
abbrev SqA (K : PySem.W.Frag) (H : Hp) (a : Addr) (xs : List V) : Prop := SqL K H a xs ∨ SqT K H a xs
theorem same_a {K : PySem.W.Frag} {H H' : Hp} {a : Addr} {xs : List V} (e : Same H H') (h : SqA K H a xs) : SqA K H' a xs := h.elim (fun h => .inl (same_l e h)) (fun h => .inr (same_t e h))
/-- a sequence of pairs -/
abbrev PA2 (K : PySem.W.Frag) (H : Hp) (a : Addr) (ps : List (Int × Int)) : Prop := ∃ xs, SqA K H a xs ∧ DpAll K H xs (ps.map dP)
theorem pa2_s {K : PySem.W.Frag} {H H' : Hp} {a : Addr} {ps : List (Int × Int)} (h : PA2 K H a ps) (e : Same H H') : PA2 K H' a ps :=
  let ⟨xs, h1, h2⟩ := h; ⟨xs, same_a e h1, dps_s h2 e⟩
theorem pl_pa2 {K : PySem.W.Frag} {H : Hp} {a : Addr} {ps : List (Int × Int)} (h : PL K H a ps) : PA2 K H a ps := let ⟨xs, h1, h2⟩ := h; ⟨xs, .inl h1, h2⟩
/-- it walks the sequence at a -/
def IsSq (K : PySem.W.Frag) (H : Hp) (a : Addr) (xs : List V) (it : It) : Prop := (it = Itl K a ∧ SqL K H a xs) ∨ (it = Itt K a ∧ SqT K H a xs)
def iSq (K : PySem.W.Frag) (tl : TE) : TI := fun σ H R => tl σ H fun x H1 => ∃ a xs, x = .ref a ∧ SqA K H1 a xs ∧ ∀ it, IsSq K H1 a xs it → R it H1
section
variable {X : Cx} {tg : Expr}
theorem pi_sq {l : Expr} {tl : TE} (hl : PE X l tl) : PI X tg l (iSq X.K tl) := by
  constructor
  intro pins s σ H R I h
  refine thn (hl.run pins s σ H _ I h) ?_
  rintro v s1 ⟨x, H1, J, rv, a, xs, rfl, hc, q⟩
  cases rv
  have own : ∀ b ∈ [s1.heap.objs.size], FpOk X pins H1 b := fun b hb => by
    rw [List.mem_singleton.mp hb]
    exact J.fpOk (Nat.le_refl _) (J.hok.fresh (Nat.le_refl _))
  rcases hc with hq | hq
  · obtain ⟨its, _, pl, _⟩ := J.list hq
    exact wpAny_pyIter_list pl.isList ⟨_, _, _, _, _, rfl, J.kept (t' := s1.toks) (fun b o e => Heap.get?_push_of_some _ e), turn_list a _, ⟨_, Heap.get?_push_size _ rfl, rfl, rfl⟩, own, q _ (.inl ⟨rfl, hq⟩)⟩
  · obtain ⟨its, _, pt, _⟩ := J.tuple hq
    exact wpAny_pyIter_tuple (show s1.heap.IsTuple a its.toArray from pt) ⟨_, _, _, _, _, rfl, J.kept (t' := s1.toks) (fun b o e => Heap.get?_push_of_some _ e), turn_tuple a _, ⟨_, Heap.get?_push_size _ rfl, rfl, rfl⟩, own, q _ (.inr ⟨rfl, hq⟩)⟩
/-- either of two rules for a call -/
theorem cr_or {f : Value} {r1 r2 : List V → Hp → VK → Prop} (c1 : CallR X f r1) (c2 : CallR X f r2) : CallR X f (fun xs H Q => r1 xs H Q ∨ r2 xs H Q) :=
  fun pins s σ H xs us Q I r h => h.elim (c1 pins s σ H xs us Q I r) (c2 pins s σ H xs us Q I r)
end
theorem lc_sq {K : PySem.W.Frag} {a : Addr} {xs : List V} {it : It} {H0 : Hp} {g : TG} {tt : TT} {te : TE} {vs : List Nat} {σ : L2.St} {H1 : Hp} {D : Addr} {Qd : Hp → Prop} (hit : IsSq K H0 a xs it) (Pv : Nat → Hp → Prop) (h0 : Pv 0 (upd H1 D (.lst [])))
    (hl : ∀ i H, i ≤ xs.length → Pv i H → Same H0 H)
    (hs : ∀ i x H, xs[i]? = some x → Pv i H → g x (wipe σ vs) H fun σ2 H2 => wipe σ2 vs = wipe σ vs ∧ tt σ2 H2 fun b H3 =>
      if b = true then te σ2 H3 fun y H4 => ∃ acc, H4 D = some (.lst acc) ∧ acc.length < sizeLine ∧ Pv (i + 1) (upd H4 D (.lst (acc ++ [y]))) else Pv (i + 1) H3)
    (hd : ∀ H, Pv xs.length H → Qd H) :
    ∃ W : Nat → Nat → Hp → Prop, (∃ m, W 0 m (upd H1 D (.lst []))) ∧ ∀ i m H, W i m H →
      (it.stop i H ∧ Qd H) ∨ (it.go i H ∧ ∃ Nx : Hp → Prop, (∀ H', Nx H' → ∃ m', m' < m ∧ W (i + 1) m' H') ∧ ∀ x H', it.yld i H x H' → g x (wipe σ vs) H' fun σ2 H2 => wipe σ2 vs = wipe σ vs ∧ tt σ2 H2 fun b H3 =>
        if b = true then te σ2 H3 fun y H4 => ∃ acc, H4 D = some (.lst acc) ∧ acc.length < sizeLine ∧ Nx (upd H4 D (.lst (acc ++ [y]))) else Nx H3) := by
  rcases hit with ⟨rfl, h⟩ | ⟨rfl, h⟩
  · exact lc_list Pv h0 (fun i H hi p => same_l (hl i H hi p) h) hs hd
  · exact lc_tup Pv h0 (fun i H hi p => same_t (hl i H hi p) h) hs hd
theorem for_sq {K : PySem.W.Frag} {a : Addr} {xs : List V} {it : It} {H0 : Hp} {g : TG} {tb : TS} {D : Ends} {σ : L2.St} {H : Hp} (hit : IsSq K H0 a xs it) (Pv : Nat → L2.St → Hp → Prop) (h0 : Pv 0 σ H) (hl : ∀ i σ H, i ≤ xs.length → Pv i σ H → Same H0 H)
    (hs : ∀ i x σ H, xs[i]? = some x → Pv i σ H → g x σ H fun σ2 H2 => tb { nx := Pv (i + 1), rt := D.rt, bk := D.nx, ct := Pv (i + 1) } σ2 H2) (hd : ∀ σ H, Pv xs.length σ H → D.nx σ H) :
    ∃ W : Nat → Nat → L2.St → Hp → Prop, (∃ m, W 0 m σ H) ∧ ∀ i m σ H, W i m σ H →
      (it.stop i H ∧ D.nx σ H) ∨ (it.go i H ∧ ∃ N : L2.St → Hp → Prop, (∀ σ' H', N σ' H' → ∃ m', m' < m ∧ W (i + 1) m' σ' H') ∧ ∀ x H', it.yld i H x H' → g x σ H' fun σ2 H2 => tb { nx := N, rt := D.rt, bk := D.nx, ct := N } σ2 H2) := by
  rcases hit with ⟨rfl, h⟩ | ⟨rfl, h⟩
  · exact for_list Pv h0 (fun i σ H hi p => same_l (hl i σ H hi p) h) hs hd
  · exact for_tup Pv h0 (fun i σ H hi p => same_t (hl i σ H hi p) h) hs hd
end Tk
/-! ## how many unlike ints -/
namespace Tk
theorem dup_erase {α : Type} [DecidableEq α] : ∀ {l : List α}, ¬ l.Nodup → ∃ x ∈ l, ∀ y ∈ l, y ∈ l.erase x
  | [], h => absurd List.nodup_nil h
  | a :: l, h => by
    by_cases c : a ∈ l
    · refine ⟨a, List.mem_cons_self .., fun y hy => ?_⟩
      rw [List.erase_cons_head]
      rcases List.mem_cons.mp hy with e | e
      · exact e ▸ c
      · exact e
    · have hl : ¬ l.Nodup := fun n => h (List.nodup_cons.mpr ⟨c, n⟩)
      obtain ⟨x, hx, hy⟩ := dup_erase hl
      have ne : ¬ a = x := fun e => c (e ▸ hx)
      refine ⟨x, List.mem_cons_of_mem _ hx, fun y m => ?_⟩
      rw [List.erase_cons_tail (by simpa using ne)]
      rcases List.mem_cons.mp m with e | e
      · exact e ▸ List.mem_cons_self ..
      · exact List.mem_cons_of_mem _ (hy y e)
end Tk

namespace Tk
open PySem PySem.Spec PyProof.Rows L2
/-! ## set(t), t a tuple of tuples of ints -/
def oSet (w : World) : Obj := { cls := .type "set", dict := none, data := .set #[] 0 (.fresh 0 0 (!w.params.followText "set-order")) }
section
variable {P : Program} {w : World} {A : Around} {E : Value → Shared → Prop} {s : Shared}
theorem two_new {h : Heap} {l : Addr} (z : l < h.objs.size) (o : Obj) : l ≠ (h.push o).objs.size ∧ h.objs.size ∉ [(h.push o).objs.size, l] := by
  rw [Heap.size_push]
  refine ⟨Nat.ne_of_lt (Nat.lt_succ_of_lt z), ?_⟩
  simp only [List.mem_cons, List.not_mem_nil, or_false]
  rintro (e | e)
  · exact absurd e (Nat.ne_of_lt (Nat.lt_succ_self _))
  · exact absurd e.symm (Nat.ne_of_lt z)
set_option maxHeartbeats 8000000 in
theorem wp_setTT {l : Addr} {us : Array Value} {ks : List (Addr × List Int)} {Q : Value → Shared → Prop} (calm : A.handled = none) (ht : s.heap.IsTuple l us) (eu : us.toList = ks.map fun p => Value.ref p.1)
    (each : ∀ p ∈ ks, IsT P w s.heap p.2 p.1) (few : ks.length < 64) (room : A.units + 3 < cLine)
    (fin : ∀ (h' : Heap) (tk : Nat) L es ep t, SetTR P w h' s.heap.objs.size L es ep t → Got ks ks.length L → (∀ b o, s.heap.get? b = some o → h'.get? b = some o) → Q (.ref s.heap.objs.size) { s with heap := h', toks := tk }) :
    wpAny (model P w) A (call (.type "set") [.ref l]) Q E s := by
  have many : us.size = ks.length := by
    rw [← Array.length_toList, eu, List.length_map]
  obtain ⟨m1, m2, mro1⟩ := F.called_set.mro
  have made1 := F.called_set.made
  have sub1 := F.called_set.sub
  apply wpAny_call
  apply codeAny_of_tree
  show wpAny (model P w) _ (callAny (.type "set") _) _ E s
  apply wpAny_pure
  refine ⟨Code.quiet_builtin _ (by decide +kernel), ?_⟩
  apply codeAny_builtin F.entry_type_call
  rw [Around.under_plain (weight_type_call_type "set" [Value.ref l] []) (by rfl)]
  have no1 := F.called_set.notType
  have can1 := F.called_set.canCreate
  have tc1 := F.typeCall_set_1 (Value.ref l)
  repeat any_goals (first | assumption | wp_step)
  refine codeAny_mono (code_set_led1 (Value.ref l) (E := E) (Q₁ := fun x z => x = Value.ref s.heap.objs.size ∧ z = { s with heap := s.heap.push (oSet w) }) ⟨rfl, rfl⟩) ?_
  intro res z hz
  cases res with
  | error e => exact hz
  | ok fl =>
  cases fl with
  | next => exact hz.elim
  | brk => exact hz.elim
  | cont => exact hz.elim
  | ret x =>
  obtain ⟨rfl, rfl⟩ := hz
  have atS : (s.heap.push (oSet w)).get? s.heap.objs.size = some (oSet w) := Heap.get?_push_size _ rfl
  have isS : Shared.TypeIs { s with heap := s.heap.push (oSet w) } (Value.ref s.heap.objs.size) "set" := ⟨_, atS, rfl⟩
  have look1 := F.called_set.init.lookup
  have bind1 := F.called_set.init.bind (Value.ref s.heap.objs.size)
  repeat any_goals (first | assumption | wp_step)
  refine codeAny_mono (codeAny_call_builtin (R := wants (fun r z => r = Value.none ∧ ∃ h' tk L es ep t, z = { s with heap := h', toks := tk } ∧ SetTR P w h' s.heap.objs.size L es ep t ∧ Got ks ks.length L ∧
      (∀ b o, s.heap.get? b = some o → h'.get? b = some o)) E) F.called_set.init.plain F.entry_set_init (check_set_init_1 isS ?_)) ?_
  · obtain ⟨⟨oc, od, odat, osl⟩, atL, ec, nl, ed⟩ := ht
    simp only at ec ed
    subst ec ed
    have atL1 : (s.heap.push (oSet w)).get? l = some { cls := .type "tuple", dict := od, data := .seq us nl, slots := osl } := Heap.get?_push_of_some _ atL
    have y1 := F.sub_tuple_set
    have y2 := F.sub_tuple_frozenset
    have y3 : (Value.type "tuple" == Value.type "dict") = false := by decide
    have isT1 : (s.heap.push (oSet w)).IsTuple l us := ⟨_, atL1, rfl, nl, rfl⟩
    unfold Builtin.«set.__init__» noKeywords Builtin.Frozenset.updateFrom
    generalize hIt : pyIter = IT
    wp_walk
    subst hIt
    apply wpAny_pyIter_tuple isT1
    apply wpAny_bind
    apply wpAny_runValue
    obtain ⟨ne1, ne2⟩ := two_new (Heap.lt_size atL) (oSet w)
    have free : ∀ b, s.heap.objs.size ≤ b → s.heap.get? b = none := by
      intro b hb
      cases q : s.heap.get? b with
      | none => rfl
      | some o => exact absurd (Heap.lt_size q) (Nat.not_lt.mpr hb)
    have item : ∀ (i : Nat) (v : Value), us[i]? = some v → ∃ p, ks[i]? = some p ∧ v = Value.ref p.1 := by
      intro i v hv
      rw [← Array.getElem?_toList, eu, List.getElem?_map] at hv
      cases hq : ks[i]? with
      | none => rw [hq] at hv; cases hv
      | some p => rw [hq] at hv; exact ⟨p, rfl, (Option.some.inj hv).symm⟩
    have at2 : ((s.heap.push (oSet w)).push { cls := .type "tuple_iterator", data := .fields #[.ref l, .int 0 0] }).get? s.heap.objs.size = some (oSet w) := Heap.get?_push_of_some _ atS
    refine set_update_tups ((Walks.tuple (by simp [calm]) _ l ne1 us).toS) s.heap.objs.size ne2 ks many few item s.heap each (free _ (Nat.le_refl _)) ?_ room (us.size - 0) 0 _ (by omega) (Nat.zero_le _)
      ⟨⟨_, Heap.get?_push_size _ rfl, rfl, rfl⟩, isT1.push _⟩ (fun b o e => Heap.get?_push_of_some _ (Heap.get?_push_of_some _ e)) ⟨[], #[], 0, _, setTR_fresh at2, Got.zero ks⟩ ?_
    · intro b hb
      refine free b ?_
      rw [List.mem_singleton.mp hb, Heap.size_push]
      omega
    · rintro ⟨h', g', d', tk', os'⟩ L es ep t mv R1 got kp
      obtain rfl : g' = s.gens := mv.gens
      obtain rfl : d' = s.drawn := mv.drawn
      obtain rfl : os' = s.os := mv.os
      show wpAny _ _ _ _ _ _
      apply wpAny_pure
      show wpAny _ _ (ret Value.none) _ _ _
      rw [many] at got
      exact wpAny_pure ⟨rfl, h', tk', L, es, ep, t, rfl, R1, got, kp⟩
  · intro r2 z2 hz2
    cases r2 with
    | error e => exact hz2
    | ok f2 =>
    cases f2 with
    | next => exact hz2.elim
    | brk => exact hz2.elim
    | cont => exact hz2.elim
    | ret v =>
    obtain ⟨rfl, h', tk, L, es, ep, t, rfl, R1, got, kp⟩ := hz2
    repeat any_goals (first | assumption | wp_step)
    exact fin _ _ _ _ _ _ R1 got kp
end
section
variable {X : Cx}
def rSetTT (K : PySem.W.Frag) (P : Program) (w : World) : List V → Hp → VK → Prop := fun xs H Q => ∃ (l : Addr) (ks : List (Addr × List Int)), xs = [V.ref l] ∧ SqT K H l (ks.map fun p => V.ref p.1) ∧ (∀ p ∈ ks, SqT K H p.1 (p.2.map V.int)) ∧ ks.length < 64 ∧
  ∀ a L, H a = none → (∀ p ∈ L, p ∈ ks) → (∀ p ∈ ks, p.2 ∈ L.map (·.2)) → Q (.ref a) (upd H a (SetTO P w a L))
theorem cr_setTT (hc : X.calm = true) (hu : X.A.units + 64 < cLine) : CallR X (.type "set") (rSetTT X.K X.prog X.w) := by
  rintro pins s σ H xs us Q I r ⟨l, ks, rfl, hl, hk, hf, q⟩
  rw [Vals.ref1 r]
  obtain ⟨its, rv, pt, _⟩ := I.tuple hl
  refine wp_setTT (P := X.prog) (w := X.w) (I.ok.hd hc) (show s.heap.IsTuple l its.toArray from pt) (by simpa using refs_of_vals rv) (fun p hp => I.isT (hk p hp)) hf (by omega) ?_
  intro h' tk L es ep t R g k
  refine ⟨.ref s.heap.objs.size, _, I.laid (t' := tk) k (Nat.le_refl _) (setTO_new R.t0), rfl, q _ L (I.hok.fresh (Nat.le_refl _)) (fun p hp => List.mem_of_mem_take (g.sub p hp)) fun p hp => g.all p ?_⟩
  rw [List.take_length]
  exact hp
/-! ## set(xs) of ints, and how many -/
def SetN (a : Addr) (n : Nat) : HO := .ext fun h => ∃ o es ep t, h.get? a = some o ∧ o.ExactSet ∧ o.data = .set es ep t ∧ t.fits es.size = true ∧ es.size = n ∧ n < 1000
theorem setN_new {w : World} {P : Program} {H : Hp} {h : Heap} {a : Addr} {n : Nat} {o : Obj} {es : Array (Int × Value)} {ep : Nat} {t : SetTable} (ho : h.get? a = some o) (hx : o.ExactSet) (hd : o.data = .set es ep t) (hf : t.fits es.size = true) (hn : es.size = n) (n1 : n < 1000) : ObjOk P w H h a (SetN a n) :=
  ⟨⟨o, es, ep, t, ho, hx, hd, hf, hn, n1⟩, ⟨o, ho⟩, fun h1 h2 ⟨o, es, ep, t, ho, r⟩ k => ⟨o, es, ep, t, k o ho, r⟩⟩
theorem firstMet_nd (f : Nat → Int) : ∀ i, (firstMet f i).Nodup
  | 0 => by rw [firstMet_zero]; exact List.nodup_nil
  | i + 1 => by
    rw [firstMet_succ]
    unfold step_dedup
    split
    · exact firstMet_nd f i
    · next c =>
      rw [List.nodup_append]
      refine ⟨firstMet_nd f i, by simp, fun a ha b hb e => c ?_⟩
      rw [List.mem_singleton.mp hb] at e
      exact List.any_eq_true.mpr ⟨a, ha, by rw [e]; exact beq_self_eq_true _⟩
theorem firstMet_mem (ns : List Int) (k : Int) : k ∈ firstMet (fun i => ns.getD i 0) ns.length ↔ k ∈ ns := by
  have a := firstMet_any (fun i => ns.getD i 0) ns.length k
  have e : (List.range ns.length).map (fun i => ns.getD i 0) = ns := by
    refine List.ext_getElem? fun i => ?_
    rw [List.getElem?_map]
    by_cases c : i < ns.length
    · rw [List.getElem?_range c]
      simp [List.getD_eq_getElem?_getD, List.getElem?_eq_getElem c]
    · rw [List.getElem?_eq_none (by simpa using c), List.getElem?_eq_none (by simpa using c)]; rfl
  rw [e] at a
  have b : ∀ l : List Int, l.any (· == k) = true ↔ k ∈ l := fun l => by simp
  rw [← b, a, b]
def rSetIA (K : PySem.W.Frag) : List V → Hp → VK → Prop := fun xs H Q => ∃ (l : Addr) (ns : List Int), xs = [V.ref l] ∧ SqA K H l (ns.map V.int) ∧ ns.length < 64 ∧
  ∀ (p : Addr) (L : List Int), H p = none → L.Nodup → (∀ k, k ∈ L ↔ k ∈ ns) → Q (.ref p) (upd H p (SetN p L.length))
theorem cr_setIA (hc : X.calm = true) : CallR X (.type "set") (rSetIA X.K) := by
  rintro pins s σ H xs us Q I r ⟨l, ns, rfl, hl, hf, q⟩
  rw [Vals.ref1 r]
  rcases hl with hl | hl
  · obtain ⟨its, rv, pl, hz⟩ := I.list hl
    have el : its.toArray.size = ns.length := by rw [List.size_toArray, ← rv.length, List.length_map]
    refine call_set_list (I.ok.hd hc) pl.isList (ns := ns) (by simpa using rv.ints) (by unfold scanBound; omega) ?_
    intro h' tk R k
    rw [el] at R
    have nd := firstMet_nd (fun i => ns.getD i 0) ns.length
    have mm := firstMet_mem ns
    have le := firstMet_length_le (fun i => ns.getD i 0) ns.length
    generalize firstMet (fun i => ns.getD i 0) ns.length = L at R nd mm le
    obtain ⟨o, es, ep, t, ho, hx, hd, _, _, _, hft, hn⟩ := R
    exact ⟨.ref s.heap.objs.size, _, I.laid (t' := tk) (fun b o e => k b o (Heap.lt_size e) e) (Nat.le_refl _) (setN_new ho hx hd hft hn (by omega)), rfl, q _ L (I.hok.fresh (Nat.le_refl _)) nd mm⟩
  · obtain ⟨its, rv, pt, _⟩ := I.tuple hl
    refine call_set_tupI ns (I.ok.hd hc) (show s.heap.IsTuple l its.toArray from pt) (by simpa using rv.ints) (by unfold scanBound; omega) ?_
    rintro h' tk c ⟨o, es, ep, t, ho, hx, hd, _, nd, mm, _, hft, hn, _⟩ lc k
    have q' := q _ (es.toList.map keyOf) (I.hok.fresh (Nat.le_refl _)) nd (fun z => by rw [← mm z]; simp)
    rw [List.length_map, Array.length_toList, hn] at q'
    exact ⟨.ref s.heap.objs.size, _, I.laid (t' := tk) k (Nat.le_refl _) (setN_new ho hx hd hft hn (by omega)), rfl, q'⟩
theorem cr_lenN : CallR X (.builtin "len") (fun xs H Q => ∃ (a : Addr) (n : Nat), xs = [V.ref a] ∧ H a = some (SetN a n) ∧ Q (.int n) H) := by
  rintro pins s σ H xs us Q I r ⟨a, n, rfl, ha, q⟩
  rw [Vals.ref1 r]
  obtain ⟨o, es, ep, t, ho, hx, hd, hf, hn, n1⟩ := (I.hok a _ ha).1
  exact call_len_set ho hx hd hf (by omega) ⟨.int n, H, I.tok _, ⟨_, by rw [hn]⟩, q⟩
/-! ## sorted(xs), xs a list or tuple of ints -/
theorem collect_tup {prog : Program} {w : World} {A : Around} {E : Value → Shared → Prop} {s : Shared} {l : Addr} {vs : List Value} {Q : List Value → Shared → Prop} (ht : s.heap.IsTuple l vs.toArray) (hz : vs.length ≤ sizeLine)
    (fin : Q vs { s with heap := (s.heap.push (seqObj "list" #[] 0)).update s.heap.objs.size (Obj.mapSeq (· ++ vs.toArray)) }) : wpAny (model prog w) A (collect (.ref l)) Q E s := by
  obtain ⟨o, at1, cl1, n, d1⟩ := id ht
  have at2 : (s.heap.push (seqObj "list" #[] 0)).get? l = some o := Heap.get?_push_of_some _ at1
  have new2 : (s.heap.push (seqObj "list" #[] 0)).get? s.heap.objs.size = some (seqObj "list" #[] 0) := Heap.get?_push_size _ rfl
  unfold collect
  apply wpAny_bind; apply wpAny_runValue; apply codeAny_builtin entry_proto_collect'
  show wpAny (model prog w) _ (do again (.builtin "list.__iadd__" ⟨[← newList [], .ref l], []⟩)) _ _ s
  refine wpAny_bind (wpAny_newList ?_); apply wpAny_pure
  refine ⟨Code.quiet_builtin _ (by decide +kernel), ?_⟩
  apply codeAny_builtin entry_list_iadd'
  show wpAny (model prog w) _ (Builtin.List.listExtendWith (.ref s.heap.objs.size) (.ref l) (.ref s.heap.objs.size)) _ _ { s with heap := s.heap.push (seqObj "list" #[] 0) }
  unfold Builtin.List.listExtendWith
  apply wpAny_bind
  refine wpAny_typeOf (v := Value.ref l) (T := "tuple") ⟨o, at2, cl1⟩ ?_
  rw [if_pos (by
    have e : (Value.type "tuple" == Value.type "tuple") = true := by rfl
    rw [e]; simp)]
  apply wpAny_bind; apply listItems_at at2 d1
  apply wpAny_bind; apply listItems_at (xs := #[]) (n := 0) new2 rfl
  rw [if_neg (by simp)]
  apply wpAny_bind
  refine listUpdate_at (xs := #[]) (n := 0) new2 rfl ?_ (Nat.zero_le _) (by simp; omega)
  apply wpAny_pure
  show wpAny (model prog w) A (load s.heap.objs.size >>= _) Q E { s with heap := (s.heap.push (seqObj "list" #[] 0)).update s.heap.objs.size (Obj.mapSeq (· ++ vs.toArray)) }
  apply wpAny_bind
  refine wpAny_load (get?_update_seq new2 _) ?_
  have e3 : ((#[] : Array Value) ++ vs.toArray).toList = vs := by simp
  show wpAny (model prog w) A (pure ((#[] : Array Value) ++ vs.toArray).toList) Q E _
  rw [e3]
  exact wpAny_pure fin
end
end Tk
namespace Tk
open PySem PySem.Spec PyProof.Rows L2
section
variable {prog : Program} {w : World} {A : Around} {E : Value → Shared → Prop} {s : Shared}
theorem sorted_tup {l : Addr} {vs : List Value} {ltv : Value → Value → Bool} {Q : Value → Shared → Prop} (O : SrtO.Swo ltv) (ht : s.heap.IsTuple l vs.toArray) (hz : vs.length ≤ sizeLine)
    (able : 2 ≤ vs.length → ∀ (h1 : Heap) (a : Addr), h1.get? a = some (seqObj "list" vs.toArray 0) → (∀ b o, s.heap.get? b = some o → b ≠ a ∧ h1.get? b = some o) → SrtO.SortableO prog w A.in1.in1 { s with heap := h1 } a vs ltv)
    (fin : ∀ out : List Value, SrtO.Srtd ltv out → SrtO.Stb ltv out vs → Q (.ref (s.heap.objs.size + 1)) { s with heap := sortedAll s.heap vs out.toArray }) :
    wpAny (model prog w) A (call (.builtin "sorted") [.ref l]) Q E s := by
  apply Calls.call_function_entry kind_sorted plain_sorted entry_sorted (args_sorted1 _)
  unfold Builtin.«sorted»
  apply wpAny_bind (m := checkCount "sorted" 1 1 _)
  apply wpAny_pure; apply wpAny_bind
  apply collect_tup ht hz; apply wpAny_bind
  refine wpAny_newList ?_ hz
  generalize hcp : (s.heap.push (seqObj "list" #[] 0)).update s.heap.objs.size (Obj.mapSeq (· ++ vs.toArray)) = h1
  have z1 : h1.objs.size = s.heap.objs.size + 1 := by rw [← hcp, Heap.size_update, Heap.size_push]
  have new2 : (h1.push (seqObj "list" vs.toArray 0)).get? (s.heap.objs.size + 1) = some (seqObj "list" vs.toArray 0) := by rw [← z1]; exact Heap.get?_push_size _ rfl
  have old : ∀ b o, s.heap.get? b = some o → b ≠ s.heap.objs.size + 1 ∧ (h1.push (seqObj "list" vs.toArray 0)).get? b = some o := by
    intro b o e
    have lt := Heap.lt_size e
    refine ⟨Nat.ne_of_lt (Nat.lt_succ_of_lt lt), Heap.get?_push_of_some _ ?_⟩
    rw [← hcp, Heap.get?_update_ne _ _ _ _ (Nat.ne_of_lt lt)]
    exact Heap.get?_push_of_some _ e
  show wpAny _ _ _ _ _ { s with heap := h1.push (seqObj "list" vs.toArray 0) }
  rw [z1]
  refine wpAny_bind (wpAny_holding (wpAny_call_entry slot_list_sort ⟨_, new2, rfl⟩ entry_list_sort (SrtO.list_sort_ord O new2 hz (fun m => able m _ _ new2 old) fun out a b => ⟨_, rfl, ?_⟩) (args_list_sort _)))
  subst hcp
  exact wpAny_pure ⟨_, rfl, fin out a b⟩
end
section
variable {X : Cx}
def rSortedIA (K : PySem.W.Frag) : List V → Hp → VK → Prop := fun vs H Q => ∃ (a : Addr) (ns : List Int), vs = [V.ref a] ∧ SqA K H a (ns.map V.int) ∧
  ∀ (ns' : List Int) (p : Addr), ns'.Perm ns → ns'.Pairwise (· ≤ ·) → H p = none → Q (.ref p) (upd H p (.lst (ns'.map V.int)))
theorem cr_sortedIA : CallR X (.builtin "sorted") (rSortedIA X.K) := by
  rintro pins s σ H vs us Q I r ⟨a, ns, rfl, hs, q⟩
  rcases hs with hs | hs
  · exact cr_sortedI pins s σ H _ us Q I r ⟨a, ns, rfl, hs, q⟩
  · rw [Vals.ref1 r]
    obtain ⟨its, rv, pt, _⟩ := I.tuple hs
    have hi := rv.ints
    have il : its.length = ns.length := by rw [← rv.length, List.length_map]
    have hz : ns.length ≤ sizeLine := by
      have := (I.tuple hs)
      obtain ⟨its2, rv2, _, z2⟩ := this
      rw [List.length_map] at z2
      exact z2
    refine sorted_tup SrtO.swo_int (show s.heap.IsTuple a its.toArray from pt) (by omega) (fun m h1 a' _ _ => SrtO.ints_sortable hi m) fun out h1 h2 => ?_
    obtain ⟨k1, k2, k3⟩ := SrtO.ints_out hi h1 h2
    obtain ⟨ep, he⟩ := PyProof.Rows.sortedAll_at s.heap its out.toArray
    have hl : ((out.map SrtO.iv).map V.int).length ≤ sizeLine := by rw [List.length_map, k2.length_eq]; exact hz
    exact ⟨.ref (s.heap.objs.size + 1), upd H (s.heap.objs.size + 1) (.lst ((out.map SrtO.iv).map V.int)), I.laid (t' := s.toks) (fun _ _ => PyProof.Rows.sortedAll_old) (Nat.le_succ _) ⟨hl, out, ep, vals_of_ints k1, he⟩, rfl, q _ _ k2 k3 (I.hok.fresh (Nat.le_succ _))⟩
end
end Tk

namespace Tk
open PySem PySem.Spec PyProof.Rows L2
section
variable {X : Cx}
def rSetTA (K : PySem.W.Frag) (P : Program) (w : World) : List V → Hp → VK → Prop := fun xs H Q => ∃ (l : Addr) (ks : List (Addr × List Int)), xs = [V.ref l] ∧ SqA K H l (ks.map fun p => V.ref p.1) ∧ (∀ p ∈ ks, SqT K H p.1 (p.2.map V.int)) ∧ ks.length < 64 ∧
  ∀ a L, H a = none → (∀ p ∈ L, p ∈ ks) → (∀ p ∈ ks, p.2 ∈ L.map (·.2)) → Q (.ref a) (upd H a (SetTO P w a L))
theorem cr_setTA (hc : X.calm = true) (hu : X.A.units + 64 < cLine) : CallR X (.type "set") (rSetTA X.K X.prog X.w) := by
  rintro pins s σ H xs us Q I r ⟨l, ks, rfl, hl, hk, hf, q⟩
  rcases hl with hl | hl
  · exact cr_setOfT hc hu pins s σ H _ us Q I r ⟨l, ks, rfl, hl, hk, hf, q⟩
  · exact cr_setTT hc hu pins s σ H _ us Q I r ⟨l, ks, rfl, hl, hk, hf, q⟩
end
end Tk

namespace Tk
open PySem PySem.Spec PyProof.Rows L2
def top (i : Nat) : Stmt := PySem.Challenge.pw_toldpushes_k14_whole_determinants.main.body.getD i (.Pass ⟨0, 0, 0, 0⟩)
abbrev sIsInt : Stmt := top 3
abbrev sIsCnt : Stmt := top 4
abbrev sIsLst : Stmt := top 5
abbrev sIsSize : Stmt := top 29
abbrev sChkSize : Stmt := top 30
abbrev sPot : Stmt := top 41
abbrev sDraw : Stmt := top 42
abbrev sPick : Stmt := top 43
abbrev sOneRight : Stmt := top 57
abbrev sRight : Stmt := top 59
abbrev sLaw : Stmt := top 60

/-- a def of the text under its own name -/
structure Df (K : PySem.W.Frag) (mg : Str → Option Value) (nm : Str) (st : Stmt) (ps : List Str) (f : Addr) (fd : FuncData) : Prop where
  F : Fun K nm nm st f fd
  g : mg nm = some (.ref f)
  b : Binds K fd ps []
/-- the built-in names still mean what they mean -/
structure Bl (mg : Str → Option Value) : Prop where
  isi : mg "isinstance" = none
  int : mg "int" = none
  bool : mg "bool" = none
  list : mg "list" = none
  tuple : mg "tuple" = none
  len : mg "len" = none
  all : mg "all" = none
  any : mg "any" = none
  set : mg "set" = none
  range : mg "range" = none
  sorted : mg "sorted" = none
  sum : mg "sum" = none
  abs : mg "abs" = none
  max : mg "max" = none
  min : mg "min" = none
  divmod : mg "divmod" = none
  repr : mg "repr" = none
  enumerate : mg "enumerate" = none
  zip : mg "zip" = none

/-! ## kinds of values -/
inductive IntV (K : PySem.W.Frag) (H : Hp) : V → Option Int → Prop
  | int (i : Int) : IntV K H (.int i) (some i)
  | bl (b : Bool) : IntV K H (.bl b) none
  | oth {v : V} {ty : String} (h : TyX K H v (.type ty)) (k : kitB ty "int" = some false) : IntV K H v none
inductive SqV (K : PySem.W.Frag) (H : Hp) : V → Option (List V) → Prop
  | sq {a : Addr} {xs : List V} (h : SqA K H a xs) : SqV K H (.ref a) (some xs)
  | no {v : V} {ty : String} (h : TyX K H v (.type ty)) (k : kitB ty "list" = some false) (k2 : kitB ty "tuple" = some false) : SqV K H v none
theorem tyx_s {K : PySem.W.Frag} {H H' : Hp} {v t : _} (h : TyX K H v t) (e : Same H H') : TyX K H' v t := by
  cases h with
  | base b =>
    refine .base ?_
    cases b with
    | non => exact .non
    | bl x => exact .bl x
    | int i => exact .int i
    | str x => exact .str x
    | flt x => exact .flt x
    | lst q => exact .lst (e _ _ q)
    | frz q => exact .frz (e _ _ q)
    | tup q => exact .tup (e _ _ q)
    | dK q => exact .dK (e _ _ q)
    | dT q => exact .dT (e _ _ q)
    | ins q a1 a2 a3 a4 a5 => exact .ins (e _ _ q) a1 a2 a3 a4 a5
  | byt b => exact .byt b
  | set q => exact .set (e _ _ q)
  | kList q c => exact .kList q c
  | kTuple q c => exact .kTuple q c
  | kDict q c => exact .kDict q c
  | fTuple q => exact .fTuple (e _ _ q)
  | fDict q => exact .fDict (e _ _ q)
theorem intv_s {K : PySem.W.Frag} {H H' : Hp} {v : V} {o : Option Int} (h : IntV K H v o) (e : Same H H') : IntV K H' v o := by
  cases h with
  | int i => exact .int i
  | bl b => exact .bl b
  | oth h k => exact .oth (tyx_s h e) k
theorem sqv_s {K : PySem.W.Frag} {H H' : Hp} {v : V} {o : Option (List V)} (h : SqV K H v o) (e : Same H H') : SqV K H' v o := by
  cases h with
  | sq h => exact .sq (same_a e h)
  | no h k k2 => exact .no (tyx_s h e) k k2
def cntO : Option Int → Bool
  | some i => decide (0 ≤ i)
  | none => false
def thgO (n : Int) : Option Int → Bool
  | some i => decide (0 ≤ i) && decide (i < n)
  | none => false
/-! ## promises -/
def spIsInt (K : PySem.W.Frag) : Sp := fun vs H Q _ => ∃ (v : V) (o : Option Int), vs = [v] ∧ IntV K H v o ∧ Q (.bl o.isSome) H
def spIsCnt (K : PySem.W.Frag) : Sp := fun vs H Q _ => ∃ (v : V) (o : Option Int), vs = [v] ∧ IntV K H v o ∧ Q (.bl (cntO o)) H
def spIsThg (K : PySem.W.Frag) : Sp := fun vs H Q _ => ∃ (n : Int) (v : V) (o : Option Int), vs = [.int n, v] ∧ IntV K H v o ∧ Q (.bl (thgO n o)) H
def spIsLst (K : PySem.W.Frag) : Sp := fun vs H Q _ => ∃ (v : V) (o : Option (List V)), vs = [v] ∧ SqV K H v o ∧ ∀ H', Same H H' → Q (.bl o.isSome) H'

section
variable {P : Program} {w : World} {K : PySem.W.Frag} {mg : Str → Option Value} {base : Heap}
theorem sc_isInt : FnScope ["value"] ["value"] (defScope sIsInt) := ⟨rfl, rfl, rfl, by decide +kernel, rfl, by decide +kernel, by decide +kernel⟩
theorem ok_isInt {f : Addr} {fd : FuncData} (F : Fun K "is_integer" "is_integer" sIsInt f fd) (B : Bl mg) : FnOk P w K mg base CX0 1 f fd ["value"] (spIsInt K) := by
  refine F.ok sc_isInt (fun vs H Q E h => ?_) (fun cdv A outer s H vs Q E hr h => ?_)
  · obtain ⟨i, _, rfl, _⟩ := h
    rfl
  · obtain ⟨v, o, rfl, hv, q⟩ := h
    refine ⟨_, pss_one (ps_ret (pe_and
      (pe_callB call_isi (by rfl) B.isi PyProof.Rows.boot_isinstance (pa_cons (pv 0) (pa_cons (pe_bltn (v := .ty "int") (by rfl) B.int PyProof.Rows.boot_int rfl) pa_nil)))
      (pe_one (pe_not (pe_callB call_isi (by rfl) B.isi PyProof.Rows.boot_isinstance (pa_cons (pv 0) (pa_cons (pe_bltn (v := .ty "bool") (by rfl) B.bool PyProof.Rows.boot_bool rfl) pa_nil))))))), ?_⟩
    cases hv with
    | int i =>
      refine ⟨_, rfl, _, _, _, _, true, rfl, .ty _, .base (.int i), kit_ty (by decide +kernel), true, rfl, iteT ?_⟩
      exact ⟨_, rfl, _, _, _, _, false, rfl, .ty _, .base (.int i), kit_ty (by decide +kernel), false, rfl, q⟩
    | bl b =>
      refine ⟨_, rfl, _, _, _, _, true, rfl, .ty _, .base (.bl b), kit_ty (by decide +kernel), true, rfl, iteT ?_⟩
      exact ⟨_, rfl, _, _, _, _, true, rfl, .ty _, .base (.bl b), kit_ty (by decide +kernel), true, rfl, q⟩
    | oth h k =>
      exact ⟨_, rfl, _, _, _, _, false, rfl, .ty _, h, kit_ty k, false, rfl, iteF q⟩

theorem sc_isCnt : FnScope ["value"] ["value"] (defScope sIsCnt) := ⟨rfl, rfl, rfl, by decide +kernel, rfl, by decide +kernel, by decide +kernel⟩
theorem ok_isCnt {f f1 : Addr} {fd fd1 : FuncData} (F : Fun K "is_count" "is_count" sIsCnt f fd) (D1 : Df K mg "is_integer" sIsInt ["value"] f1 fd1) (B : Bl mg) : FnOk P w K mg base CX0 2 f fd ["value"] (spIsCnt K) := by
  have G1 : FnOk P w K mg base CX0 1 f1 fd1 ["value"] (spIsInt K) := ok_isInt D1.F B
  refine F.ok sc_isCnt (fun vs H Q E h => ?_) (fun cdv A outer s H vs Q E hr h => ?_)
  · obtain ⟨i, _, rfl, _⟩ := h
    rfl
  · obtain ⟨v, o, rfl, hv, q⟩ := h
    refine ⟨_, pss_one (ps_ret (pe_and (pe_call G1 hr rfl D1.g D1.F.kp D1.b .nil pass0 (pa_cons (pv 0) pa_nil)) (pe_one (pe_cmpR op_ge (pv 0) pe_int (nomark _))))), ?_⟩
    refine ⟨_, rfl, v, o, rfl, hv, o.isSome, rfl, ?_⟩
    cases hv with
    | int i => exact iteT ⟨_, rfl, _, _, rfl, rfl, q⟩
    | bl b => exact iteF q
    | oth h k => exact iteF q

theorem sc_isLst : FnScope ["value"] ["value"] (defScope sIsLst) := ⟨rfl, rfl, rfl, by decide +kernel, rfl, by decide +kernel, by decide +kernel⟩
theorem kit_any2 {t : String} {b : Bool} (h : kitB t "list" = some false) (h2 : kitB t "tuple" = some b) : PySem.W.kitAny K (.type t) [.type "list", .type "tuple"] = some b := by
  refine kitAny_cons (b := false) (kit_ty h) (fun _ => ?_) (fun z => nomatch z)
  cases b with
  | true => exact kitAny_cons (b := true) (kit_ty h2) (fun z => nomatch z) (fun _ => rfl)
  | false => exact kitAny_cons (b := false) (kit_ty h2) (fun _ => rfl) (fun z => nomatch z)
theorem ok_isLst {f : Addr} {fd : FuncData} (F : Fun K "is_list" "is_list" sIsLst f fd) (B : Bl mg) : FnOk P w K mg base CX0 1 f fd ["value"] (spIsLst K) := by
  refine F.ok sc_isLst (fun vs H Q E h => ?_) (fun cdv A outer s H vs Q E hr h => ?_)
  · obtain ⟨i, _, rfl, _⟩ := h
    rfl
  · obtain ⟨v, o, rfl, hv, q⟩ := h
    refine ⟨_, pss_one (ps_ret (pe_callB call_isiT (by rfl) B.isi PyProof.Rows.boot_isinstance (pa_cons (pv 0) (pa_cons
      (pe_tup (pa_cons (pe_bltn (v := .ty "list") (by rfl) B.list PyProof.Rows.boot_list rfl) (pa_cons (pe_bltn (v := .ty "tuple") (by rfl) B.tuple PySem.Pv.boot_tuple rfl) pa_nil))) pa_nil)))), ?_⟩
    refine ⟨_, rfl, szle (by decide), fun p hp => ?_⟩
    have hv' := sqv_s hv (same_new (o := .tup [.ty "list", .ty "tuple"]) hp)
    cases hv' with
    | sq h =>
      rcases h with h | h
      · exact ⟨_, p, [.ty "list", .ty "tuple"], _, [.type "list", .type "tuple"], true, rfl, upd_same, .cons (.ty _) (.cons (.ty _) .nil), tyx_l h, kit_lt, q _ (same_new hp)⟩
      · exact ⟨_, p, [.ty "list", .ty "tuple"], _, [.type "list", .type "tuple"], true, rfl, upd_same, .cons (.ty _) (.cons (.ty _) .nil), tyx_t h, kit_any2 (by decide +kernel) (by decide +kernel), q _ (same_new hp)⟩
    | no h k k2 => exact ⟨_, p, [.ty "list", .ty "tuple"], _, [.type "list", .type "tuple"], false, rfl, upd_same, .cons (.ty _) (.cons (.ty _) .nil), h, kit_any2 k k2, q _ (same_new hp)⟩
end
end Tk

namespace NeO
open PySem PySem.W PySem.Spec PyProof.Rows
section
variable {prog : Program} {w : World} {A : Around} {E : Value → Shared → Prop} {s : Shared} {K : Frag} {x C f : Addr} {ox : Obj} {od : Option Obj} {name : Str} {h₀ : Heap}
theorem bind_ne (self : Value) : bindSpecial (.builtin "object.__ne__") self = pure (.builtin "object.__ne__", [self]) := PySem.F.slot_enumerate_ne.bind self
theorem ifBound_B {M : Model} {id : String} {args : List Value} {Q : Option Value → Shared → Prop} (X : K.In s.heap) (I : InstAt s.heap x ox C od) (hs : findIn K (.ref C) name = some (some (.builtin id))) (hb : ∀ self, bindSpecial (.builtin id) self = pure (.builtin id, [self]))
    (h : wpAny M A (call (.builtin id) (.ref x :: args)) (fun v => Q (some v)) E s) : wpAny M A (callSpecialIfBound? (.ref x) name args) Q E s := by
  simp only [callSpecialIfBound?, bindSpecialIfBound?]
  refine wpAny_holding (wpAny_bind (wpAny_bind (wpAny_bind (I.type.here ((looks_findIn X hs).here ?_)))))
  refine wpAny_bind (wpAny_askSetting (wpAny_ite ?_))
  have fin : wpAny M A (call (.builtin id) ([.ref x] ++ args) >>= fun v => pure (some v)) Q E s := wpAny_bind (wpAny_mono h (fun v s' h' => wpAny_pure h') fun _ _ h' => h')
  simp only [hb]
  split
  · exact wpAny_bind (wpAny_pure (wpAny_pure fin))
  · exact wpAny_tryCatch (wpAny_bind (wpAny_pure (wpAny_pure fin)))
theorem ne_body {y : Value} {Q : Fin → Shared → Prop} (X : K.In s.heap) (I : InstAt s.heap x ox C od) (hs : findIn K (.ref C) "__eq__" = some (some (.ref f))) (hf : isFn K (.ref f) = true) (hu : A.units < cLine)
    (hcall : wpAny (model prog w) A (call (.ref f) [.ref x, y]) (fun v s' => ∃ b, v = .bool b ∧ Q (.done (.ret (.bool (!b)))) s') E s) :
    wpAny (model prog w) A (Builtin.«object.__ne__» ⟨[.ref x, y], []⟩) Q E s := by
  unfold Builtin.«object.__ne__»
  repeat (first
    | with_reducible refine wpAny_cRoomFor hu ?_
    | (refine wpAny_bind (m := callSpecialIfBound? (.ref x) (Str.ofString "__eq__") [y])
        (ifBound_K X I hs hf (wpAny_mono hcall (fun r s' hr => by
          obtain ⟨b, rfl, hq⟩ := hr
          repeat (first | exact hq | exact wpAny_pure hq | exact wpAny_truthy_bool hq | (refine wpAny_bind (m := truthy (.bool _)) (wpAny_truthy_bool ?_)) | wp_step)) fun _ _ e => e)))
    | wp_step)
end
end NeO
namespace NeO
open PySem PySem.Spec PyProof.Rows L2
/-- a != b of two instances of a class with its own ==, == keeping sp -/
def rNeI (C : Addr) (sp : Sp) : R2 := fun x y H Q => ∃ (a b : Addr) (dx dy : Addr) (fs gs : List (Str × V)), x = .ref a ∧ y = .ref b ∧ H a = some (.ins C dx fs) ∧ H b = some (.ins C dy gs) ∧
  sp [.ref a, .ref b] H (fun v H' => ∃ c : Bool, v = .bl c ∧ Q (.bl (!c)) H') fun _ _ _ => False
/-- what the class gives for it -/
structure NeC (K : PySem.W.Frag) (C f : Addr) : Prop where
  eq : PySem.W.findIn K (.ref C) "__eq__" = some (some (.ref f))
  fn : PySem.W.isFn K (.ref f) = true
  ne : PySem.W.findIn K (.ref C) "__ne__" = some (some (.builtin "object.__ne__"))
  ob : PySem.W.mroIn K C (.type "object") = some true
section
variable {X : Cx} {k : Nat} {C f : Addr} {fd : FuncData} {ps : List Str} {sp : Sp}
theorem op_neI (Z : NeC X.K C f) (F : FnOk X.prog X.w X.K X.mg X.base CX0 k f fd ps sp) (hr : Room (k + 1) X.A) (hb : Binds X.K fd ps []) : OpR X (compareOp .NotEq) (rNeI C sp) := by
  intro pins s σ H x y v u Q I rx ry hq
  obtain ⟨a, b, dx, dy, fs, gs, rfl, rfl, ha, hb', q⟩ := hq
  cases rx
  cases ry
  obtain ⟨mA, J, _⟩ := ins_get I.hok ha
  obtain ⟨mB, J', _⟩ := ins_get I.hok hb'
  obtain ⟨od, J, _⟩ := J.look
  obtain ⟨od', J', _⟩ := J'.look
  have hu : X.A.units + 1 < cLine := by have := hr.un; omega
  have hu0 : X.A.units < cLine := by omega
  have hr1 : Room k X.A.in1 := hr.in1
  show wpAny (model X.prog X.w) X.A (richCompare .NotEq (.ref a) (.ref b)) (EP X pins σ Q) X.xe s
  have sub : PySem.W.Looks (model X.prog X.w) s.heap (isInstance (.ref a) (.type "object")) true := J.type.andThen (PySem.W.looks_mroIn I.kIn Z.ob)
  have run : wpAny (model X.prog X.w) X.A.in1 (call (.ref f) [.ref a, .ref b]) (fun v s' => ∃ b : Bool, v = .bool b ∧ EP X pins σ Q (.bool (!b)) s') X.xe s := by
    have e0 : Env0 X.prog X.w X.K X.mg X.base X.A.in1 X.stack s H := by
      have e := I.env0
      exact ⟨e.frames, e.mod, e.bs, e.bsz, e.funs, e.frf, e.hok, e.bare⟩
    have hl := F.len _ _ _ _ q
    have r2 : Vals [V.ref a, V.ref b] [Value.ref a, Value.ref b] := .cons rfl (.cons rfl .nil)
    refine wpAny_call (codeAny_mono (F.run X.A.in1 X.stack s H ⟨[.ref a, .ref b], []⟩ [.ref a, .ref b] [.ref a, .ref b] _ _ hr1 e0 (by
      have := hb s [.ref a, .ref b] I.kIn (by simpa using hl)
      simpa using this) r2 q) fun r s' hq => ?_)
    cases r with
    | error e => exact pass0 pins σ H s e s' I hq
    | ok fl =>
      cases fl with
      | ret w' =>
        obtain ⟨z, H', I', rz, c, ez, qz⟩ := I.after hq
        subst ez
        cases rz
        exact ⟨c, rfl, .bl (!c), H', I', rfl, qz⟩
      | next => exact False.elim hq
      | brk => exact False.elim hq
      | cont => exact False.elim hq
  have one : wpAny (model X.prog X.w) X.A (tryCompare (.ref a) "__ne__" (.ref b)) (fun r s' => ∃ v, r = some v ∧ EP X pins σ Q v s') X.xe s := by
    unfold tryCompare
    refine wpAny_bind (ifBound_B I.kIn J Z.ne bind_ne (wpAny_call (codeAny_call_builtin PySem.F.cmp_object.ne.plain PySem.F.cmpEntry_ne
      (PySem.W.check_slot PySem.F.cmpKind_ne PySem.F.cmpSplit_ne sub (PySem.F.cmpArgs_ne _ _) (ne_body I.kIn J Z.eq Z.fn (by show X.A.units + 1 < cLine; exact hu) (wpAny_mono run (fun v s' hv => ?_) fun _ _ e => e))))))
    obtain ⟨c, rfl, hq⟩ := hv
    first | exact ⟨c, rfl, wpAny_pure ⟨_, rfl, hq⟩⟩ | exact ⟨c, rfl, _, rfl, hq⟩
  unfold richCompare
  simp only [oneThing_ref]
  refine wpAny_holding (wpAny_bind (wpAny_cRoomFor hu0 ?_))
  rw [cmpInfo_NotEq]
  dsimp only
  refine wpAny_bind (J.type.here (wpAny_bind (J'.type.here ?_)))
  rw [show (Value.ref C != Value.ref C) = false from by simp]
  simp only [Bool.false_eq_true, if_false]
  refine wpAny_bind (wpAny_pure ?_)
  simp only [Bool.false_eq_true, if_false]
  refine wpAny_bind (wpAny_mono one (fun r s' z => ?_) fun _ _ e => e)
  obtain ⟨v, rfl, hq⟩ := z
  exact wpAny_pure hq
end
end NeO

namespace NeO
open PySem PySem.Spec PyProof.Rows L2
section
variable {X : Cx} {k : Nat} {C f : Addr} {fd : FuncData} {ps : List Str} {sp : Sp} {pins : List (Addr × Obj)} {σ : L2.St} {H : Hp} {s : Shared}
/-- a def called with these values, at a place with the frames of X -/
theorem run_own {A : Around} {us : List Value} {vs : List V} {Q : VK} (F : FnOk X.prog X.w X.K X.mg X.base CX0 k f fd ps sp) (hr : Room k A) (hfr : A.frames = X.A.frames) (hb : Binds X.K fd ps []) (I : Inv X pins σ H s) (r : Vals vs us) (q : sp vs H Q fun _ _ _ => False) :
    wpAny (model X.prog X.w) A (call (.ref f) us) (EP X pins σ Q) X.xe s := by
  have e0 : Env0 X.prog X.w X.K X.mg X.base A X.stack s H := by
    have e := I.env0
    exact ⟨by rw [hfr]; exact e.frames, e.mod, e.bs, e.bsz, e.funs, e.frf, e.hok, e.bare⟩
  have hl : us.length = ps.length := by rw [← r.length]; exact F.len _ _ _ _ q
  refine wpAny_call (codeAny_mono (F.run A X.stack s H ⟨us, []⟩ us vs _ _ hr e0 (by
    have := hb s us I.kIn (by simpa using hl)
    simpa using this) r q) fun r s' hq => ?_)
  cases r with
  | error e => exact pass0 pins σ H s e s' I hq
  | ok fl =>
    cases fl with
    | ret w' => exact I.after hq
    | next => exact False.elim hq
    | brk => exact False.elim hq
    | cont => exact False.elim hq
/-- a == b of two instances of a class with its own == -/
def rEqI (C : Addr) (sp : Sp) : R2 := fun x y H Q => ∃ (a b : Addr) (dx dy : Addr) (fs gs : List (Str × V)), x = .ref a ∧ y = .ref b ∧ H a = some (.ins C dx fs) ∧ H b = some (.ins C dy gs) ∧
  sp [.ref a, .ref b] H (fun v H' => ∃ c : Bool, v = .bl c ∧ Q (.bl c) H') fun _ _ _ => False
theorem op_eqI (h1 : PySem.W.findIn X.K (.ref C) "__eq__" = some (some (.ref f))) (h2 : PySem.W.isFn X.K (.ref f) = true) (F : FnOk X.prog X.w X.K X.mg X.base CX0 k f fd ps sp) (hr : Room k X.A) (hb : Binds X.K fd ps []) : OpR X (compareOp .Eq) (rEqI C sp) := by
  intro pins s σ H x y v u Q I rx ry hq
  obtain ⟨a, b, dx, dy, fs, gs, rfl, rfl, ha, hb', q⟩ := hq
  cases rx
  cases ry
  obtain ⟨mA, J, _⟩ := ins_get I.hok ha
  obtain ⟨mB, J', _⟩ := ins_get I.hok hb'
  obtain ⟨od, J, _⟩ := J.look
  obtain ⟨od', J', _⟩ := J'.look
  obtain ⟨m, hF⟩ := I.fr
  show wpAny (model X.prog X.w) X.A (richCompare .Eq (.ref a) (.ref b)) (EP X pins σ Q) X.xe s
  refine PySem.W.cmp_K (op := .Eq) (tb := .ref C) hr.units0 hF I.ok.mod.kin J J'.type (by simp [PySem.W.notFirst]) h1 h2 ?_
  refine wpAny_mono (run_own (vs := [V.ref a, V.ref b]) F hr rfl hb I (.cons rfl (.cons rfl .nil)) q) (fun v s' hv => ?_) fun _ _ e => e
  obtain ⟨z, H', I', rz, c, ez, qz⟩ := hv
  subst ez
  cases rz
  exact ⟨.bl c, H', I', rfl, qz⟩
/-- a + b (- *) of two instances of a class with its own __add__ (..), which makes an object -/
def rBinI (C : Addr) (sp : Sp) : R2 := fun x y H Q => ∃ (a b : Addr) (dx dy : Addr) (fs gs : List (Str × V)), x = .ref a ∧ y = .ref b ∧ H a = some (.ins C dx fs) ∧ H b = some (.ins C dy gs) ∧
  sp [.ref a, .ref b] H (fun v H' => ∃ p : Addr, v = .ref p ∧ Q (.ref p) H') fun _ _ _ => False
theorem op_binI {op : Operator} (h0 : PySem.W.selfFirst X.K C = true) (h1 : PySem.W.findIn X.K (.ref C) (PySem.dunder op.info.2) = some (some (.ref f))) (h2 : PySem.W.isFn X.K (.ref f) = true) (F : FnOk X.prog X.w X.K X.mg X.base CX0 k f fd ps sp) (hr : Room k X.A) (hb : Binds X.K fd ps []) : OpR X (binaryOp op) (rBinI C sp) := by
  intro pins s σ H x y v u Q I rx ry hq
  obtain ⟨a, b, dx, dy, fs, gs, rfl, rfl, ha, hb', q⟩ := hq
  cases rx
  cases ry
  obtain ⟨mA, J, _⟩ := ins_get I.hok ha
  obtain ⟨mB, J', _⟩ := ins_get I.hok hb'
  obtain ⟨od, J, _⟩ := J.look
  obtain ⟨od', J', _⟩ := J'.look
  obtain ⟨m, hF⟩ := I.fr
  refine PySem.W.binop_K hF I.ok.mod.kin J J'.type h0 h1 h2 ?_
  refine wpAny_mono (run_own (vs := [V.ref a, V.ref b]) F hr rfl hb I (.cons rfl (.cons rfl .nil)) q) (fun v s' hv => ?_) fun _ _ e => e
  obtain ⟨z, H', I', rz, p, ez, qz⟩ := hv
  subst ez
  cases rz
  exact ⟨.ref p, H', I', rfl, qz⟩
/-- repr(a) by an own __repr__ -/
def rReprI (C : Addr) (sp : Sp) : List V → Hp → VK → Prop := fun xs H Q => ∃ (a dx : Addr) (fs : List (Str × V)), xs = [.ref a] ∧ H a = some (.ins C dx fs) ∧ sp [.ref a] H (fun v H' => ∃ t : Str, v = .str t ∧ Q (.str t) H') fun _ _ _ => False
theorem call_reprI (h1 : PySem.W.findIn X.K (.ref C) "__repr__" = some (some (.ref f))) (h2 : PySem.W.isFn X.K (.ref f) = true) (F : FnOk X.prog X.w X.K X.mg X.base CX0 k f fd ps sp) (hr : Room (k + 1) X.A) (hb : Binds X.K fd ps []) : CallR X (.builtin "repr") (rReprI C sp) := by
  intro pins s σ H xs us Q I r hq
  obtain ⟨a, dx, fs, rfl, ha, q⟩ := hq
  obtain rfl : us = [Value.ref a] := Vals.ref1 r
  obtain ⟨mA, J, _⟩ := ins_get I.hok ha
  obtain ⟨od, J, _⟩ := J.look
  obtain ⟨m, hF⟩ := I.fr
  have hr1 : Room k X.A.in1 := hr.in1
  refine PySem.W.repr_K hr1.units0 hF I.ok.mod.kin J h1 h2 ?_
  refine wpAny_mono (run_own (A := X.A.in1) (vs := [V.ref a]) F hr1 rfl hb I (.cons rfl .nil) q) (fun v s' hv => ?_) fun _ _ e => e
  obtain ⟨z, H', I', rz, t, ez, qz⟩ := hv
  subst ez
  obtain ⟨tk, rfl⟩ := rz
  exact ⟨.str t, H', I', ⟨tk, rfl⟩, qz⟩
end
end NeO

namespace NeO
open PySem PySem.Spec PyProof.Rows L2
section
variable {X : Cx} {k : Nat} {C f : Addr} {fd : FuncData} {ps : List Str} {sp : Sp} {pins : List (Addr × Obj)} {σ : L2.St} {H : Hp} {s : Shared}
/-- a == y of an instance of a class with its own == and any value of known type -/
def rEqV (K : PySem.W.Frag) (C : Addr) (sp : Sp) : R2 := fun x y H Q => ∃ (a dx : Addr) (fs : List (Str × V)) (t : Value), x = .ref a ∧ H a = some (.ins C dx fs) ∧ TyX K H y t ∧ PySem.W.notFirst K C t = true ∧
  sp [.ref a, y] H (fun v H' => ∃ c : Bool, v = .bl c ∧ Q (.bl c) H') fun _ _ _ => False
theorem op_eqV (h1 : PySem.W.findIn X.K (.ref C) "__eq__" = some (some (.ref f))) (h2 : PySem.W.isFn X.K (.ref f) = true) (F : FnOk X.prog X.w X.K X.mg X.base CX0 k f fd ps sp) (hr : Room k X.A) (hb : Binds X.K fd ps []) : OpR X (compareOp .Eq) (rEqV X.K C sp) := by
  intro pins s σ H x y v u Q I rx ry hq
  obtain ⟨a, dx, fs, t, rfl, ha, ty, nf, q⟩ := hq
  cases rx
  obtain ⟨mA, J, _⟩ := ins_get I.hok ha
  obtain ⟨od, J, _⟩ := J.look
  obtain ⟨m, hF⟩ := I.fr
  obtain ⟨P, Z, p, hx⟩ := kit_of I ry ty
  show wpAny (model X.prog X.w) X.A (richCompare .Eq (.ref a) u) (EP X pins σ Q) X.xe s
  refine PySem.W.cmp_K (op := .Eq) (tb := t) hr.units0 hF I.ok.mod.kin J (Z.ty _ _ I.kIn p) nf h1 h2 ?_
  refine wpAny_mono (run_own (vs := [V.ref a, y]) F hr rfl hb I (.cons rfl (.cons ry .nil)) q) (fun v s' hv => ?_) fun _ _ e => e
  obtain ⟨z, H', I', rz, c, ez, qz⟩ := hv
  subst ez
  cases rz
  exact ⟨.bl c, H', I', rfl, qz⟩
end
end NeO

namespace Tk
open PySem PySem.Spec PyProof.Rows L2
/-- what the rule of repr asks of data -/
structure RepOk (d : PyData) : Prop where
  sh : d.showable = true
  nd : d.hasDict = false
  dp : d.depth ≤ 50
  sz : d.shown.length ≤ sizeLine
theorem log2_lt {k : Nat} (h : k < 10 ^ 12) : k.log2 < 40 := by
  by_cases h0 : k = 0
  · subst h0; decide
  · have := (Nat.log2_lt h0 (k := 40)).mpr (Nat.lt_of_lt_of_le h (by decide))
    exact this
theorem ints_facts : ∀ {ns : List Int}, (∀ n ∈ ns, n.natAbs < 10 ^ 12) → PyData.showableAll (ns.map .int) = true ∧ PyData.hasDictAll (ns.map .int) = false ∧ PyData.depthAll (ns.map .int) = 0 ∧ PyData.canLayAll0 (ns.map .int) = true ∧ PyData.weightAll (ns.map .int) ≤ 42 * ns.length
  | [], _ => ⟨by simp [PyData.showableAll], by simp [PyData.hasDictAll], by simp [PyData.depthAll], by simp [PyData.canLayAll0], by simp [PyData.weightAll]⟩
  | n :: ns, h => by
    obtain ⟨a, b, c, d, e⟩ := ints_facts (ns := ns) fun m hm => h m (List.mem_cons_of_mem _ hm)
    have hn := log2_lt (h n (List.mem_cons_self ..))
    refine ⟨?_, ?_, ?_, ?_, ?_⟩
    · simp only [List.map_cons, PyData.showableAll, PyData.showable, a, Bool.and_true, decide_eq_true_eq]; omega
    · simp only [List.map_cons, PyData.hasDictAll, PyData.hasDict, b, Bool.or_false]
    · simp only [List.map_cons, PyData.depthAll, PyData.depth, c, Nat.max_self]
    · simp only [List.map_cons, PyData.canLayAll0, PyData.canLay0, d, Bool.and_true]
    · simp only [List.map_cons, PyData.weightAll, PyData.weight, List.length_cons]
      split <;> omega
theorem rep_ints {ns : List Int} (h : ∀ n ∈ ns, n.natAbs < 10 ^ 12) (hl : ns.length ≤ 1000) : RepOk (.list (ns.map .int)) := by
  obtain ⟨a, b, c, d, e⟩ := ints_facts h
  refine ⟨by simp only [PyData.showable]; exact a, by simp only [PyData.hasDict]; exact b, by simp only [PyData.depth]; omega, ?_⟩
  refine PyData.shown_fits (B := 13) (by decide) (by decide) ?_ ?_
  · simp only [PyData.leavesShort]
    exact PyData.leavesShortAll_of_canLay0 13 _ d (PyData.intsShortAll_ints ns h)
  · simp only [PyData.weight]; omega
theorem bools_facts : ∀ (bs : List Bool), PyData.showableAll (bs.map .bool) = true ∧ PyData.hasDictAll (bs.map .bool) = false ∧ PyData.depthAll (bs.map .bool) = 0 ∧ PyData.canLayAll0 (bs.map .bool) = true ∧ PyData.weightAll (bs.map .bool) ≤ 42 * bs.length
  | [] => ⟨by simp [PyData.showableAll], by simp [PyData.hasDictAll], by simp [PyData.depthAll], by simp [PyData.canLayAll0], by simp [PyData.weightAll]⟩
  | n :: ns => by
    obtain ⟨a, b, c, d, e⟩ := bools_facts ns
    refine ⟨?_, ?_, ?_, ?_, ?_⟩
    · simp only [List.map_cons, PyData.showableAll, PyData.showable, a, Bool.and_true]
    · simp only [List.map_cons, PyData.hasDictAll, PyData.hasDict, b, Bool.or_false]
    · simp only [List.map_cons, PyData.depthAll, PyData.depth, c, Nat.max_self]
    · simp only [List.map_cons, PyData.canLayAll0, PyData.canLay0, d, Bool.and_true]
    · simp only [List.map_cons, PyData.weightAll, PyData.weight, List.length_cons]
      omega
theorem rep_bools {bs : List Bool} (hl : bs.length ≤ 1000) : RepOk (.list (bs.map .bool)) := by
  obtain ⟨a, b, c, d, e⟩ := bools_facts bs
  refine ⟨by simp only [PyData.showable]; exact a, by simp only [PyData.hasDict]; exact b, by simp only [PyData.depth]; omega, ?_⟩
  refine PyData.shown_fits (B := 13) (by decide) (by decide) ?_ ?_
  · simp only [PyData.leavesShort]
    exact PyData.leavesShortAll_of_canLay0 13 _ d (PyData.intsShortAll_bools 13 bs)
  · simp only [PyData.weight]; omega

/-! ## calls with keywords alone, named in the parameters' order from behind -/
def tKwR (m : Nat) (sp : Sp) (t : L2.TA) : TE := fun σ H Q => t σ H fun zs H1 => zs.length = m ∧ sp zs.reverse H1 Q E0
section
variable {X : Cx} {k : Nat} {f : Addr} {fd : FuncData} {ps ks : List Str} {sp : Sp} {x : Str} {p pos : Pos} {kws : List Keyword} {t : L2.TA}
theorem vals_app {xs ys : List V} {us ws : List Value} (h : Vals xs us) (g : Vals ys ws) : Vals (xs ++ ys) (us ++ ws) := h.append g
theorem vals_rev : ∀ {xs : List V} {us : List Value}, Vals xs us → Vals xs.reverse us.reverse
  | _, _, .nil => .nil
  | _, _, .cons r t => by
    rw [List.reverse_cons, List.reverse_cons]
    exact (vals_rev t).append (.cons r .nil)
theorem pe_kwR (F : FnOk X.prog X.w X.K X.mg X.base CX0 k f fd ps sp) (hr : Room k X.A) (hg : Gl X x) (hm : X.mg x = some (.ref f)) (hk : PySem.W.keepIn X.K (.ref f) = true)
    (hb : ∀ (s : Shared) (ws : List Value), ws.length = ks.length → BindsTo s fd ⟨[], ks.zip ws⟩ (ps.zip ws.reverse))
    (hkw : PK X kws t) (hall : (backToKw pos (keywordEach kws X.env)).all (·.1.isSome) = true := by rfl) (hks : (backToKw pos (keywordEach kws X.env)).filterMap (·.1) = ks := by rfl) (hdb : (x == ("__debug__" : Str)) = false := by decide)
    (hpl : ((backTo pos (starEach [] X.env)).any (·.1) || (backToKw pos (keywordEach kws X.env)).any (·.1.isNone)) = false := by rfl) :
    PE X (.Call (.Name x p) [] kws pos) (tKwR ks.length sp t) := by
  constructor
  intro pins s σ H Q I h
  apply wpAny_Call_Name_kw
  apply ld_glob I hg hm _ hdb
  refine PySem.W.callWith_KW0 (h₀ := X.base) I.ok.mod.kin hk hall (thn (hkw.run pos pins s σ H _ I h) ?_) hpl
  rintro ws s1 ⟨zs, H1, I1, rv, lz, q⟩
  refine ⟨I1.kIn, ?_⟩
  rw [hks]
  have lw : ws.length = ks.length := by rw [← rv.length]; exact lz
  apply wpAny_call
  refine codeAny_mono (F.run X.A X.stack s1 H1 ⟨[], ks.zip ws⟩ ws.reverse zs.reverse Q E0 hr I1.env0 (hb s1 ws lw) (vals_rev rv) q) ?_
  intro r s' hq
  cases r with
  | error er => exact hq.elim
  | ok fl =>
    cases fl with
    | ret u => exact I1.after hq
    | next => exact hq.elim
    | brk => exact hq.elim
    | cont => exact hq.elim
end
end Tk
namespace Tk
open PySem
structure GoodD (d : PyData) (k W : Nat) : Prop where
  sh : d.showable = true
  nd : d.hasDict = false
  dp : d.depth ≤ k
  cl : d.canLay0 = true
  ish : d.intsShort 13 = true
  wt : d.weight ≤ W
structure GoodA (ds : List PyData) (k W : Nat) : Prop where
  sh : PyData.showableAll ds = true
  nd : PyData.hasDictAll ds = false
  dp : PyData.depthAll ds ≤ k
  cl : PyData.canLayAll0 ds = true
  ish : PyData.intsShortAll 13 ds = true
  wt : PyData.weightAll ds ≤ W
theorem goodA_ints {ns : List Int} (h : ∀ n ∈ ns, n.natAbs < 10 ^ 12) : GoodA (ns.map .int) 0 (42 * ns.length) := by
  obtain ⟨a, b, c, d, e⟩ := ints_facts h
  exact ⟨a, b, by omega, d, PyData.intsShortAll_ints ns h, e⟩
theorem goodD_list {ds : List PyData} {k W : Nat} (g : GoodA ds k W) : GoodD (.list ds) (k + 1) (W + 64) := by
  refine ⟨by simp only [PyData.showable]; exact g.sh, by simp only [PyData.hasDict]; exact g.nd, ?_, by simp only [PyData.canLay0]; exact g.cl, by simp only [PyData.intsShort]; exact g.ish, ?_⟩
  · have := g.dp
    simp only [PyData.depth]; omega
  · have := g.wt
    simp only [PyData.weight]; omega
theorem goodA_nil {k : Nat} : GoodA [] k 64 := ⟨by simp [PyData.showableAll], by simp [PyData.hasDictAll], by simp [PyData.depthAll], by simp [PyData.canLayAll0], by simp [PyData.intsShortAll], by simp [PyData.weightAll]⟩
theorem goodA_cons {d : PyData} {ds : List PyData} {k W1 W2 : Nat} (g : GoodD d k W1) (h : GoodA ds k W2) : GoodA (d :: ds) k (W1 + W2 + 64) := by
  refine ⟨?_, ?_, ?_, ?_, ?_, ?_⟩
  · simp only [PyData.showableAll, g.sh, h.sh]; rfl
  · simp only [PyData.hasDictAll, g.nd, h.nd]; rfl
  · have a := g.dp
    have b := h.dp
    simp only [PyData.depthAll]; omega
  · simp only [PyData.canLayAll0, g.cl, h.cl]; rfl
  · simp only [PyData.intsShortAll, g.ish, h.ish]; rfl
  · have a := g.wt
    have b := h.wt
    simp only [PyData.weightAll]; omega
theorem goodD_rep {d : PyData} {k W : Nat} (g : GoodD d k W) (hk : k ≤ 50) (hW : W ≤ 100000) : RepOk d :=
  ⟨g.sh, g.nd, Nat.le_trans g.dp hk, PyData.shown_fits (B := 13) (by decide) (by decide) (PyData.leavesShort_of_canLay0 13 d g.cl g.ish) (by have := g.wt; omega)⟩
theorem goodD_mono {d : PyData} {k W W' : Nat} (g : GoodD d k W) (h : W ≤ W') : GoodD d k W' := ⟨g.sh, g.nd, g.dp, g.cl, g.ish, Nat.le_trans g.wt h⟩
/-- short lists of small ints -/
theorem goodA_rows : ∀ {os : List (List Int)}, (∀ o ∈ os, o.length ≤ 6 ∧ ∀ x ∈ o, x.natAbs < 10 ^ 12) → GoodA (os.map fun o => PyData.list (o.map .int)) 1 (400 * os.length + 64)
  | [], _ => goodA_nil
  | o :: os, h => by
    have ho := h o (List.mem_cons_self ..)
    have g1 : GoodD (.list (o.map .int)) 1 316 := goodD_mono (goodD_list (goodA_ints ho.2)) (by have := ho.1; omega)
    have g2 := goodA_rows (os := os) fun p hp => h p (List.mem_cons_of_mem _ hp)
    have g := goodA_cons g1 g2
    refine ⟨g.sh, g.nd, g.dp, g.cl, g.ish, Nat.le_trans g.wt ?_⟩
    rw [List.length_cons]
    omega
theorem rows_rep {os : List (List Int)} (h : ∀ o ∈ os, o.length ≤ 6 ∧ ∀ x ∈ o, x.natAbs < 10 ^ 12) (hl : os.length ≤ 6) : GoodD (.list (os.map fun o => PyData.list (o.map .int))) 2 3000 := goodD_mono (goodD_list (goodA_rows h)) (by omega)
end Tk

namespace NeO
open PySem PySem.Spec PyProof.Rows L2
section
variable {X : Cx} {k : Nat} {C f : Addr} {fd : FuncData} {ps : List Str} {sp : Sp} {pins : List (Addr × Obj)} {σ : L2.St} {H : Hp} {s : Shared}
/-- a + i (- *), a of a class with its own __add__ (..), i an int -/
def rBinT (C : Addr) (sp : Sp) : R2 := fun x y H Q => ∃ (a dx : Addr) (fs : List (Str × V)) (i : Int), x = .ref a ∧ y = .int i ∧ H a = some (.ins C dx fs) ∧
  sp [.ref a, .int i] H (fun v H' => ∃ p : Addr, v = .ref p ∧ Q (.ref p) H') fun _ _ _ => False
/-- what class and type give for it -/
structure BinT (K : PySem.W.Frag) (C f : Addr) (nm : String) : Prop where
  first : PySem.W.selfFirst K C = true
  own : PySem.W.findIn K (.ref C) (PySem.dunder nm) = some (some (.ref f))
  fn : PySem.W.isFn K (.ref f) = true
  back : ∃ rc, PySem.W.findIn K (.ref C) (dunderR nm) = some rc ∧ (rc = none ∨ ∃ g : Addr, rc = some (.ref g))
  tf : ∃ fo, PySem.W.findIn K (.type "int") (PySem.dunder nm) = some fo
  tr : ∃ ro, PySem.W.findIn K (.type "int") (dunderR nm) = some ro
  sub : PySem.W.subIn K (.type "int") (.ref C) = some false
theorem op_binT {op : Operator} (Z : BinT X.K C f op.info.2) (F : FnOk X.prog X.w X.K X.mg X.base CX0 k f fd ps sp) (hr : Room k X.A) (hb : Binds X.K fd ps []) : OpR X (binaryOp op) (rBinT C sp) := by
  intro pins s σ H x y v u Q I rx ry hq
  obtain ⟨a, dx, fs, i, rfl, rfl, ha, q⟩ := hq
  cases rx
  obtain ⟨ti, rfl⟩ := ry
  obtain ⟨mA, J, _⟩ := ins_get I.hok ha
  obtain ⟨od, J, _⟩ := J.look
  obtain ⟨m, hF⟩ := I.fr
  obtain ⟨rc, h3, h4⟩ := Z.back
  obtain ⟨fo, h5⟩ := Z.tf
  obtain ⟨ro, h6⟩ := Z.tr
  refine PySem.W.ksp_binT (T := "int") hF I.ok.mod.kin J rfl Z.first Z.own Z.fn h3 h4 h5 h6 Z.sub ?_
  refine wpAny_mono (run_own (vs := [V.ref a, V.int i]) F hr rfl hb I (.cons rfl (.cons ⟨ti, rfl⟩ .nil)) q) (fun v s' hv => ?_) fun _ _ e => e
  obtain ⟨z, H', I', rz, p, ez, qz⟩ := hv
  subst ez
  cases rz
  exact ⟨.ref p, H', I', rfl, qz⟩
/-- -a by an own __neg__ -/
theorem neg_own {pins : List (Addr × Obj)} {a dx : Addr} {fs : List (Str × V)} {Q : VK} (h1 : PySem.W.findIn X.K (.ref C) "__neg__" = some (some (.ref f))) (h2 : PySem.W.isFn X.K (.ref f) = true) (F : FnOk X.prog X.w X.K X.mg X.base CX0 k f fd ps sp) (hr : Room k X.A) (hb : Binds X.K fd ps [])
    (I : Inv X pins σ H s) (ha : H a = some (.ins C dx fs)) (q : sp [.ref a] H Q fun _ _ _ => False) : wpAny (model X.prog X.w) X.A (unaryOp .USub (.ref a)) (EP X pins σ Q) X.xe s := by
  obtain ⟨mA, J, _⟩ := ins_get I.hok ha
  obtain ⟨od, J, _⟩ := J.look
  obtain ⟨m, hF⟩ := I.fr
  exact PySem.W.ksp_neg hF I.ok.mod.kin J h1 h2 (run_own (vs := [V.ref a]) F hr rfl hb I (.cons rfl .nil) q)
end
end NeO
namespace NeO
open PySem PySem.W PySem.Spec PyProof.Rows
section
variable {M : Model} {prog : Program} {w : World} {A : Around} {E : Value → Shared → Prop} {s : Shared} {K : Frag}
/-- int's own method declines an instance -/
theorem int_declines {nm : String} {f : Int → Int → Sem Fin} {i : Int} {t : Tok} {b C dx : Addr} {Q : Fin → Shared → Prop} (hx : s.heap.get? b = some (instObj C dx)) (h : Q (.done (.ret .notImplemented)) s) :
    wpAny M A (Builtin.Int.intBinary nm f false ⟨[.int i t, .ref b], []⟩) Q E s := by
  unfold Builtin.Int.intBinary Builtin.Int.intOfSelf asInt?
  repeat (first | (with_reducible refine wpAny_load_at hx ?_) | wp_step)
  exact h
/-- what int has for the operator -/
structure IntSlot (nm : String) : Prop where
  ex : ∃ (id : String) (name : String) (f : Int → Int → Sem Fin), Slot "int" (dunder nm) id ∧ entryFor table id = some (Builtin.Int.intBinary name f false) ∧ ∀ a b : Value, argsOk id ⟨[a, b], []⟩
  fills : fillsNumberSlot (.type "int") nm = pure true
theorem int_add : IntSlot "add" := ⟨⟨_, _, _, PySem.F.slot_int_add, PySem.F.entry_int_add, fun a b => PySem.F.args_int_add_2 a b⟩, PySem.F.fills_int_add⟩
theorem int_sub : IntSlot "sub" := ⟨⟨_, _, _, PySem.F.slot_int_sub, PySem.F.entry_int_sub, fun a b => PySem.F.args_int_sub_2 a b⟩, PySem.F.fills_int_sub⟩
theorem int_mul : IntSlot "mul" := ⟨⟨_, _, _, PySem.F.slot_int_mul, PySem.F.entry_int_mul, fun a b => PySem.F.args_int_mul_2 a b⟩, PySem.F.fills_int_mul⟩
theorem rbin_K {op : Operator} {i : Int} {t : Tok} {b C dx f f' : Addr} {od : Option Obj} {Q : Value → Shared → Prop} (Z : IntSlot op.info.2) (X : K.In s.heap) (hx : s.heap.get? b = some (instObj C dx)) (I : InstAt s.heap b (instObj C dx) C od)
    (hc : selfFirst K C = true) (hs : findIn K (.ref C) (PySem.dunder op.info.2) = some (some (.ref f'))) (hr : findIn K (.ref C) (dunderR op.info.2) = some (some (.ref f))) (hf : isFn K (.ref f) = true) (hsub : subIn K (.ref C) (.type "int") = some false)
    (h : wpAny (model prog w) A (call (.ref f) [.ref b, .int i t]) (PySem.W.CmpBack Q) E s) : wpAny (model prog w) A (binaryOp op (.int i t) (.ref b)) Q E s := by
  obtain ⟨cd, rest, hcd, hm⟩ := ksp_first hc
  obtain ⟨⟨id, name, g, sl, en, ar⟩, fl⟩ := Z
  rcases hi : op.info with ⟨sym, nm'⟩
  rw [hi] at hs hr sl fl
  dsimp only at hs hr sl fl
  have one := ksp_try (M := model prog w) X I hr hf h
  have L2 : Looks (model prog w) s.heap (typeOf (.ref b)) (.ref C) := I.type
  have L3 : Looks (model prog w) s.heap (fillsNumberSlot (.ref C) nm') true := fills_K X hcd hm hs
  have L5 : Looks (model prog w) s.heap (isSubtype (.ref C) (.type "int")) false := looks_subIn X hsub
  have hne : (Value.type "int" == Value.ref C) = false := Bool.eq_false_iff.mpr fun q => by cases beq_iff_eq.mp q
  have hpy : numberSlotInPython (.type "int") nm' = pure false := rfl
  simp only [binaryOp, hi]
  refine wpAny_holding (wpAny_bind ?_)
  simp only [binaryOp1]
  refine wpAny_bind (wpAny_typeOf (typeIs_int s i t) (wpAny_bind (L2.at (wpAny_bind (wpAny_of_eq fl ?_)))))
  simp only [hne, Bool.false_eq_true, if_false]
  refine wpAny_bind (L3.at ?_)
  simp only [Bool.and_self, if_true]
  refine wpAny_bind (L5.at ?_)
  simp only [Bool.false_eq_true, if_false, pure_bind, Bool.not_false, Bool.and_self, if_true, hpy]
  refine wpAny_bind (wpAny_tryMethod_declines (typeIs_int s i t) sl (wpAny_call_entry sl (typeIs_int s i t) en (int_declines hx ⟨_, rfl, rfl, ?_⟩) (ar _ _)))
  simp only []
  refine wpAny_bind (wpAny_mono one (fun r s' hr' => ?_) fun _ _ e => e)
  obtain ⟨v, rfl, hq⟩ := hr'
  repeat (first | exact hq | wp_step)
end
end NeO
namespace NeO
open PySem PySem.Spec PyProof.Rows L2
section
variable {X : Cx} {k : Nat} {C f : Addr} {fd : FuncData} {ps : List Str} {sp : Sp} {pins : List (Addr × Obj)} {σ : L2.St} {H : Hp} {s : Shared}
/-- i + b (- *), i an int, b of a class with its own __radd__ (..) -/
def rBinR (C : Addr) (sp : Sp) : R2 := fun x y H Q => ∃ (b dx : Addr) (fs : List (Str × V)) (i : Int), x = .int i ∧ y = .ref b ∧ H b = some (.ins C dx fs) ∧
  sp [.ref b, .int i] H (fun v H' => ∃ p : Addr, v = .ref p ∧ Q (.ref p) H') fun _ _ _ => False
structure BinR (K : PySem.W.Frag) (C f : Addr) (nm : String) : Prop where
  first : PySem.W.selfFirst K C = true
  own : ∃ g : Addr, PySem.W.findIn K (.ref C) (PySem.dunder nm) = some (some (.ref g))
  back : PySem.W.findIn K (.ref C) (dunderR nm) = some (some (.ref f))
  fn : PySem.W.isFn K (.ref f) = true
  sub : PySem.W.subIn K (.ref C) (.type "int") = some false
theorem op_binR {op : Operator} (N : IntSlot op.info.2) (Z : BinR X.K C f op.info.2) (F : FnOk X.prog X.w X.K X.mg X.base CX0 k f fd ps sp) (hr : Room k X.A) (hb : Binds X.K fd ps []) : OpR X (binaryOp op) (rBinR C sp) := by
  intro pins s σ H x y v u Q I rx ry hq
  obtain ⟨b, dx, fs, i, rfl, rfl, hb', q⟩ := hq
  cases ry
  obtain ⟨ti, rfl⟩ := rx
  obtain ⟨mB, J, _⟩ := ins_get I.hok hb'
  obtain ⟨od, J, _⟩ := J.look
  obtain ⟨_, _, _, hx, _⟩ := (show ObjOk X.prog X.w H s.heap b (.ins C dx fs) from I.hok b _ hb')
  obtain ⟨g, hg⟩ := Z.own
  refine rbin_K N I.kIn hx J Z.first hg Z.back Z.fn Z.sub ?_
  refine wpAny_mono (run_own (vs := [V.ref b, V.int i]) F hr rfl hb I (.cons rfl (.cons ⟨ti, rfl⟩ .nil)) q) (fun v s' hv => ?_) fun _ _ e => e
  obtain ⟨z, H', I', rz, p, ez, qz⟩ := hv
  subst ez
  cases rz
  exact ⟨.ref p, H', I', rfl, qz⟩
end
end NeO
namespace NeO
open PySem PySem.Spec PyProof.Rows L2
section
variable {X : Cx} {CXV : CXT} {k i : Nat} {f C : Addr} {fd : FuncData} {ps : List Str} {sp : Sp} {ds : List Value} {dvs : List V} {E : XK} {x : Str} {p pos : Pos} {e : Expr} {es : List Expr} {t : L2.TA}
/-- c(..), the local c (slot i) holding the class at C -/
def tMakeL (i : Nat) (C : Addr) (sp : Sp) (dvs : List V) (E : XK) (t : L2.TA) : TE := fun σ H Q => σ[i]? = some (some (.ref C)) ∧ t σ H fun vs H1 => ∀ x dx, H1 x = none → H1 dx = none → dx ≠ x →
  sp (.ref x :: (vs ++ dvs)) (upd (upd H1 dx (.own x)) x (.ins C dx [])) (fun v H2 => v = .non ∧ Q (.ref x) H2) E
theorem pe_makeL (M : Mk X.K C f) (F : FnOk X.prog X.w X.K X.mg X.base CXV k f fd ps sp) (hr : Room (k + 1) X.A) (hN : X.N[i]? = some x) (hv : Vis X.env.scope x) (hb : Binds X.K fd ps ds) (hd : Vals dvs ds) (hx : Passes CXV X E) (ha : PA X (e :: es) t)
    (hdb : (x == ("__debug__" : Str)) = false := by decide) (hcd : (x == ("__classdict__" : Str)) = false := by decide)
    (he : starEach (e :: es) X.env = (false, eval e X.env) :: starEach es X.env := by rfl) (hpl : (backTo pos (starEach es X.env)).any (·.1) = false := by rfl) : PE X (.Call (.Name x p) (e :: es) [] pos) (tMakeL i C sp dvs E t) := by
  refine ⟨fun pins s σ H Q I h => ?_⟩
  obtain ⟨hs, ht⟩ := h
  refine wpAny_Call_Name_kw (thn ((pe_var (pos := p) hN hv hdb hcd).run pins s σ H (fun v H1 => v = .ref C ∧ H1 = H) I ⟨.ref C, hs, rfl, rfl⟩) fun u s1 ⟨v, H1, I1, r1, q1⟩ => ?_)
  obtain ⟨rfl, rfl⟩ := q1
  cases r1
  refine PySem.W.callWith_K (h₀ := X.base) I.ok.mod.kin M.kp (thn (ha.run pos pins s1 σ _ _ I1 ht) fun us s2 ⟨vs, H2, I2, r, q⟩ => ⟨I2.kIn, ?_⟩) he hpl
  exact run_make M F hr hb hd hx I2 r q
end
end NeO
/-! ## further rules for a class with own operators -/
namespace NeO
open PySem PySem.Spec PyProof.Rows L2
section
variable {X : Cx} {k : Nat} {C f : Addr} {fd : FuncData} {ps : List Str} {sp : Sp} {pins : List (Addr × Obj)} {σ : L2.St} {H : Hp} {s : Shared}
/-- -e by an own __neg__ -/
def tNegI (C : Addr) (sp : Sp) (te : TE) : TE := fun σ H Q => te σ H fun x H1 => ∃ (a dx : Addr) (fs : List (Str × V)), x = .ref a ∧ H1 a = some (.ins C dx fs) ∧ sp [.ref a] H1 Q fun _ _ _ => False
theorem un_negI (h1 : PySem.W.findIn X.K (.ref C) "__neg__" = some (some (.ref f))) (h2 : PySem.W.isFn X.K (.ref f) = true) (F : FnOk X.prog X.w X.K X.mg X.base CX0 k f fd ps sp) (hr : Room k X.A) (hb : Binds X.K fd ps []) : UnR X (unaryOp .USub) (fun x H Q => ∃ (a dx : Addr) (fs : List (Str × V)), x = .ref a ∧ H a = some (.ins C dx fs) ∧ sp [.ref a] H Q fun _ _ _ => False) := by
  intro pins s σ H x v Q I rx hq
  obtain ⟨a, dx, fs, rfl, ha, q⟩ := hq
  cases rx
  exact neg_own h1 h2 F hr hb I ha q
/-- str(a) by an own __str__ -/
theorem call_strI (h1 : PySem.W.findIn X.K (.ref C) "__str__" = some (some (.ref f))) (h2 : PySem.W.isFn X.K (.ref f) = true) (F : FnOk X.prog X.w X.K X.mg X.base CX0 k f fd ps sp) (hr : Room (k + 2) X.A) (hb : Binds X.K fd ps []) : CallR X (.type "str") (rReprI C sp) := by
  intro pins s σ H xs us Q I r hq
  obtain ⟨a, dx, fs, rfl, ha, q⟩ := hq
  obtain rfl : us = [Value.ref a] := Vals.ref1 r
  obtain ⟨mA, J, _⟩ := ins_get I.hok ha
  obtain ⟨od, J, _⟩ := J.look
  have hr2 : Room k X.A.in1.in1 := hr.in1.in1
  refine PySem.W.kso_call hr2.units0 I.kIn J h1 h2 ?_
  refine wpAny_mono (run_own (A := X.A.in1.in1) (vs := [V.ref a]) F hr2 rfl hb I (.cons rfl .nil) q) (fun v s' hv => ?_) fun _ _ e => e
  obtain ⟨z, H', I', rz, t, ez, qz⟩ := hv
  subst ez
  obtain ⟨tk, rfl⟩ := rz
  exact ⟨.str t, H', I', ⟨tk, rfl⟩, qz⟩
end
end NeO

namespace NeO
open PySem PySem.W PySem.Spec PyProof.Rows
section
variable {M : Model} {prog : Program} {w : World} {A : Around} {E : Value → Shared → Prop} {s : Shared} {K : Frag}
/-- int's own == declines an instance -/
theorem eq_declines {i : Int} {t : Tok} {b C dx : Addr} {Q : Fin → Shared → Prop} (hx : s.heap.get? b = some (instObj C dx)) (h : Q (.done (.ret .notImplemented)) s) :
    wpAny M A (Builtin.«int.__eq__» ⟨[.int i t, .ref b], []⟩) Q E s := by
  refine int_declines (nm := "__eq__") (f := _) hx h
/-- i == b, i an int, b of a class with its own == -/
theorem eqR_K {i : Int} {t : Tok} {b C dx f : Addr} {od : Option Obj} {Q : Value → Shared → Prop} (hu : A.units < cLine) (X : K.In s.heap) (hx : s.heap.get? b = some (instObj C dx)) (I : InstAt s.heap b (instObj C dx) C od)
    (hs : findIn K (.ref C) "__eq__" = some (some (.ref f))) (hf : isFn K (.ref f) = true) (hsub : subIn K (.ref C) (.type "int") = some false)
    (h : wpAny (model prog w) A (call (.ref f) [.ref b, .int i t]) (PySem.W.CmpBack Q) E s) : wpAny (model prog w) A (richCompare .Eq (.int i t) (.ref b)) Q E s := by
  have one : wpAny (model prog w) A (tryCompare (.ref b) "__eq__" (.int i t)) (fun r s' => ∃ v, r = some v ∧ Q v s') E s := by
    unfold tryCompare
    refine wpAny_bind (ifBound_K X I hs hf (wpAny_mono h (fun v s' hv => ?_) fun _ _ e => e))
    cases v <;> first | exact hv.elim | exact wpAny_pure ⟨_, rfl, hv⟩
  have hne : (Value.type "int" != Value.ref C) = true := by
    cases q : (Value.type "int" != Value.ref C) with
    | true => rfl
    | false =>
      have := bne_eq_false_iff_eq.mp q
      cases this
  have L5 : Looks (model prog w) s.heap (isSubtype (.ref C) (.type "int")) false := looks_subIn X hsub
  unfold richCompare
  have e1 : oneThing? .Eq (.int i t) (.ref b) = none := rfl
  simp only [e1]
  refine wpAny_holding (wpAny_bind (wpAny_cRoomFor hu ?_))
  refine wpAny_bind (wpAny_typeOf (typeIs_int s i t) (wpAny_bind (I.type.here ?_)))
  simp only [hne, if_true]
  refine wpAny_bind (L5.here ?_)
  simp only [Bool.false_eq_true, if_false]
  refine wpAny_bind (wpAny_tryCompare_declines (typeIs_int s i t) PySem.F.slot_int_eq (wpAny_call_entry PySem.F.slot_int_eq (typeIs_int s i t) PySem.F.entry_int_eq (eq_declines hx ⟨_, rfl, rfl, ?_⟩) (PySem.F.args_int_eq_2 _ _)))
  simp only [Bool.not_false, if_true]
  refine wpAny_bind (wpAny_mono one (fun r s' z => ?_) fun _ _ e => e)
  obtain ⟨v, rfl, hq⟩ := z
  exact wpAny_pure hq
end
end NeO
namespace NeO
open PySem PySem.Spec PyProof.Rows L2
section
variable {X : Cx} {k : Nat} {C f : Addr} {fd : FuncData} {ps ks : List Str} {sp : Sp} {pins : List (Addr × Obj)} {σ : L2.St} {H : Hp} {s : Shared}
/-- i == b -/
def rEqR (C : Addr) (sp : Sp) : R2 := fun x y H Q => ∃ (b dx : Addr) (fs : List (Str × V)) (i : Int), x = .int i ∧ y = .ref b ∧ H b = some (.ins C dx fs) ∧ sp [.ref b, .int i] H (fun v H' => ∃ c : Bool, v = .bl c ∧ Q (.bl c) H') fun _ _ _ => False
theorem op_eqR (h1 : PySem.W.findIn X.K (.ref C) "__eq__" = some (some (.ref f))) (h2 : PySem.W.isFn X.K (.ref f) = true) (h3 : PySem.W.subIn X.K (.ref C) (.type "int") = some false) (F : FnOk X.prog X.w X.K X.mg X.base CX0 k f fd ps sp) (hr : Room k X.A) (hb : Binds X.K fd ps []) : OpR X (compareOp .Eq) (rEqR C sp) := by
  intro pins s σ H x y v u Q I rx ry hq
  obtain ⟨b, dx, fs, i, rfl, rfl, hb', q⟩ := hq
  cases ry
  obtain ⟨ti, rfl⟩ := rx
  obtain ⟨mB, J, _⟩ := ins_get I.hok hb'
  obtain ⟨od, J, _⟩ := J.look
  obtain ⟨_, _, _, hx, _⟩ := (show ObjOk X.prog X.w H s.heap b (.ins C dx fs) from I.hok b _ hb')
  show wpAny (model X.prog X.w) X.A (richCompare .Eq (.int i ti) (.ref b)) (EP X pins σ Q) X.xe s
  refine eqR_K hr.units0 I.kIn hx J h1 h2 h3 ?_
  refine wpAny_mono (run_own (vs := [V.ref b, V.int i]) F hr rfl hb I (.cons rfl (.cons ⟨ti, rfl⟩ .nil)) q) (fun v s' hv => ?_) fun _ _ e => e
  obtain ⟨z, H', I', rz, c, ez, qz⟩ := hv
  subst ez
  cases rz
  exact ⟨.bl c, H', I', rfl, qz⟩
/-- o.m(k = v, ..), the keywords in the parameters' order behind the first one -/
def tMethK (C : Addr) (m : Str) (n : Nat) (sp : Sp) (ta : TE) (t : L2.TA) : TE := fun σ H Q => ta σ H fun x H1 => ∃ a dx fs, x = .ref a ∧ H1 a = some (.ins C dx fs) ∧ fs.lookup m = none ∧ t σ H1 fun zs H2 => zs.length = n ∧ sp (x :: zs) H2 Q E0
theorem pe_methK {o : Expr} {m : Str} {ta : TE} {t : L2.TA} {apos pos : Pos} {kws : List Keyword} {pl : Sem Bool} (he : PE X o ta) (c : Cls X.K C) (hm : Meth X.K C m f) (F : FnOk X.prog X.w X.K X.mg X.base CX0 k f fd ps sp) (hr : Room k X.A)
    (hb : ∀ (s : Shared) (u : Value) (ws : List Value), ws.length = ks.length → BindsTo s fd ⟨[u], ks.zip ws⟩ (ps.zip (u :: ws)))
    (hkw : PK X kws t) (hall : (backToKw pos (keywordEach kws X.env)).all (·.1.isSome) = true := by rfl) (hks : (backToKw pos (keywordEach kws X.env)).filterMap (·.1) = ks := by rfl)
    (hpl : ((backTo pos (starEach [] X.env)).any (·.1) || (backToKw pos (keywordEach kws X.env)).any (·.1.isNone)) = false := by rfl)
    (ht : eval (.Call (.Attribute o m apos) [] kws pos) X.env = (do
      let ov ← eval o X.env
      standAt apos.atName
      let (f, first) ← holding [ov] (getMethod ov m pl)
      callWith pos f first (backTo pos (starEach [] X.env)) (backToKw pos (keywordEach kws X.env))) := by rfl) :
    PE X (.Call (.Attribute o m apos) [] kws pos) (tMethK C m ks.length sp ta t) := by
  refine ⟨fun pins s σ H Q I h => ?_⟩
  refine PySem.W.methodCall_KW (pl := pl) (thn (he.run pins s σ H _ I h) fun u s1 ⟨x, H1, I1, rx, a, dx, fs, ex, ea, l, q⟩ => ?_) ht
  subst ex
  obtain rfl : u = Value.ref a := rx
  refine getmeth_ok I1 ea c hm l ?_
  refine PySem.W.callWith_KW0 (first := [.ref a]) (h₀ := X.base) I1.ok.mod.kin hm.kp hall (thn (hkw.run pos pins s1 σ H1 _ I1 q) fun ws s2 ⟨zs, H2, I2, rz, lz, q2⟩ => ⟨I2.kIn, ?_⟩) hpl
  rw [hks]
  have lw : ws.length = ks.length := by rw [← rz.length]; exact lz
  apply wpAny_call
  refine codeAny_mono (F.run X.A X.stack s2 H2 ⟨[.ref a], ks.zip ws⟩ (.ref a :: ws) (.ref a :: zs) Q E0 hr I2.env0 (hb s2 (.ref a) ws lw) (.cons rfl rz) q2) ?_
  intro r s' hq
  cases r with
  | error er => exact hq.elim
  | ok fl =>
    cases fl with
    | ret u => exact I2.after hq
    | next => exact hq.elim
    | brk => exact hq.elim
    | cont => exact hq.elim
end
end NeO

namespace Tk
open PySem PySem.Spec PyProof.Rows L2
abbrev sRInit : Stmt := inClass (top 18) 0
abbrev sRTop : Stmt := inClass (top 18) 1
abbrev sRBot : Stmt := inClass (top 18) 2
abbrev sRSign : Stmt := inClass (top 18) 3
abbrev sRWhole : Stmt := inClass (top 18) 4
abbrev sRAdd : Stmt := inClass (top 18) 5
abbrev sRRadd : Stmt := inClass (top 18) 6
abbrev sRSub : Stmt := inClass (top 18) 7
abbrev sRRsub : Stmt := inClass (top 18) 8
abbrev sRMul : Stmt := inClass (top 18) 9
abbrev sRRmul : Stmt := inClass (top 18) 10
abbrev sRNeg : Stmt := inClass (top 18) 11
abbrev sROver : Stmt := inClass (top 18) 12
abbrev sRSize : Stmt := inClass (top 18) 13
abbrev sRBelow : Stmt := inClass (top 18) 14
abbrev sRMost : Stmt := inClass (top 18) 15
abbrev sREq : Stmt := inClass (top 18) 16
abbrev sRTotal : Stmt := inClass (top 18) 17
abbrev sRStr : Stmt := inClass (top 18) 18
abbrev sRRepr : Stmt := inClass (top 18) 19
abbrev sAsRat : Stmt := top 16
abbrev sIsNum : Stmt := top 15
/-! ## Ratio -/
theorem k_bt : ¬ (("_bottom" : Str) = "_top") := by decide +kernel
theorem k_tb : ¬ (("_top" : Str) = "_bottom") := by decide +kernel
def rf (t b : Int) : List (Str × V) := putF "_bottom" (.int b) (putF "_top" (.int t) [])
theorem rf_top (t b : Int) : (rf t b).lookup ("_top" : Str) = some (.int t) := by
  unfold rf
  rw [lookup_putF, if_neg k_tb, lookup_putF, if_pos rfl]
theorem rf_bot (t b : Int) : (rf t b).lookup ("_bottom" : Str) = some (.int b) := by
  unfold rf
  rw [lookup_putF, if_pos rfl]
theorem rf_no (t b : Int) {m : Str} (h1 : ¬ m = "_top") (h2 : ¬ m = "_bottom") : (rf t b).lookup m = none := by
  unfold rf
  rw [lookup_putF, if_neg h2, lookup_putF, if_neg h1]
  rfl
theorem putF_lenR (f : Str) (v : V) : ∀ fs : List (Str × V), (putF f v fs).length ≤ fs.length + 1
  | [] => by simp [putF]
  | (g, x) :: r => by
    unfold putF
    split
    · simp
    · have := putF_lenR f v r
      simp; omega
/-- facts of the class -/
structure RtC (K : PySem.W.Frag) (mg : Str → Option Value) (C : Addr) : Prop where
  cl : Cls K C
  nT : NoAttr K C "_top"
  nB : NoAttr K C "_bottom"
  mgC : mg "Ratio" = some (.ref C)
  gcd : mg "gcd" = some (.builtin "math.gcd")
/-- // by any divisor but 0 -/
def CDivWN (_ j : Int) : Prop := j ≠ 0 ∧ j.natAbs.log2 < 9000
theorem op_fdivWN {X : Cx} : OpR X (binaryOp .FloorDiv) (rI CDivWN fun i j => .int (i.fdiv j)) := opI fun i j _ _ _ _ _ hc q => floordiv_int hc.1 q (.inl (PyProof.noPylong_of_log2 hc.2))
/-- the divisor that brings them to lowest terms, the bottom above 0 -/
def comQ (t b : Int) : Int := if 0 < b then ((Nat.gcd t.natAbs b.natAbs : Nat) : Int) else -((Nat.gcd t.natAbs b.natAbs : Nat) : Int)
def lowQ (t b : Int) : Int × Int := (t.fdiv (comQ t b), b.fdiv (comQ t b))
theorem com_ne {t b : Int} (h : b ≠ 0) : comQ t b ≠ 0 := by
  have g0 : 0 < Nat.gcd t.natAbs b.natAbs := Nat.gcd_pos_of_pos_right _ (by omega)
  unfold comQ
  split <;> omega
theorem com_abs (t b : Int) : (comQ t b).natAbs = Nat.gcd t.natAbs b.natAbs := by
  unfold comQ
  split <;> simp
def RatAt (C : Addr) (H : Hp) (p : Addr) (q : Int × Int) : Prop := ∃ dx, H p = some (.ins C dx (rf q.1 q.2))
theorem rat_s {C : Addr} {H H' : Hp} {p : Addr} {q : Int × Int} (h : RatAt C H p q) (e : Same H H') : RatAt C H' p q := let ⟨dx, h⟩ := h; ⟨dx, e _ _ h⟩
def spRInit (C : Addr) : Sp := fun vs H Q _ => ∃ (p dx : Addr) (t b : Int), vs = [.ref p, .int t, .int b] ∧ H p = some (.ins C dx []) ∧ b ≠ 0 ∧ b.natAbs.log2 < 9000 ∧
  ∀ H', (∀ c o, c ≠ p → H c = some o → H' c = some o) → RatAt C H' p (lowQ t b) → Q .non H'
theorem log2_monoR {a b : Nat} (h : a ≤ b) (hb : b.log2 < 9000) : a.log2 < 9000 := by
  by_cases h0 : a = 0
  · subst h0; simp
  · have h1 : b < 2 ^ 9000 := (Nat.log2_lt (by omega)).mp hb
    exact (Nat.log2_lt h0).mpr (Nat.lt_of_le_of_lt h h1)
section
variable {P : Program} {w : World} {K : PySem.W.Frag} {mg : Str → Option Value} {base : Heap}
abbrev nRI : List Str := ["self", "top", "bottom", "value", "common"]
theorem sc_rinit : FnScope nRI ["self", "top", "bottom"] (defScope sRInit) := ⟨rfl, rfl, rfl, by decide +kernel, rfl, by decide +kernel, by decide +kernel⟩
theorem okD {x qual : Str} {st : Stmt} {dvs : List V} {kws : List (Str × V)} {f : Addr} {fd : FuncData} {N ps : List Str} {k : Nat} {sp : Sp} (F : FunD K x qual (defArgs st) (defBody st) (defScope st) dvs kws f fd) (S : FnScope N ps (defScope st)) (len : ∀ vs H Q E, sp vs H Q E → vs.length = ps.length)
    (hbody : ∀ (cdv : Value) (A : Around) (outer : List Env) (s : Shared) (H : Hp) (vs : List V) (Q : VK) (E : XK), Room k (A.deeper (envOfC qual (defScope st) s.heap.objs.size f cdv)) → sp vs H Q E →
      ∃ t, PSs (cxOf CX0 P w K mg base N qual (defScope st) f cdv A outer s H E).nox (defBody st) t ∧ t { nx := fun _ H' => Q .non H', rt := Q } (start N vs) H) : FnOk P w K mg base CX0 (k + 1) f fd ps sp :=
  F.ok S len fun cdv A outer s H vs Q E hr h => let ⟨t, h1, h2⟩ := hbody cdv A outer s H vs Q E hr h; ⟨t, h1.nox, h2⟩
/-- how __init__ is bound -/
theorem rinit_b {f : Addr} {fd : FuncData} (F : FunD K "__init__" "Ratio.__init__" (defArgs sRInit) (defBody sRInit) (defScope sRInit) [.int 1] [] f fd) : Binds K fd ["self", "top", "bottom"] [] := by
  obtain ⟨ds, v, b⟩ := F.binds1 (ps := ["self", "top", "bottom"]) 3 1 (by simp) (by simp) (fun T kV doc pm an cdv ct us its l1 l2 => match us, its, l1, l2 with | [_, _, _], [_], _, _ => ⟨_, rfl, rfl⟩)
  cases v
  exact b
theorem rinit_b1 {f : Addr} {fd : FuncData} (F : FunD K "__init__" "Ratio.__init__" (defArgs sRInit) (defBody sRInit) (defScope sRInit) [.int 1] [] f fd) : ∃ tk : Tok, Binds K fd ["self", "top", "bottom"] [.int 1 tk] := by
  obtain ⟨ds, v, b⟩ := F.binds1 (ps := ["self", "top", "bottom"]) 2 0 (by simp) (by simp) (fun T kV doc pm an cdv ct us its l1 l2 => match us, its, l1, l2 with | [_, _], [_], _, _ => ⟨_, rfl, rfl⟩)
  obtain ⟨u, rfl, ru⟩ := v.one
  obtain ⟨tk, rfl⟩ := ru
  exact ⟨tk, b⟩
theorem rinit_k {f : Addr} {fd : FuncData} (F : FunD K "__init__" "Ratio.__init__" (defArgs sRInit) (defBody sRInit) (defScope sRInit) [.int 1] [] f fd) : KBn K fd ["self", "top", "bottom"] 1 ["top", "bottom"] (fun us ws => us ++ ws) (fun vs zs => vs ++ zs) := by
  obtain ⟨oc, od, dV, kV, doc, pm, an, cdv, ct, osl, rfl, lk, hcd, hD, _⟩ := F.ex
  rcases hD with ⟨e, _⟩ | ⟨_, T, o, its, m, rfl, lT, oT, rT⟩
  · cases e
  · refine ⟨fun s us ws X l1 l2 => BindsTo.of_looks fun M => ?_, fun r1 r2 => r1.append r2⟩
    obtain ⟨u, rfl, _⟩ := rT.one
    match us, ws, l1, l2 with
    | [_], [_, _], _, _ => exact looks_items X lT oT (.of_pure rfl)
theorem ok_rinit {f f1 C : Addr} {fd fd1 : FuncData} (F : FunD K "__init__" "Ratio.__init__" (defArgs sRInit) (defBody sRInit) (defScope sRInit) [.int 1] [] f fd) (T : RtC K mg C) (D1 : Df K mg "is_integer" sIsInt ["value"] f1 fd1) (B : Bl mg) : FnOk P w K mg base CX0 2 f fd ["self", "top", "bottom"] (spRInit C) := by
  have G1 : FnOk P w K mg base CX0 1 f1 fd1 ["value"] (spIsInt K) := ok_isInt D1.F B
  refine okD F sc_rinit (fun vs H Q E h => ?_) (fun cdv A outer s H vs Q E hr h => ?_)
  · obtain ⟨p, dx, t, b, rfl, _⟩ := h
    rfl
  · obtain ⟨p, dx, t, b, rfl, hp, b0, bl, q⟩ := h
    refine ⟨_, pss_cons (ps_for PassesOwn.never rfl (pi_tup (pe_tup (pa_cons (pv 1) (pa_cons (pv 2) pa_nil)))) (pg_name (i := 3) sc_rinit.nd rfl (Or.inl rfl))
        (pss_one (ps_if (pt_not (pt_val (pe_call G1 hr rfl D1.g D1.F.kp D1.b .nil pass0 (pa_cons (pv 3) pa_nil)))) pss_never pss_nil)))
      (pss_cons (ps_if (pt_cmpR op_eq (pv 2) pe_int (nomark _)) pss_never pss_nil)
      (pss_cons (ps_set (i := 4) sc_rinit.nd rfl (Or.inl rfl) (pe_ifExp (pt_cmpR op_gt (pv 2) pe_int (nomark _)) (pe_callBfun cr_gcd (by rfl) T.gcd (pa_cons (pv 1) (pa_cons (pv 2) pa_nil))) (pe_un un_neg (pe_callBfun cr_gcd (by rfl) T.gcd (pa_cons (pv 1) (pa_cons (pv 2) pa_nil))))))
      (pss_cons (ps_fld (pv 0) (pe_op op_fdivWN (pv 1) (pv 4)) rfl)
      (pss_one (ps_fld (pv 0) (pe_op op_fdivWN (pv 2) (pv 4)) rfl))))), ?_⟩
    refine ⟨_, rfl, _, rfl, szle (by show 2 ≤ 100000; decide), fun u hu => ?_⟩
    have s1 : Same H (upd H u (.tup [V.int t, V.int b])) := same_new hu
    have hu1 : (upd H u (.tup [V.int t, V.int b])) u = some (.tup [V.int t, V.int b]) := upd_same
    generalize upd H u (.tup [V.int t, V.int b]) = H1 at s1 hu1
    refine ⟨u, rfl, ⟨_, st_of hu1⟩, for_tup (K := K) (a := u) (xs := [V.int t, V.int b]) (fun i σ G => ∃ v3 : Option V, σ = [some (V.ref p), some (V.int t), some (V.int b), v3, none] ∧ G = H1) ⟨none, rfl, rfl⟩ (fun i σ G _ z => by obtain ⟨_, _, z⟩ := z; rw [z]; exact st_of hu1) ?_ ?_⟩
    · rintro i x σ G hx ⟨v3, rfl, rfl⟩
      obtain ⟨m, rfl⟩ : ∃ m, x = V.int m := by
        match i, hx with
        | 0, hx => exact ⟨t, (Option.some.inj hx).symm⟩
        | 1, hx => exact ⟨b, (Option.some.inj hx).symm⟩
      exact ⟨_, rfl, V.int m, some m, rfl, .int m, true, rfl, iteF ⟨_, rfl, rfl⟩⟩
    · rintro σ G ⟨v3, rfl, rfl⟩
      have hp1 := s1 _ _ hp
      have gl : (comQ t b).natAbs.log2 < 9000 := by
        rw [com_abs]
        exact log2_monoR (Nat.le_of_dvd (by omega) (Nat.gcd_dvd_right _ _)) bl
      have cd : ∀ x : Int, CDivWN x (comQ t b) := fun x => ⟨com_ne b0, gl⟩
      refine ⟨_, rfl, rfl, _, rfl, ?_⟩
      rw [show decide (V.int b = V.int 0) = false from decide_eq_false (fun e => by have := V.int.inj e; omega)]
      refine iteF ?_
      refine ⟨_, rfl, _, _, rfl, rfl, _, rfl, ?_⟩
      refine ite2 (fun c => ?_) (fun c => ?_)
      · have ec : ((Nat.gcd t.natAbs b.natAbs : Nat) : Int) = comQ t b := by unfold comQ; rw [if_pos (of_decide_eq_true c)]
        refine ⟨_, rfl, _, rfl, t, b, rfl, ?_⟩
        rw [ec]
        refine ⟨_, rfl, _, rfl, _, _, rfl, rfl, cd t, _, rfl, p, C, dx, [], rfl, hp1, T.cl, T.nT, (by show 0 < 1000; decide), ?_⟩
        refine ⟨_, rfl, _, rfl, _, _, rfl, rfl, cd b, _, rfl, p, C, dx, putF "_top" (.int (t.fdiv (comQ t b))) [], rfl, upd_same, T.cl, T.nB, (by have := putF_lenR "_top" (.int (t.fdiv (comQ t b))) []; simp at this; omega), ?_⟩
        refine q _ (fun c o hc e => ?_) ⟨dx, upd_same⟩
        rw [upd_ne hc, upd_ne hc]
        exact s1 _ _ e
      · have ec : -((Nat.gcd t.natAbs b.natAbs : Nat) : Int) = comQ t b := by unfold comQ; rw [if_neg (fun z => c (decide_eq_true z))]
        refine ⟨_, rfl, _, rfl, t, b, rfl, _, rfl, ?_⟩
        dsimp only
        rw [ec]
        refine ⟨_, rfl, _, rfl, _, _, rfl, rfl, cd t, _, rfl, p, C, dx, [], rfl, hp1, T.cl, T.nT, (by show 0 < 1000; decide), ?_⟩
        refine ⟨_, rfl, _, rfl, _, _, rfl, rfl, cd b, _, rfl, p, C, dx, putF "_top" (.int (t.fdiv (comQ t b))) [], rfl, upd_same, T.cl, T.nB, (by have := putF_lenR "_top" (.int (t.fdiv (comQ t b))) []; simp at this; omega), ?_⟩
        refine q _ (fun c o hc e => ?_) ⟨dx, upd_same⟩
        rw [upd_ne hc, upd_ne hc]
        exact s1 _ _ e
end
end Tk

namespace Tk
open PySem PySem.Spec PyProof.Rows L2
theorem callR_or {X : Cx} {f : Value} {r1 r2 : List V → Hp → VK → Prop} (h1 : CallR X f r1) (h2 : CallR X f r2) : CallR X f (fun xs H Q => r1 xs H Q ∨ r2 xs H Q) := by
  intro pins s σ H xs us Q I r h
  rcases h with h | h
  · exact h1 pins s σ H xs us Q I r h
  · exact h2 pins s σ H xs us Q I r h
theorem opR_or {X : Cx} {f : Value → Value → Sem Value} {r1 r2 : R2} (h1 : OpR X f r1) (h2 : OpR X f r2) : OpR X f (fun x y H Q => r1 x y H Q ∨ r2 x y H Q) := by
  intro pins s σ H x y v u Q I rx ry h
  rcases h with h | h
  · exact h1 pins s σ H x y v u Q I rx ry h
  · exact h2 pins s σ H x y v u Q I rx ry h
/-- a NUMBER that is worth q -/
def NumAt (C : Addr) (H : Hp) (v : V) (q : Int × Int) : Prop := (∃ p, v = .ref p ∧ RatAt C H p q) ∨ ∃ i : Int, v = .int i ∧ q = (i, 1)
theorem num_s {C : Addr} {H H' : Hp} {v : V} {q : Int × Int} (h : NumAt C H v q) (e : Same H H') : NumAt C H' v q := by
  rcases h with ⟨p, rfl, h⟩ | h
  · exact .inl ⟨p, rfl, rat_s h e⟩
  · exact .inr h
def spAsR (C : Addr) : Sp := fun vs H Q _ => ∃ (v : V) (q : Int × Int), vs = [v] ∧ NumAt C H v q ∧ ∀ H' p, Same H H' → RatAt C H' p q → Q (.ref p) H'
theorem com_one (i : Int) : comQ i 1 = 1 := by
  unfold comQ
  rw [if_pos (by decide)]
  simp
theorem low_one (i : Int) : lowQ i 1 = (i, 1) := by
  unfold lowQ
  rw [com_one]
  simp
/-- what is asked of the class, further -/
structure RtM (K : PySem.W.Frag) (mg : Str → Option Value) (C fI : Addr) (dI : FuncData) : Prop where
  c : RtC K mg C
  ins : C8.InsC K C
  kI : PySem.W.kitOne K (.type "int") (.ref C) = some false
  kR : PySem.W.kitOne K (.ref C) (.type "int") = some false
  mkr : Mk K C fI
  FI : FunD K "__init__" "Ratio.__init__" (defArgs sRInit) (defBody sRInit) (defScope sRInit) [.int 1] [] fI dI
  bI : Binds K dI ["self", "top", "bottom"] []
  bI1 : ∃ tk : Tok, Binds K dI ["self", "top", "bottom"] [.int 1 tk]
/-- is_integer, .. of a Ratio -/
def spNoInt (C : Addr) : Sp := fun vs H Q _ => ∃ (p : Addr) (q : Int × Int), vs = [.ref p] ∧ RatAt C H p q ∧ Q (.bl false) H
def spIsNumR (C : Addr) : Sp := fun vs H Q _ => ∃ (p : Addr) (q : Int × Int), vs = [.ref p] ∧ RatAt C H p q ∧ Q (.bl true) H
/-- is_number of a value that is no Ratio -/
def spIsNumV (K : PySem.W.Frag) (C : Addr) : Sp := fun vs H Q _ => ∃ (v : V) (o : Option Int) (t : Value), vs = [v] ∧ IntV K H v o ∧ TyX K H v t ∧ PySem.W.kitOne K t (.ref C) = some false ∧ Q (.bl o.isSome) H
section
variable {P : Program} {w : World} {K : PySem.W.Frag} {mg : Str → Option Value} {base : Heap}
theorem sc_asr : FnScope ["number"] ["number"] (defScope sAsRat) := ⟨rfl, rfl, rfl, by decide +kernel, rfl, by decide +kernel, by decide +kernel⟩
theorem ok_asr {f f1 fI C : Addr} {fd fd1 dI : FuncData} (F : Fun K "as_ratio" "as_ratio" sAsRat f fd) (M : RtM K mg C fI dI) (D1 : Df K mg "is_integer" sIsInt ["value"] f1 fd1) (B : Bl mg) : FnOk P w K mg base CX0 4 f fd ["number"] (spAsR C) := by
  have GI : FnOk P w K mg base CX0 2 fI dI ["self", "top", "bottom"] (spRInit C) := ok_rinit M.FI M.c D1 B
  obtain ⟨tk, b1⟩ := M.bI1
  refine F.ok sc_asr (fun vs H Q E h => ?_) (fun cdv A outer s H vs Q E hr h => ?_)
  · obtain ⟨v, q, rfl, _⟩ := h
    rfl
  · obtain ⟨v, z, rfl, hn, q⟩ := h
    refine ⟨_, pss_cons (ps_if (pt_val (pe_callB (callR_or (C8.call_isC M.ins) call_isi) (by rfl) B.isi PyProof.Rows.boot_isinstance (pa_cons (pv 0) (pa_cons (pe_glob (v := .ref C) rfl M.c.mgC rfl) pa_nil)))) (pss_one (ps_ret (pv 0))) pss_nil)
      (pss_one (ps_ret (pe_make M.mkr GI hr rfl M.c.mgC b1 (dvs := [V.int 1]) (.cons ⟨tk, rfl⟩ .nil) pass0 (pa_cons (pv 0) pa_nil)))), ?_⟩
    rcases hn with ⟨p, rfl, dx, hp⟩ | ⟨i, rfl, rfl⟩
    · refine ⟨_, rfl, .inl ⟨p, dx, _, rfl, hp, true, rfl, iteT ?_⟩⟩
      exact ⟨_, rfl, q H p (fun _ _ h => h) ⟨dx, hp⟩⟩
    · refine ⟨_, rfl, .inr ⟨_, _, _, _, false, rfl, .own C, .base (.int i), M.kI, false, rfl, iteF ?_⟩⟩
      refine ⟨_, rfl, fun x dx nx ndx nex => ?_⟩
      have sm : Same H (upd (upd H dx (.own x)) x (.ins C dx [])) := fun b o e => by
        rw [upd_ne (ne_of_none e nx), upd_ne (ne_of_none e ndx)]
        exact e
      refine ⟨x, dx, i, 1, rfl, upd_same, by decide, by decide, fun H' keep hr' => ⟨rfl, ?_⟩⟩
      rw [low_one] at hr'
      exact q H' x (fun b o e => keep b o (ne_of_none e nx) (sm b o e)) hr'
/-- is_integer of a Ratio -/
theorem ok_noInt {f fI C : Addr} {fd dI : FuncData} (F : Fun K "is_integer" "is_integer" sIsInt f fd) (M : RtM K mg C fI dI) (B : Bl mg) : FnOk P w K mg base CX0 1 f fd ["value"] (spNoInt C) := by
  refine F.ok sc_isInt (fun vs H Q E h => ?_) (fun cdv A outer s H vs Q E hr h => ?_)
  · obtain ⟨p, q, rfl, _⟩ := h
    rfl
  · obtain ⟨p, z, rfl, ⟨dx, hp⟩, q⟩ := h
    refine ⟨_, pss_one (ps_ret (pe_and
      (pe_callB call_isi (by rfl) B.isi PyProof.Rows.boot_isinstance (pa_cons (pv 0) (pa_cons (pe_bltn (v := .ty "int") (by rfl) B.int PyProof.Rows.boot_int rfl) pa_nil)))
      (pe_one (pe_not (pe_callB call_isi (by rfl) B.isi PyProof.Rows.boot_isinstance (pa_cons (pv 0) (pa_cons (pe_bltn (v := .ty "bool") (by rfl) B.bool PyProof.Rows.boot_bool rfl) pa_nil))))))), ?_⟩
    exact ⟨_, rfl, _, _, _, _, false, rfl, .ty _, .base (TyOf.ins hp M.ins.cl M.ins.ha M.ins.hn M.ins.htk M.ins.hm), M.kR, false, rfl, iteF q⟩
theorem ok_noCnt {f f1 fI C : Addr} {fd fd1 dI : FuncData} (F : Fun K "is_count" "is_count" sIsCnt f fd) (M : RtM K mg C fI dI) (D1 : Df K mg "is_integer" sIsInt ["value"] f1 fd1) (B : Bl mg) : FnOk P w K mg base CX0 2 f fd ["value"] (spNoInt C) := by
  have G1 : FnOk P w K mg base CX0 1 f1 fd1 ["value"] (spNoInt C) := ok_noInt D1.F M B
  refine F.ok sc_isCnt (fun vs H Q E h => ?_) (fun cdv A outer s H vs Q E hr h => ?_)
  · obtain ⟨p, q, rfl, _⟩ := h
    rfl
  · obtain ⟨p, z, rfl, hp, q⟩ := h
    refine ⟨_, pss_one (ps_ret (pe_and (pe_call G1 hr rfl D1.g D1.F.kp D1.b .nil pass0 (pa_cons (pv 0) pa_nil)) (pe_one (pe_cmpR op_ge (pv 0) pe_int (nomark _))))), ?_⟩
    exact ⟨_, rfl, p, z, rfl, hp, false, rfl, iteF q⟩
theorem sc_isNum : FnScope ["value"] ["value"] (defScope sIsNum) := ⟨rfl, rfl, rfl, by decide +kernel, rfl, by decide +kernel, by decide +kernel⟩
theorem ok_isNumR {f f1 fI C : Addr} {fd fd1 dI : FuncData} (F : Fun K "is_number" "is_number" sIsNum f fd) (M : RtM K mg C fI dI) (D1 : Df K mg "is_integer" sIsInt ["value"] f1 fd1) (B : Bl mg) : FnOk P w K mg base CX0 2 f fd ["value"] (spIsNumR C) := by
  have G1 : FnOk P w K mg base CX0 1 f1 fd1 ["value"] (spNoInt C) := ok_noInt D1.F M B
  refine F.ok sc_isNum (fun vs H Q E h => ?_) (fun cdv A outer s H vs Q E hr h => ?_)
  · obtain ⟨p, q, rfl, _⟩ := h
    rfl
  · obtain ⟨p, z, rfl, hp, q⟩ := h
    refine ⟨_, pss_one (ps_ret (pe_or (pe_call G1 hr rfl D1.g D1.F.kp D1.b .nil pass0 (pa_cons (pv 0) pa_nil)) (pe_one (pe_callB (C8.call_isC M.ins) (by rfl) B.isi PyProof.Rows.boot_isinstance (pa_cons (pv 0) (pa_cons (pe_glob (v := .ref C) rfl M.c.mgC rfl) pa_nil)))))), ?_⟩
    obtain ⟨dx, hp'⟩ := id hp
    exact ⟨_, rfl, p, z, rfl, hp, false, rfl, iteF ⟨_, rfl, p, dx, _, rfl, hp', q⟩⟩
theorem ok_isNumV {f f1 fI C : Addr} {fd fd1 dI : FuncData} (F : Fun K "is_number" "is_number" sIsNum f fd) (M : RtM K mg C fI dI) (D1 : Df K mg "is_integer" sIsInt ["value"] f1 fd1) (B : Bl mg) : FnOk P w K mg base CX0 2 f fd ["value"] (spIsNumV K C) := by
  have G1 : FnOk P w K mg base CX0 1 f1 fd1 ["value"] (spIsInt K) := ok_isInt D1.F B
  refine F.ok sc_isNum (fun vs H Q E h => ?_) (fun cdv A outer s H vs Q E hr h => ?_)
  · obtain ⟨v, o, t, rfl, _⟩ := h
    rfl
  · obtain ⟨v, o, t, rfl, hv, ty, kt, q⟩ := h
    refine ⟨_, pss_one (ps_ret (pe_or (pe_call G1 hr rfl D1.g D1.F.kp D1.b .nil pass0 (pa_cons (pv 0) pa_nil)) (pe_one (pe_callB call_isi (by rfl) B.isi PyProof.Rows.boot_isinstance (pa_cons (pv 0) (pa_cons (pe_glob (v := .ref C) rfl M.c.mgC rfl) pa_nil)))))), ?_⟩
    refine ⟨_, rfl, v, o, rfl, hv, o.isSome, rfl, ?_⟩
    cases o with
    | some i => exact iteT q
    | none => exact iteF ⟨_, rfl, _, _, _, _, false, rfl, .own C, ty, kt, q⟩
end
end Tk

namespace Tk
open PySem PySem.Spec PyProof.Rows L2
structure RtP (K : PySem.W.Frag) (C pT gT pB gB : Addr) (dT dB : FuncData) : Prop where
  pt : PropOf K C "top" pT gT
  FT : Fun K "top" "Ratio.top" sRTop gT dT
  bT : Binds K dT ["self"] []
  pb : PropOf K C "bottom" pB gB
  FB : Fun K "bottom" "Ratio.bottom" sRBot gB dB
  bB : Binds K dB ["self"] []
/-- numbers that stay far below what an int may be here -/
structure Small (q : Int × Int) : Prop where
  pos : 0 < q.2
  bot : q.2.natAbs.log2 < 4000
  top : q.1.natAbs.log2 < 100000
def addQ (x y : Int × Int) : Int × Int := lowQ (x.1 * y.2 + y.1 * x.2) (x.2 * y.2)
def subQ (x y : Int × Int) : Int × Int := lowQ (x.1 * y.2 - y.1 * x.2) (x.2 * y.2)
def mulQ (x y : Int × Int) : Int × Int := lowQ (x.1 * y.1) (x.2 * y.2)
def spBin (C : Addr) (g : Int × Int → Int × Int → Int × Int) : Sp := fun vs H Q _ => ∃ (p : Addr) (v : V) (x y : Int × Int), vs = [.ref p, v] ∧ RatAt C H p x ∧ NumAt C H v y ∧ Small x ∧ Small y ∧
  ∀ H' r, Same H H' → H r = none → RatAt C H' r (g x y) → Q (.ref r) H'
theorem log2_mulR {a b k l : Nat} (ha : a.log2 < k) (hb : b.log2 < l) : (a * b).log2 < k + l := by
  by_cases h0 : a * b = 0
  · rw [h0]; simp; omega
  · have a0 : a ≠ 0 := fun e => h0 (by rw [e, Nat.zero_mul])
    have b0 : b ≠ 0 := fun e => h0 (by rw [e, Nat.mul_zero])
    have h1 := (Nat.log2_lt a0).mp ha
    have h2 := (Nat.log2_lt b0).mp hb
    refine (Nat.log2_lt h0).mpr ?_
    rw [Nat.pow_add]
    exact Nat.mul_lt_mul'' h1 h2
theorem small_bot {x y : Int × Int} (hx : Small x) (hy : Small y) : 0 < x.2 * y.2 ∧ (x.2 * y.2).natAbs.log2 < 9000 := by
  refine ⟨Int.mul_pos hx.pos hy.pos, ?_⟩
  rw [Int.natAbs_mul]
  have := log2_mulR hx.bot hy.bot
  omega
section
variable {P : Program} {w : World} {K : PySem.W.Frag} {mg : Str → Option Value} {base : Heap}
theorem sc_rtop : FnScope ["self"] ["self"] (defScope sRTop) := ⟨rfl, rfl, rfl, by decide +kernel, rfl, by decide +kernel, by decide +kernel⟩
theorem ok_rtop {f C : Addr} {fd : FuncData} (F : Fun K "top" "Ratio.top" sRTop f fd) (T : RtC K mg C) : FnOk P w K mg base CX0 1 f fd ["self"] (getSp C "_top") := by
  refine F.ok sc_rtop (fun vs H Q E h => ?_) (fun cdv A outer s H vs Q E hr h => ?_)
  · obtain ⟨a, dx, fs, v, rfl, _⟩ := h
    rfl
  · obtain ⟨a, dx, fs, v, rfl, ha, hl, q⟩ := h
    refine ⟨_, pss_one (ps_ret (pe_fld (pv 0) rfl)), ?_⟩
    exact ⟨_, rfl, a, C, dx, fs, v, rfl, ha, T.cl, T.nT, hl, q⟩
theorem sc_rbot : FnScope ["self"] ["self"] (defScope sRBot) := ⟨rfl, rfl, rfl, by decide +kernel, rfl, by decide +kernel, by decide +kernel⟩
theorem ok_rbot {f C : Addr} {fd : FuncData} (F : Fun K "bottom" "Ratio.bottom" sRBot f fd) (T : RtC K mg C) : FnOk P w K mg base CX0 1 f fd ["self"] (getSp C "_bottom") := by
  refine F.ok sc_rbot (fun vs H Q E h => ?_) (fun cdv A outer s H vs Q E hr h => ?_)
  · obtain ⟨a, dx, fs, v, rfl, _⟩ := h
    rfl
  · obtain ⟨a, dx, fs, v, rfl, ha, hl, q⟩ := h
    refine ⟨_, pss_one (ps_ret (pe_fld (pv 0) rfl)), ?_⟩
    exact ⟨_, rfl, a, C, dx, fs, v, rfl, ha, T.cl, T.nB, hl, q⟩
abbrev nBin : List Str := ["self", "other", "right", "top"]
theorem sc_radd : FnScope nBin ["self", "other"] (defScope sRAdd) := ⟨rfl, rfl, rfl, by decide +kernel, rfl, by decide +kernel, by decide +kernel⟩
theorem ok_radd {f f1 fR fI C pT gT pB gB : Addr} {fd fd1 dR dI dT dB : FuncData} (F : Fun K "__add__" "Ratio.__add__" sRAdd f fd) (M : RtM K mg C fI dI) (Z : RtP K C pT gT pB gB dT dB) (D1 : Df K mg "is_integer" sIsInt ["value"] f1 fd1)
    (DR : Df K mg "as_ratio" sAsRat ["number"] fR dR) (B : Bl mg) : FnOk P w K mg base CX0 5 f fd ["self", "other"] (spBin C addQ) := by
  have GI : FnOk P w K mg base CX0 2 fI dI ["self", "top", "bottom"] (spRInit C) := ok_rinit M.FI M.c D1 B
  have GR : FnOk P w K mg base CX0 4 fR dR ["number"] (spAsR C) := ok_asr DR.F M D1 B
  have GT : FnOk P w K mg base CX0 1 gT dT ["self"] (getSp C "_top") := ok_rtop Z.FT M.c
  have GB : FnOk P w K mg base CX0 1 gB dB ["self"] (getSp C "_bottom") := ok_rbot Z.FB M.c
  refine F.ok sc_radd (fun vs H Q E h => ?_) (fun cdv A outer s H vs Q E hr h => ?_)
  · obtain ⟨p, v, x, y, rfl, _⟩ := h
    rfl
  · obtain ⟨p, v, x, y, rfl, ⟨dx, hp⟩, hv, sx, sy, q⟩ := h
    have hr2 : Room 2 _ := hr.mono (by decide)
    have hr3 : Room 3 _ := hr.mono (by decide)
    refine ⟨_, pss_cons (ps_set (i := 2) sc_radd.nd rfl (Or.inl rfl) (pe_call GR hr rfl DR.g DR.F.kp DR.b .nil pass0 (pa_cons (pv 1) pa_nil)))
      (pss_cons (ps_set (i := 3) sc_radd.nd rfl (Or.inl rfl) (pe_op op_add (pe_op op_mulW (pe_fld (pv 0) rfl) (pe_prop (pv 2) M.c.cl Z.pb GB hr2 Z.bB .nil pass0 rfl)) (pe_op op_mulW (pe_prop (pv 2) M.c.cl Z.pt GT hr2 Z.bT .nil pass0 rfl) (pe_fld (pv 0) rfl))))
      (pss_one (ps_ret (pe_make M.mkr GI hr3 rfl M.c.mgC M.bI .nil pass0 (pa_cons (pv 3) (pa_cons (pe_op op_mulW (pe_fld (pv 0) rfl) (pe_prop (pv 2) M.c.cl Z.pb GB hr2 Z.bB .nil pass0 rfl)) pa_nil)))))), ?_⟩
    refine ⟨_, rfl, v, y, rfl, hv, fun H1 r s1 ⟨dr, hr1⟩ => ?_⟩
    have hp1 := s1 _ _ hp
    obtain ⟨b0, bl⟩ := small_bot sx sy
    have e1 := sx.top
    have e2 := sy.top
    have e3 := sx.bot
    have e4 := sy.bot
    refine ⟨_, rfl, p, C, dx, _, _, rfl, hp1, M.c.cl, M.c.nT, rf_top _ _, _, rfl, r, dr, _, rfl, hr1, r, dr, _, _, rfl, hr1, rf_bot _ _, _, _, rfl, rfl, (by unfold CMulW; omega), _, rfl, r, dr, _, rfl, hr1, r, dr, _, _, rfl, hr1, rf_top _ _, _, rfl, p, C, dx, _, _, rfl, hp1, M.c.cl, M.c.nB, rf_bot _ _, _, _, rfl, rfl, (by unfold CMulW; omega), _, _, rfl, rfl, ?_⟩
    refine ⟨_, rfl, _, rfl, p, C, dx, _, _, rfl, hp1, M.c.cl, M.c.nB, rf_bot _ _, _, rfl, r, dr, _, rfl, hr1, r, dr, _, _, rfl, hr1, rf_bot _ _, _, _, rfl, rfl, (by unfold CMulW; omega), fun z dz nz ndz nez => ?_⟩
    have sm : Same H1 (upd (upd H1 dz (.own z)) z (.ins C dz [])) := fun b o e => by
      rw [upd_ne (ne_of_none e nz), upd_ne (ne_of_none e ndz)]
      exact e
    refine ⟨z, dz, x.1 * y.2 + y.1 * x.2, x.2 * y.2, rfl, upd_same, Int.ne_of_gt b0, bl, fun H' keep hr' => ⟨rfl, ?_⟩⟩
    exact q H' z (s1.trans fun b o e => keep b o (ne_of_none e nz) (sm b o e)) (s1.free nz) hr'
theorem sc_rsub : FnScope nBin ["self", "other"] (defScope sRSub) := ⟨rfl, rfl, rfl, by decide +kernel, rfl, by decide +kernel, by decide +kernel⟩
theorem ok_rsub {f f1 fR fI C pT gT pB gB : Addr} {fd fd1 dR dI dT dB : FuncData} (F : Fun K "__sub__" "Ratio.__sub__" sRSub f fd) (M : RtM K mg C fI dI) (Z : RtP K C pT gT pB gB dT dB) (D1 : Df K mg "is_integer" sIsInt ["value"] f1 fd1)
    (DR : Df K mg "as_ratio" sAsRat ["number"] fR dR) (B : Bl mg) : FnOk P w K mg base CX0 5 f fd ["self", "other"] (spBin C subQ) := by
  have GI : FnOk P w K mg base CX0 2 fI dI ["self", "top", "bottom"] (spRInit C) := ok_rinit M.FI M.c D1 B
  have GR : FnOk P w K mg base CX0 4 fR dR ["number"] (spAsR C) := ok_asr DR.F M D1 B
  have GT : FnOk P w K mg base CX0 1 gT dT ["self"] (getSp C "_top") := ok_rtop Z.FT M.c
  have GB : FnOk P w K mg base CX0 1 gB dB ["self"] (getSp C "_bottom") := ok_rbot Z.FB M.c
  refine F.ok sc_rsub (fun vs H Q E h => ?_) (fun cdv A outer s H vs Q E hr h => ?_)
  · obtain ⟨p, v, x, y, rfl, _⟩ := h
    rfl
  · obtain ⟨p, v, x, y, rfl, ⟨dx, hp⟩, hv, sx, sy, q⟩ := h
    have hr2 : Room 2 _ := hr.mono (by decide)
    have hr3 : Room 3 _ := hr.mono (by decide)
    refine ⟨_, pss_cons (ps_set (i := 2) sc_rsub.nd rfl (Or.inl rfl) (pe_call GR hr rfl DR.g DR.F.kp DR.b .nil pass0 (pa_cons (pv 1) pa_nil)))
      (pss_cons (ps_set (i := 3) sc_rsub.nd rfl (Or.inl rfl) (pe_op op_sub (pe_op op_mulW (pe_fld (pv 0) rfl) (pe_prop (pv 2) M.c.cl Z.pb GB hr2 Z.bB .nil pass0 rfl)) (pe_op op_mulW (pe_prop (pv 2) M.c.cl Z.pt GT hr2 Z.bT .nil pass0 rfl) (pe_fld (pv 0) rfl))))
      (pss_one (ps_ret (pe_make M.mkr GI hr3 rfl M.c.mgC M.bI .nil pass0 (pa_cons (pv 3) (pa_cons (pe_op op_mulW (pe_fld (pv 0) rfl) (pe_prop (pv 2) M.c.cl Z.pb GB hr2 Z.bB .nil pass0 rfl)) pa_nil)))))), ?_⟩
    refine ⟨_, rfl, v, y, rfl, hv, fun H1 r s1 ⟨dr, hr1⟩ => ?_⟩
    have hp1 := s1 _ _ hp
    obtain ⟨b0, bl⟩ := small_bot sx sy
    have e1 := sx.top
    have e2 := sy.top
    have e3 := sx.bot
    have e4 := sy.bot
    refine ⟨_, rfl, p, C, dx, _, _, rfl, hp1, M.c.cl, M.c.nT, rf_top _ _, _, rfl, r, dr, _, rfl, hr1, r, dr, _, _, rfl, hr1, rf_bot _ _, _, _, rfl, rfl, (by unfold CMulW; omega), _, rfl, r, dr, _, rfl, hr1, r, dr, _, _, rfl, hr1, rf_top _ _, _, rfl, p, C, dx, _, _, rfl, hp1, M.c.cl, M.c.nB, rf_bot _ _, _, _, rfl, rfl, (by unfold CMulW; omega), _, _, rfl, rfl, ?_⟩
    refine ⟨_, rfl, _, rfl, p, C, dx, _, _, rfl, hp1, M.c.cl, M.c.nB, rf_bot _ _, _, rfl, r, dr, _, rfl, hr1, r, dr, _, _, rfl, hr1, rf_bot _ _, _, _, rfl, rfl, (by unfold CMulW; omega), fun z dz nz ndz nez => ?_⟩
    have sm : Same H1 (upd (upd H1 dz (.own z)) z (.ins C dz [])) := fun b o e => by
      rw [upd_ne (ne_of_none e nz), upd_ne (ne_of_none e ndz)]
      exact e
    refine ⟨z, dz, x.1 * y.2 - y.1 * x.2, x.2 * y.2, rfl, upd_same, Int.ne_of_gt b0, bl, fun H' keep hr' => ⟨rfl, ?_⟩⟩
    exact q H' z (s1.trans fun b o e => keep b o (ne_of_none e nz) (sm b o e)) (s1.free nz) hr'
abbrev nBin3 : List Str := ["self", "other", "right"]
theorem sc_rmul : FnScope nBin3 ["self", "other"] (defScope sRMul) := ⟨rfl, rfl, rfl, by decide +kernel, rfl, by decide +kernel, by decide +kernel⟩
theorem ok_rmul {f f1 fR fI C pT gT pB gB : Addr} {fd fd1 dR dI dT dB : FuncData} (F : Fun K "__mul__" "Ratio.__mul__" sRMul f fd) (M : RtM K mg C fI dI) (Z : RtP K C pT gT pB gB dT dB) (D1 : Df K mg "is_integer" sIsInt ["value"] f1 fd1)
    (DR : Df K mg "as_ratio" sAsRat ["number"] fR dR) (B : Bl mg) : FnOk P w K mg base CX0 5 f fd ["self", "other"] (spBin C mulQ) := by
  have GI : FnOk P w K mg base CX0 2 fI dI ["self", "top", "bottom"] (spRInit C) := ok_rinit M.FI M.c D1 B
  have GR : FnOk P w K mg base CX0 4 fR dR ["number"] (spAsR C) := ok_asr DR.F M D1 B
  have GT : FnOk P w K mg base CX0 1 gT dT ["self"] (getSp C "_top") := ok_rtop Z.FT M.c
  have GB : FnOk P w K mg base CX0 1 gB dB ["self"] (getSp C "_bottom") := ok_rbot Z.FB M.c
  refine F.ok sc_rmul (fun vs H Q E h => ?_) (fun cdv A outer s H vs Q E hr h => ?_)
  · obtain ⟨p, v, x, y, rfl, _⟩ := h
    rfl
  · obtain ⟨p, v, x, y, rfl, ⟨dx, hp⟩, hv, sx, sy, q⟩ := h
    have hr2 : Room 2 _ := hr.mono (by decide)
    have hr3 : Room 3 _ := hr.mono (by decide)
    refine ⟨_, pss_cons (ps_set (i := 2) sc_rmul.nd rfl (Or.inl rfl) (pe_call GR hr rfl DR.g DR.F.kp DR.b .nil pass0 (pa_cons (pv 1) pa_nil)))
      (pss_one (ps_ret (pe_make M.mkr GI hr3 rfl M.c.mgC M.bI .nil pass0 (pa_cons (pe_op op_mulW (pe_fld (pv 0) rfl) (pe_prop (pv 2) M.c.cl Z.pt GT hr2 Z.bT .nil pass0 rfl)) (pa_cons (pe_op op_mulW (pe_fld (pv 0) rfl) (pe_prop (pv 2) M.c.cl Z.pb GB hr2 Z.bB .nil pass0 rfl)) pa_nil))))), ?_⟩
    refine ⟨_, rfl, v, y, rfl, hv, fun H1 r s1 ⟨dr, hr1⟩ => ?_⟩
    have hp1 := s1 _ _ hp
    obtain ⟨b0, bl⟩ := small_bot sx sy
    have e1 := sx.top
    have e2 := sy.top
    have e3 := sx.bot
    have e4 := sy.bot
    refine ⟨_, rfl, p, C, dx, _, _, rfl, hp1, M.c.cl, M.c.nT, rf_top _ _, _, rfl, r, dr, _, rfl, hr1, r, dr, _, _, rfl, hr1, rf_top _ _, _, _, rfl, rfl, (by unfold CMulW; omega), ?_⟩
    refine ⟨_, rfl, p, C, dx, _, _, rfl, hp1, M.c.cl, M.c.nB, rf_bot _ _, _, rfl, r, dr, _, rfl, hr1, r, dr, _, _, rfl, hr1, rf_bot _ _, _, _, rfl, rfl, (by unfold CMulW; omega), fun z dz nz ndz nez => ?_⟩
    have sm : Same H1 (upd (upd H1 dz (.own z)) z (.ins C dz [])) := fun b o e => by
      rw [upd_ne (ne_of_none e nz), upd_ne (ne_of_none e ndz)]
      exact e
    refine ⟨z, dz, x.1 * y.1, x.2 * y.2, rfl, upd_same, Int.ne_of_gt b0, bl, fun H' keep hr' => ⟨rfl, ?_⟩⟩
    exact q H' z (s1.trans fun b o e => keep b o (ne_of_none e nz) (sm b o e)) (s1.free nz) hr'
/-- other + self, .., by the instance's own way -/
def spRev (C : Addr) (g : Int × Int → Int × Int → Int × Int) : Sp := fun vs H Q _ => ∃ (p : Addr) (v : V) (x y : Int × Int), vs = [.ref p, v] ∧ RatAt C H p x ∧ NumAt C H v y ∧ Small x ∧ Small y ∧
  ∀ H' r, Same H H' → RatAt C H' r (g y x) → Q (.ref r) H'
theorem sc_rev : FnScope ["self", "other"] ["self", "other"] (defScope sRRadd) := ⟨rfl, rfl, rfl, by decide +kernel, rfl, by decide +kernel, by decide +kernel⟩
theorem sc_rradd : FnScope ["self", "other"] ["self", "other"] (defScope sRRadd) := ⟨rfl, rfl, rfl, by decide +kernel, rfl, by decide +kernel, by decide +kernel⟩
theorem ok_rradd {f f1 fA fR fI C : Addr} {fd fd1 dA dR dI : FuncData} (F : Fun K "__radd__" "Ratio.__radd__" sRRadd f fd) (M : RtM K mg C fI dI) (D1 : Df K mg "is_integer" sIsInt ["value"] f1 fd1) (DR : Df K mg "as_ratio" sAsRat ["number"] fR dR)
    (h0 : PySem.W.selfFirst K C = true) (h1 : PySem.W.findIn K (.ref C) "__add__" = some (some (.ref fA))) (h2 : PySem.W.isFn K (.ref fA) = true) (bA : Binds K dA ["self", "other"] []) (GA : FnOk P w K mg base CX0 5 fA dA ["self", "other"] (spBin C addQ)) (B : Bl mg) :
    FnOk P w K mg base CX0 6 f fd ["self", "other"] (spRev C addQ) := by
  have GR : FnOk P w K mg base CX0 4 fR dR ["number"] (spAsR C) := ok_asr DR.F M D1 B
  refine F.ok sc_rradd (fun vs H Q E h => ?_) (fun cdv A outer s H vs Q E hr h => ?_)
  · obtain ⟨p, v, x, y, rfl, _⟩ := h
    rfl
  · obtain ⟨p, v, x, y, rfl, hp, hv, sx, sy, q⟩ := h
    refine ⟨_, pss_one (ps_ret (pe_op (NeO.op_binI (op := .Add) h0 h1 h2 GA hr bA) (pe_call GR (hr.mono (by decide)) rfl DR.g DR.F.kp DR.b .nil pass0 (pa_cons (pv 1) pa_nil)) (pv 0))), ?_⟩
    refine ⟨_, rfl, v, y, rfl, hv, fun H1 r s1 hr1 => ?_⟩
    obtain ⟨dx, hp1⟩ := rat_s hp s1
    obtain ⟨dr, hr2⟩ := id hr1
    refine ⟨_, rfl, r, p, dr, dx, _, _, rfl, rfl, hr2, hp1, ?_⟩
    exact ⟨r, .ref p, y, x, rfl, hr1, .inl ⟨p, rfl, dx, hp1⟩, sy, sx, fun H' z s2 _ hz => ⟨z, rfl, q H' z (s1.trans s2) hz⟩⟩
theorem sc_rrsub : FnScope ["self", "other"] ["self", "other"] (defScope sRRsub) := ⟨rfl, rfl, rfl, by decide +kernel, rfl, by decide +kernel, by decide +kernel⟩
theorem ok_rrsub {f f1 fA fR fI C : Addr} {fd fd1 dA dR dI : FuncData} (F : Fun K "__rsub__" "Ratio.__rsub__" sRRsub f fd) (M : RtM K mg C fI dI) (D1 : Df K mg "is_integer" sIsInt ["value"] f1 fd1) (DR : Df K mg "as_ratio" sAsRat ["number"] fR dR)
    (h0 : PySem.W.selfFirst K C = true) (h1 : PySem.W.findIn K (.ref C) "__sub__" = some (some (.ref fA))) (h2 : PySem.W.isFn K (.ref fA) = true) (bA : Binds K dA ["self", "other"] []) (GA : FnOk P w K mg base CX0 5 fA dA ["self", "other"] (spBin C subQ)) (B : Bl mg) :
    FnOk P w K mg base CX0 6 f fd ["self", "other"] (spRev C subQ) := by
  have GR : FnOk P w K mg base CX0 4 fR dR ["number"] (spAsR C) := ok_asr DR.F M D1 B
  refine F.ok sc_rrsub (fun vs H Q E h => ?_) (fun cdv A outer s H vs Q E hr h => ?_)
  · obtain ⟨p, v, x, y, rfl, _⟩ := h
    rfl
  · obtain ⟨p, v, x, y, rfl, hp, hv, sx, sy, q⟩ := h
    refine ⟨_, pss_one (ps_ret (pe_op (NeO.op_binI (op := .Sub) h0 h1 h2 GA hr bA) (pe_call GR (hr.mono (by decide)) rfl DR.g DR.F.kp DR.b .nil pass0 (pa_cons (pv 1) pa_nil)) (pv 0))), ?_⟩
    refine ⟨_, rfl, v, y, rfl, hv, fun H1 r s1 hr1 => ?_⟩
    obtain ⟨dx, hp1⟩ := rat_s hp s1
    obtain ⟨dr, hr2⟩ := id hr1
    refine ⟨_, rfl, r, p, dr, dx, _, _, rfl, rfl, hr2, hp1, ?_⟩
    exact ⟨r, .ref p, y, x, rfl, hr1, .inl ⟨p, rfl, dx, hp1⟩, sy, sx, fun H' z s2 _ hz => ⟨z, rfl, q H' z (s1.trans s2) hz⟩⟩
theorem sc_rrmul : FnScope ["self", "other"] ["self", "other"] (defScope sRRmul) := ⟨rfl, rfl, rfl, by decide +kernel, rfl, by decide +kernel, by decide +kernel⟩
theorem ok_rrmul {f f1 fA fR fI C : Addr} {fd fd1 dA dR dI : FuncData} (F : Fun K "__rmul__" "Ratio.__rmul__" sRRmul f fd) (M : RtM K mg C fI dI) (D1 : Df K mg "is_integer" sIsInt ["value"] f1 fd1) (DR : Df K mg "as_ratio" sAsRat ["number"] fR dR)
    (h0 : PySem.W.selfFirst K C = true) (h1 : PySem.W.findIn K (.ref C) "__mul__" = some (some (.ref fA))) (h2 : PySem.W.isFn K (.ref fA) = true) (bA : Binds K dA ["self", "other"] []) (GA : FnOk P w K mg base CX0 5 fA dA ["self", "other"] (spBin C mulQ)) (B : Bl mg) :
    FnOk P w K mg base CX0 6 f fd ["self", "other"] (spRev C mulQ) := by
  have GR : FnOk P w K mg base CX0 4 fR dR ["number"] (spAsR C) := ok_asr DR.F M D1 B
  refine F.ok sc_rrmul (fun vs H Q E h => ?_) (fun cdv A outer s H vs Q E hr h => ?_)
  · obtain ⟨p, v, x, y, rfl, _⟩ := h
    rfl
  · obtain ⟨p, v, x, y, rfl, hp, hv, sx, sy, q⟩ := h
    refine ⟨_, pss_one (ps_ret (pe_op (NeO.op_binI (op := .Mult) h0 h1 h2 GA hr bA) (pe_call GR (hr.mono (by decide)) rfl DR.g DR.F.kp DR.b .nil pass0 (pa_cons (pv 1) pa_nil)) (pv 0))), ?_⟩
    refine ⟨_, rfl, v, y, rfl, hv, fun H1 r s1 hr1 => ?_⟩
    obtain ⟨dx, hp1⟩ := rat_s hp s1
    obtain ⟨dr, hr2⟩ := id hr1
    refine ⟨_, rfl, r, p, dr, dx, _, _, rfl, rfl, hr2, hp1, ?_⟩
    exact ⟨r, .ref p, y, x, rfl, hr1, .inl ⟨p, rfl, dx, hp1⟩, sy, sx, fun H' z s2 _ hz => ⟨z, rfl, q H' z (s1.trans s2) hz⟩⟩
end
end Tk

namespace Tk
open PySem PySem.Spec PyProof.Rows L2
def spREq (C : Addr) : Sp := fun vs H Q _ => ∃ (p r : Addr) (x y : Int × Int), vs = [.ref p, .ref r] ∧ RatAt C H p x ∧ RatAt C H r y ∧ Q (.bl (decide (x = y))) H
theorem dec_v {i j : Int} : V.bl (decide (V.int i = V.int j)) = V.bl (decide (i = j)) := by simp
section
variable {P : Program} {w : World} {K : PySem.W.Frag} {mg : Str → Option Value} {base : Heap}
theorem sc_req : FnScope ["self", "other"] ["self", "other"] (defScope sREq) := ⟨rfl, rfl, rfl, by decide +kernel, rfl, by decide +kernel, by decide +kernel⟩
theorem ok_req {f fI C : Addr} {fd dI : FuncData} (F : Fun K "__eq__" "Ratio.__eq__" sREq f fd) (M : RtM K mg C fI dI) (B : Bl mg) : FnOk P w K mg base CX0 1 f fd ["self", "other"] (spREq C) := by
  refine F.ok sc_req (fun vs H Q E h => ?_) (fun cdv A outer s H vs Q E hr h => ?_)
  · obtain ⟨p, r, x, y, rfl, _⟩ := h
    rfl
  · obtain ⟨p, r, x, y, rfl, ⟨dx, hp⟩, ⟨dr, hr'⟩, q⟩ := h
    refine ⟨_, pss_one (ps_ret (pe_and (pe_callB (C8.call_isC M.ins) (by rfl) B.isi PyProof.Rows.boot_isinstance (pa_cons (pv 1) (pa_cons (pe_glob (v := .ref C) rfl M.c.mgC rfl) pa_nil)))
      (pe_and (pe_cmpR op_eq (pe_fld (pv 0) rfl) (pe_fld (pv 1) rfl) (nomark _)) (pe_one (pe_cmpR op_eq (pe_fld (pv 0) rfl) (pe_fld (pv 1) rfl) (nomark _)))))), ?_⟩
    refine ⟨_, rfl, r, dr, _, rfl, hr', true, rfl, iteT ?_⟩
    refine ⟨_, rfl, p, C, dx, _, _, rfl, hp, M.c.cl, M.c.nT, rf_top _ _, _, rfl, r, C, dr, _, _, rfl, hr', M.c.cl, M.c.nT, rf_top _ _, rfl, decide (x.1 = y.1), dec_v, ?_⟩
    by_cases c : x.1 = y.1
    · rw [decide_eq_true c]
      refine iteT ⟨_, rfl, p, C, dx, _, _, rfl, hp, M.c.cl, M.c.nB, rf_bot _ _, _, rfl, r, C, dr, _, _, rfl, hr', M.c.cl, M.c.nB, rf_bot _ _, rfl, ?_⟩
      have e : decide (V.int x.2 = V.int y.2) = decide (x = y) := by
        obtain ⟨a, b⟩ := x
        obtain ⟨a', b'⟩ := y
        simp only at c
        subst c
        simp
      rw [e]
      exact q
    · rw [decide_eq_false c]
      refine iteF ?_
      have e : decide (x = y) = false := decide_eq_false fun e => c (congrArg Prod.fst e)
      rw [e] at q
      exact q
end
end Tk

namespace Tk
open PySem PySem.Spec PyProof.Rows L2
def sumQ (qs : List (Int × Int)) : Int × Int := qs.foldl addQ (0, 1)
def spTotal (K : PySem.W.Frag) (C : Addr) : Sp := fun vs H Q _ => ∃ (a : Addr) (xs : List V) (qs : List (Int × Int)), vs = [.ref C, .ref a] ∧ SqA K H a xs ∧ xs.length = qs.length ∧ (∀ (i : Nat) (x : V) (q : Int × Int), xs[i]? = some x → qs[i]? = some q → NumAt C H x q ∧ Small q) ∧
  (∀ i, i ≤ qs.length → Small (sumQ (qs.take i))) ∧ ∀ H' r, Same H H' → RatAt C H' r (sumQ qs) → Q (.ref r) H'
section
variable {P : Program} {w : World} {K : PySem.W.Frag} {mg : Str → Option Value} {base : Heap}
abbrev nTot : List Str := ["cls", "numbers", "found", "number"]
theorem sc_total : FnScope nTot ["cls", "numbers"] (defScope sRTotal) := ⟨rfl, rfl, rfl, by decide +kernel, rfl, by decide +kernel, by decide +kernel⟩
theorem ok_total {f f1 f5 fA fI C : Addr} {fd fd1 fd5 dA dI : FuncData} (F : Fun K "total" "Ratio.total" sRTotal f fd) (M : RtM K mg C fI dI) (D1 : Df K mg "is_integer" sIsInt ["value"] f1 fd1) (D5 : Df K mg "is_list" sIsLst ["value"] f5 fd5)
    (T : NeO.BinT K C fA "add") (bA : Binds K dA ["self", "other"] []) (GA : FnOk P w K mg base CX0 5 fA dA ["self", "other"] (spBin C addQ)) (B : Bl mg) :
    FnOk P w K mg base CX0 6 f fd ["cls", "numbers"] (spTotal K C) := by
  have G5 : FnOk P w K mg base CX0 1 f5 fd5 ["value"] (spIsLst K) := ok_isLst D5.F B
  have GI : FnOk P w K mg base CX0 2 fI dI ["self", "top", "bottom"] (spRInit C) := ok_rinit M.FI M.c D1 B
  obtain ⟨tk, b1⟩ := M.bI1
  refine F.ok sc_total (fun vs H Q E h => ?_) (fun cdv A outer s H vs Q E hr h => ?_)
  · obtain ⟨a, xs, qs, rfl, _⟩ := h
    rfl
  · obtain ⟨a, xs, qs, rfl, hxs, hl, hq, hs, q⟩ := h
    refine ⟨_, pss_cons (ps_if (pt_not (pt_val (pe_call G5 (hr.mono (by decide)) rfl D5.g D5.F.kp D5.b .nil pass0 (pa_cons (pv 1) pa_nil)))) pss_never pss_nil)
      (pss_cons (ps_set (i := 2) sc_total.nd rfl (Or.inl rfl) (NeO.pe_makeL (i := 0) M.mkr GI (hr.mono (by decide)) rfl (Or.inl rfl) b1 (dvs := [V.int 1]) (.cons ⟨tk, rfl⟩ .nil) pass0 (pa_cons pe_int pa_nil)))
      (pss_cons (ps_for PassesOwn.never rfl (pi_sq (pv 1)) (pg_name (i := 3) sc_total.nd rfl (Or.inl rfl))
        (pss_one (ps_set (i := 2) sc_total.nd rfl (Or.inl rfl) (pe_op (opR_or (NeO.op_binI (op := .Add) T.first T.own T.fn GA hr bA) (NeO.op_binT (op := .Add) T GA hr bA)) (pv 2) (pv 3)))))
      (pss_one (ps_ret (pv 2))))), ?_⟩
    refine ⟨_, rfl, _, some xs, rfl, .sq hxs, fun H1 s1 => ⟨true, rfl, iteF ?_⟩⟩
    refine ⟨rfl, fun x dx nx ndx nex => ?_⟩
    have sm : Same H1 (upd (upd H1 dx (.own x)) x (.ins C dx [])) := fun b o e => by
      rw [upd_ne (ne_of_none e nx), upd_ne (ne_of_none e ndx)]
      exact e
    refine ⟨x, dx, 0, 1, rfl, upd_same, by decide, by decide, fun H2 keep hr0 => ⟨rfl, ?_⟩⟩
    have s02 : Same H H2 := s1.trans fun b o e => keep b o (ne_of_none e nx) (sm b o e)
    rw [low_one] at hr0
    refine ⟨_, rfl, a, xs, rfl, same_a s02 hxs, fun it hit => for_sq hit (fun i σ G => ∃ (r : Addr) (v3 : Option V), σ = [some (V.ref C), some (V.ref a), some (V.ref r), v3] ∧ Same H G ∧ Same H2 G ∧ RatAt C G r (sumQ (qs.take i)))
      ⟨x, none, rfl, s02, (fun _ _ h => h), by simpa [sumQ] using hr0⟩ (fun i σ G _ z => by obtain ⟨_, _, _, _, z, _⟩ := z; exact z) ?_ ?_⟩
    · rintro i y σ G hy ⟨r, v3, rfl, sG, s2G, hG⟩
      have hi := lt_of_at hy
      obtain ⟨z, hz⟩ : ∃ z, qs[i]? = some z := ⟨qs[i]'(by omega), by simp [show i < qs.length by omega]⟩
      obtain ⟨hn, sz⟩ := hq i y z hy hz
      have es : sumQ (qs.take (i + 1)) = addQ (sumQ (qs.take i)) z := by
        unfold sumQ
        rw [take_at hz, List.foldl_append]
        rfl
      have sm1 := hs i (by omega)
      obtain ⟨dr, hr'⟩ := id hG
      rcases num_s hn sG with ⟨p, rfl, dp, hp⟩ | ⟨j, rfl, rfl⟩
      · refine ⟨_, rfl, _, rfl, .inl ⟨r, p, dr, dp, _, _, rfl, rfl, hr', hp, ?_⟩⟩
        exact ⟨r, .ref p, _, z, rfl, hG, .inl ⟨p, rfl, dp, hp⟩, sm1, sz, fun H' u s2 _ hu => ⟨u, rfl, u, _, rfl, sG.trans s2, s2G.trans s2, by rw [es]; exact hu⟩⟩
      · refine ⟨_, rfl, _, rfl, .inr ⟨r, dr, _, j, rfl, rfl, hr', ?_⟩⟩
        exact ⟨r, .int j, _, (j, 1), rfl, hG, .inr ⟨j, rfl, rfl⟩, sm1, sz, fun H' u s2 _ hu => ⟨u, rfl, u, _, rfl, sG.trans s2, s2G.trans s2, by rw [es]; exact hu⟩⟩
    · rintro σ G ⟨r, v3, rfl, sG, s2G, hG⟩
      rw [hl, List.take_length] at hG
      exact ⟨_, rfl, q G r sG hG⟩
end
end Tk

namespace Tk
open PySem PySem.Spec PyProof.Rows L2
/-! ## signs, quotients, comparisons, texts of Ratios -/
def sgnQ (x : Int) : Int := if x = 0 then 0 else if 0 < x then 1 else -1
def spSign (C : Addr) : Sp := fun vs H Q _ => ∃ (p : Addr) (x : Int × Int), vs = [.ref p] ∧ RatAt C H p x ∧ Q (.int (sgnQ x.1)) H
def spWhole (C : Addr) : Sp := fun vs H Q _ => ∃ (p : Addr) (x : Int × Int), vs = [.ref p] ∧ RatAt C H p x ∧ Q (.bl (decide (x.2 = 1))) H
def spNeg (C : Addr) : Sp := fun vs H Q _ => ∃ (p : Addr) (x : Int × Int), vs = [.ref p] ∧ RatAt C H p x ∧ Small x ∧ ∀ H' r, Same H H' → RatAt C H' r (lowQ (-x.1) x.2) → Q (.ref r) H'
def spSize (C : Addr) : Sp := fun vs H Q _ => ∃ (p : Addr) (x : Int × Int), vs = [.ref p] ∧ RatAt C H p x ∧ Small x ∧ ∀ H' r, Same H H' → RatAt C H' r (lowQ (if x.1 < 0 then -x.1 else x.1) x.2) → Q (.ref r) H'
def overQ (x y : Int × Int) : Int × Int := lowQ (x.1 * y.2) (x.2 * y.1)
def spOver (C : Addr) : Sp := fun vs H Q _ => ∃ (p : Addr) (v : V) (x y : Int × Int), vs = [.ref p, v] ∧ RatAt C H p x ∧ NumAt C H v y ∧ Small x ∧ Small y ∧ y.1 ≠ 0 ∧ y.1.natAbs.log2 < 4000 ∧
  ∀ H' r, Same H H' → RatAt C H' r (overQ x y) → Q (.ref r) H'
def spBelow (C : Addr) (g : Int → Bool) : Sp := fun vs H Q _ => ∃ (p : Addr) (v : V) (x y : Int × Int), vs = [.ref p, v] ∧ RatAt C H p x ∧ NumAt C H v y ∧ Small x ∧ Small y ∧ ∀ H', Same H H' → Q (.bl (g (sgnQ (subQ x y).1))) H'
/-- == with a Ratio or an int -/
def spREqV (C : Addr) : Sp := fun vs H Q _ => ∃ (p : Addr) (v : V) (x : Int × Int), vs = [.ref p, v] ∧ RatAt C H p x ∧ ((∃ (r : Addr) (y : Int × Int), v = .ref r ∧ RatAt C H r y ∧ Q (.bl (decide (x = y))) H) ∨ (∃ i : Int, v = .int i) ∧ Q (.bl false) H)
def shQ (x : Int × Int) : Str := if x.2 = 1 then toString x.1 else (toString x.1 : Str) ++ ("/" : Str) ++ (toString x.2 : Str)
def rpQ (x : Int × Int) : Str := ("Ratio(" : Str) ++ (toString x.1 : Str) ++ (", " : Str) ++ (toString x.2 : Str) ++ (")" : Str)
def Tiny (x : Int × Int) : Prop := x.1.natAbs < 2 ^ 200 ∧ x.2.natAbs < 2 ^ 200
def spRShow (C : Addr) (g : Int × Int → Str) : Sp := fun vs H Q _ => ∃ (p : Addr) (x : Int × Int), vs = [.ref p] ∧ RatAt C H p x ∧ Tiny x ∧ Q (.str (g x)) H
theorem int_len {i : Int} (h : i.natAbs < 2 ^ 200) : (toString i : Str).length ≤ 201 := by
  show (Str.ofString (toString i)).length ≤ 201
  have l : i.natAbs.log2 < 200 := by
    by_cases h0 : i.natAbs = 0
    · rw [h0]; simp
    · exact (Nat.log2_lt h0).mpr h
  have e := int_text_length_le (k := 200) (by decide) l
  rw [PySem.ofString_length]
  omega
theorem tiny_log {i : Int} (h : i.natAbs < 2 ^ 200) : i.natAbs.log2 < 1920 := by
  by_cases h0 : i.natAbs = 0
  · rw [h0]; simp
  · exact Nat.lt_of_lt_of_le ((Nat.log2_lt h0).mpr h) (by decide)
theorem str_e (a : Str) : Str.empty ++ a = a := by
  cases a
  rename_i c
  show Str.mk (#[] ++ c) = Str.mk c
  rw [Array.empty_append]
section
variable {P : Program} {w : World} {K : PySem.W.Frag} {mg : Str → Option Value} {base : Heap}
theorem sc_rsign : FnScope ["self"] ["self"] (defScope sRSign) := ⟨rfl, rfl, rfl, by decide +kernel, rfl, by decide +kernel, by decide +kernel⟩
theorem ok_rsign {f C : Addr} {fd : FuncData} (F : Fun K "sign" "Ratio.sign" sRSign f fd) (T : RtC K mg C) : FnOk P w K mg base CX0 1 f fd ["self"] (spSign C) := by
  refine F.ok sc_rsign (fun vs H Q E h => ?_) (fun cdv A outer s H vs Q E hr h => ?_)
  · obtain ⟨p, x, rfl, _⟩ := h
    rfl
  · obtain ⟨p, x, rfl, ⟨dx, hp⟩, q⟩ := h
    refine ⟨_, pss_cons (ps_if (pt_cmpR op_eq (pe_fld (pv 0) rfl) pe_int (nomark _)) (pss_one (ps_ret pe_int)) pss_nil)
      (pss_one (ps_ret (pe_ifExp (pt_cmpR op_gt (pe_fld (pv 0) rfl) pe_int (nomark _)) pe_int (pe_un un_neg pe_int)))), ?_⟩
    refine ⟨_, rfl, p, C, dx, _, _, rfl, hp, T.cl, T.nT, rf_top _ _, rfl, _, rfl, ?_⟩
    by_cases c : x.1 = 0
    · rw [show decide (V.int x.1 = V.int 0) = true from decide_eq_true (by rw [c])]
      rw [show sgnQ x.1 = 0 by unfold sgnQ; rw [if_pos c]] at q
      exact iteT q
    · rw [show decide (V.int x.1 = V.int 0) = false from decide_eq_false (fun e => c (V.int.inj e))]
      refine iteF ⟨_, rfl, p, C, dx, _, _, rfl, hp, T.cl, T.nT, rf_top _ _, _, _, rfl, rfl, _, rfl, ?_⟩
      by_cases d : 0 < x.1
      · rw [decide_eq_true d]
        rw [show sgnQ x.1 = 1 by unfold sgnQ; rw [if_neg c, if_pos d]] at q
        exact iteT q
      · rw [decide_eq_false d]
        rw [show sgnQ x.1 = -1 by unfold sgnQ; rw [if_neg c, if_neg d]] at q
        exact iteF ⟨_, rfl, q⟩
theorem sc_rneg : FnScope ["self"] ["self"] (defScope sRNeg) := ⟨rfl, rfl, rfl, by decide +kernel, rfl, by decide +kernel, by decide +kernel⟩
theorem ok_rneg {f f1 fI C : Addr} {fd fd1 dI : FuncData} (F : Fun K "__neg__" "Ratio.__neg__" sRNeg f fd) (M : RtM K mg C fI dI) (D1 : Df K mg "is_integer" sIsInt ["value"] f1 fd1) (B : Bl mg) : FnOk P w K mg base CX0 4 f fd ["self"] (spNeg C) := by
  have GI : FnOk P w K mg base CX0 2 fI dI ["self", "top", "bottom"] (spRInit C) := ok_rinit M.FI M.c D1 B
  refine F.ok sc_rneg (fun vs H Q E h => ?_) (fun cdv A outer s H vs Q E hr h => ?_)
  · obtain ⟨p, x, rfl, _⟩ := h
    rfl
  · obtain ⟨p, x, rfl, ⟨dx, hp⟩, sx, q⟩ := h
    refine ⟨_, pss_one (ps_ret (pe_make M.mkr GI hr rfl M.c.mgC M.bI .nil pass0 (pa_cons (pe_un un_neg (pe_fld (pv 0) rfl)) (pa_cons (pe_fld (pv 0) rfl) pa_nil)))), ?_⟩
    have e1 := sx.pos
    have e3 := sx.bot
    refine ⟨_, rfl, p, C, dx, _, _, rfl, hp, M.c.cl, M.c.nT, rf_top _ _, _, rfl, _, rfl, p, C, dx, _, _, rfl, hp, M.c.cl, M.c.nB, rf_bot _ _, fun z dz nz ndz nez => ?_⟩
    have sm : Same H (upd (upd H dz (.own z)) z (.ins C dz [])) := fun b o e => by
      rw [upd_ne (ne_of_none e nz), upd_ne (ne_of_none e ndz)]
      exact e
    refine ⟨z, dz, -x.1, x.2, rfl, upd_same, by omega, by omega, fun H' keep hr' => ⟨rfl, ?_⟩⟩
    exact q H' z (fun b o e => keep b o (ne_of_none e nz) (sm b o e)) hr'
theorem sc_rsize : FnScope ["self"] ["self"] (defScope sRSize) := ⟨rfl, rfl, rfl, by decide +kernel, rfl, by decide +kernel, by decide +kernel⟩
theorem ok_rsize {f f1 fI C : Addr} {fd fd1 dI : FuncData} (F : Fun K "size" "Ratio.size" sRSize f fd) (M : RtM K mg C fI dI) (D1 : Df K mg "is_integer" sIsInt ["value"] f1 fd1) (B : Bl mg) : FnOk P w K mg base CX0 4 f fd ["self"] (spSize C) := by
  have GI : FnOk P w K mg base CX0 2 fI dI ["self", "top", "bottom"] (spRInit C) := ok_rinit M.FI M.c D1 B
  refine F.ok sc_rsize (fun vs H Q E h => ?_) (fun cdv A outer s H vs Q E hr h => ?_)
  · obtain ⟨p, x, rfl, _⟩ := h
    rfl
  · obtain ⟨p, x, rfl, ⟨dx, hp⟩, sx, q⟩ := h
    refine ⟨_, pss_one (ps_ret (pe_make M.mkr GI hr rfl M.c.mgC M.bI .nil pass0 (pa_cons (pe_callB call_abs (by rfl) B.abs PyProof.Rows.boot_abs (pa_cons (pe_fld (pv 0) rfl) pa_nil)) (pa_cons (pe_fld (pv 0) rfl) pa_nil)))), ?_⟩
    have e1 := sx.pos
    have e3 := sx.bot
    refine ⟨_, rfl, p, C, dx, _, _, rfl, hp, M.c.cl, M.c.nT, rf_top _ _, _, rfl, _, rfl, p, C, dx, _, _, rfl, hp, M.c.cl, M.c.nB, rf_bot _ _, fun z dz nz ndz nez => ?_⟩
    have sm : Same H (upd (upd H dz (.own z)) z (.ins C dz [])) := fun b o e => by
      rw [upd_ne (ne_of_none e nz), upd_ne (ne_of_none e ndz)]
      exact e
    refine ⟨z, dz, _, x.2, rfl, upd_same, by omega, by omega, fun H' keep hr' => ⟨rfl, ?_⟩⟩
    exact q H' z (fun b o e => keep b o (ne_of_none e nz) (sm b o e)) hr'
theorem sc_rstr : FnScope ["self"] ["self"] (defScope sRStr) := ⟨rfl, rfl, rfl, by decide +kernel, rfl, by decide +kernel, by decide +kernel⟩
theorem ok_rstr {f C : Addr} {fd : FuncData} (F : Fun K "__str__" "Ratio.__str__" sRStr f fd) (T : RtC K mg C) (ms : mg "str" = none) : FnOk P w K mg base CX0 1 f fd ["self"] (spRShow C shQ) := by
  refine F.ok sc_rstr (fun vs H Q E h => ?_) (fun cdv A outer s H vs Q E hr h => ?_)
  · obtain ⟨p, x, rfl, _⟩ := h
    rfl
  · obtain ⟨p, x, rfl, ⟨dx, hp⟩, ⟨t1, t2⟩, q⟩ := h
    refine ⟨_, pss_cons (ps_if (pt_cmpR op_eq (pe_fld (pv 0) rfl) pe_int (nomark _)) (pss_one (ps_ret (pe_callTy call_str_int (by rfl) ms PySem.Pv.boot_str (pa_cons (pe_fld (pv 0) rfl) pa_nil)))) pss_nil)
      (pss_one (ps_ret (pe_joined (.cons (pe_fmt (pe_fld (pv 0) rfl)) (.cons pe_str (.cons (pe_fmt (pe_fld (pv 0) rfl)) .nil)))))), ?_⟩
    have a1 := int_len t1
    have a2 := int_len t2
    have sz : sizeLine = 16777216 := rfl
    have l0 : Str.empty.length = 0 := rfl
    have l1 : (("/" : String) : Str).length = 1 := rfl
    refine ⟨_, rfl, p, C, dx, _, _, rfl, hp, T.cl, T.nB, rf_bot _ _, rfl, _, rfl, ?_⟩
    by_cases c : x.2 = 1
    · rw [show decide (V.int x.2 = V.int 1) = true from decide_eq_true (by rw [c])]
      rw [show shQ x = toString x.1 by unfold shQ; rw [if_pos c]] at q
      exact iteT ⟨_, rfl, p, C, dx, _, _, rfl, hp, T.cl, T.nT, rf_top _ _, _, rfl, tiny_log t1, q⟩
    · rw [show decide (V.int x.2 = V.int 1) = false from decide_eq_false (fun e => c (V.int.inj e))]
      rw [show shQ x = Str.empty ++ (toString x.1 : Str) ++ ("/" : Str) ++ (toString x.2 : Str) by unfold shQ; rw [if_neg c, str_e]] at q
      refine iteF ⟨_, rfl, p, C, dx, _, _, rfl, hp, T.cl, T.nT, rf_top _ _, .inr ⟨_, rfl, tiny_log t1, _, rfl, by simp only [strLen_append]; omega, _, rfl, by simp only [strLen_append]; omega, ?_⟩⟩
      exact ⟨_, rfl, p, C, dx, _, _, rfl, hp, T.cl, T.nB, rf_bot _ _, .inr ⟨_, rfl, tiny_log t2, _, rfl, by simp only [strLen_append]; omega, q⟩⟩
theorem sc_rrepr : FnScope ["self"] ["self"] (defScope sRRepr) := ⟨rfl, rfl, rfl, by decide +kernel, rfl, by decide +kernel, by decide +kernel⟩
theorem ok_rrepr {f C : Addr} {fd : FuncData} (F : Fun K "__repr__" "Ratio.__repr__" sRRepr f fd) (T : RtC K mg C) : FnOk P w K mg base CX0 1 f fd ["self"] (spRShow C rpQ) := by
  refine F.ok sc_rrepr (fun vs H Q E h => ?_) (fun cdv A outer s H vs Q E hr h => ?_)
  · obtain ⟨p, x, rfl, _⟩ := h
    rfl
  · obtain ⟨p, x, rfl, ⟨dx, hp⟩, ⟨t1, t2⟩, q⟩ := h
    refine ⟨_, pss_one (ps_ret (pe_joined (.cons pe_str (.cons (pe_fmt (pe_fld (pv 0) rfl)) (.cons pe_str (.cons (pe_fmt (pe_fld (pv 0) rfl)) (.cons pe_str .nil))))))), ?_⟩
    have a1 := int_len t1
    have a2 := int_len t2
    have sz : sizeLine = 16777216 := rfl
    have l0 : Str.empty.length = 0 := rfl
    have l1 : (("Ratio(" : String) : Str).length = 6 := rfl
    have l2 : ((", " : String) : Str).length = 2 := rfl
    have l3 : ((")" : String) : Str).length = 1 := rfl
    rw [show rpQ x = Str.empty ++ ("Ratio(" : Str) ++ (toString x.1 : Str) ++ (", " : Str) ++ (toString x.2 : Str) ++ (")" : Str) by unfold rpQ; rw [str_e]] at q
    refine ⟨_, rfl, by simp only [strLen_append]; omega, ?_⟩
    refine ⟨_, rfl, p, C, dx, _, _, rfl, hp, T.cl, T.nT, rf_top _ _, .inr ⟨_, rfl, tiny_log t1, _, rfl, by simp only [strLen_append]; omega, _, rfl, by simp only [strLen_append]; omega, ?_⟩⟩
    exact ⟨_, rfl, p, C, dx, _, _, rfl, hp, T.cl, T.nB, rf_bot _ _, .inr ⟨_, rfl, tiny_log t2, _, rfl, by simp only [strLen_append]; omega, _, rfl, by simp only [strLen_append]; omega, q⟩⟩
theorem ok_reqV {f fI C : Addr} {fd dI : FuncData} (F : Fun K "__eq__" "Ratio.__eq__" sREq f fd) (M : RtM K mg C fI dI) (B : Bl mg) : FnOk P w K mg base CX0 1 f fd ["self", "other"] (spREqV C) := by
  refine F.ok sc_req (fun vs H Q E h => ?_) (fun cdv A outer s H vs Q E hr h => ?_)
  · obtain ⟨p, v, x, rfl, _⟩ := h
    rfl
  · obtain ⟨p, v, x, rfl, ⟨dx, hp⟩, h⟩ := h
    refine ⟨_, pss_one (ps_ret (pe_and (pe_callB (callR_or (C8.call_isC M.ins) call_isi) (by rfl) B.isi PyProof.Rows.boot_isinstance (pa_cons (pv 1) (pa_cons (pe_glob (v := .ref C) rfl M.c.mgC rfl) pa_nil)))
      (pe_and (pe_cmpR op_eq (pe_fld (pv 0) rfl) (pe_fld (pv 1) rfl) (nomark _)) (pe_one (pe_cmpR op_eq (pe_fld (pv 0) rfl) (pe_fld (pv 1) rfl) (nomark _)))))), ?_⟩
    rcases h with ⟨r, y, rfl, ⟨dr, hr'⟩, q⟩ | ⟨⟨i, rfl⟩, q⟩
    · refine ⟨_, rfl, .inl ⟨r, dr, _, rfl, hr', true, rfl, iteT ?_⟩⟩
      refine ⟨_, rfl, p, C, dx, _, _, rfl, hp, M.c.cl, M.c.nT, rf_top _ _, _, rfl, r, C, dr, _, _, rfl, hr', M.c.cl, M.c.nT, rf_top _ _, rfl, decide (x.1 = y.1), dec_v, ?_⟩
      by_cases c : x.1 = y.1
      · rw [decide_eq_true c]
        refine iteT ⟨_, rfl, p, C, dx, _, _, rfl, hp, M.c.cl, M.c.nB, rf_bot _ _, _, rfl, r, C, dr, _, _, rfl, hr', M.c.cl, M.c.nB, rf_bot _ _, rfl, ?_⟩
        have e : decide (V.int x.2 = V.int y.2) = decide (x = y) := by
          obtain ⟨a, b⟩ := x
          obtain ⟨a', b'⟩ := y
          simp only at c
          subst c
          simp
        rw [e]
        exact q
      · rw [decide_eq_false c]
        refine iteF ?_
        have e : decide (x = y) = false := decide_eq_false fun e => c (congrArg Prod.fst e)
        rw [e] at q
        exact q
    · exact ⟨_, rfl, .inr ⟨_, _, _, _, false, rfl, .own C, .base (.int i), M.kI, false, rfl, iteF q⟩⟩
theorem sc_rover : FnScope nBin3 ["self", "other"] (defScope sROver) := ⟨rfl, rfl, rfl, by decide +kernel, rfl, by decide +kernel, by decide +kernel⟩
theorem ok_rover {f f1 fR fI C pT gT pB gB pS gS : Addr} {fd fd1 dR dI dT dB dS : FuncData} (F : Fun K "over" "Ratio.over" sROver f fd) (M : RtM K mg C fI dI) (Z : RtP K C pT gT pB gB dT dB) (ps : PropOf K C "sign" pS gS) (FS : Fun K "sign" "Ratio.sign" sRSign gS dS) (bS : Binds K dS ["self"] [])
    (D1 : Df K mg "is_integer" sIsInt ["value"] f1 fd1) (DR : Df K mg "as_ratio" sAsRat ["number"] fR dR) (B : Bl mg) : FnOk P w K mg base CX0 5 f fd ["self", "other"] (spOver C) := by
  have GI : FnOk P w K mg base CX0 2 fI dI ["self", "top", "bottom"] (spRInit C) := ok_rinit M.FI M.c D1 B
  have GR : FnOk P w K mg base CX0 4 fR dR ["number"] (spAsR C) := ok_asr DR.F M D1 B
  have GT : FnOk P w K mg base CX0 1 gT dT ["self"] (getSp C "_top") := ok_rtop Z.FT M.c
  have GB : FnOk P w K mg base CX0 1 gB dB ["self"] (getSp C "_bottom") := ok_rbot Z.FB M.c
  have GS : FnOk P w K mg base CX0 1 gS dS ["self"] (spSign C) := ok_rsign FS M.c
  refine F.ok sc_rover (fun vs H Q E h => ?_) (fun cdv A outer s H vs Q E hr h => ?_)
  · obtain ⟨p, v, x, y, rfl, _⟩ := h
    rfl
  · obtain ⟨p, v, x, y, rfl, ⟨dx, hp⟩, hv, sx, sy, y0, yl, q⟩ := h
    have hr2 : Room 2 _ := hr.mono (by decide)
    have hr3 : Room 3 _ := hr.mono (by decide)
    refine ⟨_, pss_cons (ps_set (i := 2) sc_rover.nd rfl (Or.inl rfl) (pe_call GR hr rfl DR.g DR.F.kp DR.b .nil pass0 (pa_cons (pv 1) pa_nil)))
      (pss_cons (ps_if (pt_cmpR op_eq (pe_prop (pv 2) M.c.cl ps GS hr2 bS .nil pass0 rfl) pe_int (nomark _)) pss_never pss_nil)
      (pss_one (ps_ret (pe_make M.mkr GI hr3 rfl M.c.mgC M.bI .nil pass0 (pa_cons (pe_op op_mulW (pe_fld (pv 0) rfl) (pe_prop (pv 2) M.c.cl Z.pb GB hr2 Z.bB .nil pass0 rfl)) (pa_cons (pe_op op_mulW (pe_fld (pv 0) rfl) (pe_prop (pv 2) M.c.cl Z.pt GT hr2 Z.bT .nil pass0 rfl)) pa_nil)))))), ?_⟩
    refine ⟨_, rfl, v, y, rfl, hv, fun H1 r s1 ⟨dr, hr1⟩ => ?_⟩
    have hp1 := s1 _ _ hp
    have e1 := sx.top
    have e2 := sy.bot
    have e3 := sx.bot
    have e4 := sx.pos
    refine ⟨_, rfl, r, dr, _, rfl, hr1, r, y, rfl, ⟨dr, hr1⟩, rfl, _, rfl, ?_⟩
    have sn : sgnQ y.1 ≠ 0 := by unfold sgnQ; rw [if_neg y0]; split <;> decide
    rw [show decide (V.int (sgnQ y.1) = V.int 0) = false from decide_eq_false (fun e => sn (V.int.inj e))]
    refine iteF ?_
    refine ⟨_, rfl, p, C, dx, _, _, rfl, hp1, M.c.cl, M.c.nT, rf_top _ _, _, rfl, r, dr, _, rfl, hr1, r, dr, _, _, rfl, hr1, rf_bot _ _, _, _, rfl, rfl, (by unfold CMulW; omega), ?_⟩
    refine ⟨_, rfl, p, C, dx, _, _, rfl, hp1, M.c.cl, M.c.nB, rf_bot _ _, _, rfl, r, dr, _, rfl, hr1, r, dr, _, _, rfl, hr1, rf_top _ _, _, _, rfl, rfl, (by unfold CMulW; omega), fun z dz nz ndz nez => ?_⟩
    have sm : Same H1 (upd (upd H1 dz (.own z)) z (.ins C dz [])) := fun b o e => by
      rw [upd_ne (ne_of_none e nz), upd_ne (ne_of_none e ndz)]
      exact e
    have nb : x.2 * y.1 ≠ 0 := Int.mul_ne_zero (by omega) y0
    have bl : (x.2 * y.1).natAbs.log2 < 9000 := by
      rw [Int.natAbs_mul]
      have := log2_mulR e3 yl
      omega
    refine ⟨z, dz, x.1 * y.2, x.2 * y.1, rfl, upd_same, nb, bl, fun H' keep hr' => ⟨rfl, ?_⟩⟩
    exact q H' z (s1.trans fun b o e => keep b o (ne_of_none e nz) (sm b o e)) hr'
abbrev sBelowNames : List Str := ["self", "other"]
end
end Tk

namespace Tk
open PySem PySem.Spec PyProof.Rows L2
/-- of two unlike things of a plan of this size: True -/
def spIsPair (K : PySem.W.Frag) : Sp := fun vs H Q _ => ∃ (n i j : Int) (t : Addr), vs = [.int n, .ref t] ∧ SqT K H t [.int i, .int j] ∧ 0 ≤ i ∧ i < n ∧ 0 ≤ j ∧ j < n ∧ i ≠ j ∧ ∀ H', Same H H' → Q (.bl true) H'
/-- pairs of unlike things -/
def Prs (n : Int) (ps : List (Int × Int)) : Prop := ps.Nodup ∧ ps.length < 60 ∧ ∀ p ∈ ps, 0 ≤ p.1 ∧ p.1 < n ∧ 0 ≤ p.2 ∧ p.2 < n ∧ p.1 ≠ p.2
def spArePairs (K : PySem.W.Frag) : Sp := fun vs H Q _ => ∃ (n : Int) (a : Addr) (ps : List (Int × Int)), vs = [.int n, .ref a] ∧ PA2 K H a ps ∧ Prs n ps ∧ ∀ H', Same H H' → Q (.bl true) H'
section
variable {P : Program} {w : World} {K : PySem.W.Frag} {mg : Str → Option Value} {base : Heap}
end
end Tk

/-! plain mathematics: lists of pairs, orders, reaching -/
namespace Tk
theorem nodup_le {α : Type} [DecidableEq α] : ∀ {l m : List α}, l.Nodup → (∀ x ∈ l, x ∈ m) → l.length ≤ m.length
  | [], _, _, _ => Nat.zero_le _
  | x :: l, m, hn, hs => by
    have hx : x ∈ m := hs x (List.mem_cons_self ..)
    have hn' := List.nodup_cons.mp hn
    have h := nodup_le (l := l) (m := m.erase x) hn'.2 (fun y hy => by
      have hne : y ≠ x := fun e => hn'.1 (e ▸ hy)
      exact (List.mem_erase_of_ne hne).mpr (hs y (List.mem_cons_of_mem _ hy)))
    have hl := List.length_erase_of_mem hx
    have hp : 0 < m.length := List.length_pos_of_mem hx
    simp only [List.length_cons]
    omega
theorem nodup_eq {α : Type} [DecidableEq α] {l m : List α} (hl : l.Nodup) (hm : m.Nodup) (h : ∀ x, x ∈ l ↔ x ∈ m) : l.length = m.length :=
  Nat.le_antisymm (nodup_le hl fun x hx => (h x).mp hx) (nodup_le hm fun x hx => (h x).mpr hx)
/-- the things of a plan of this size -/
def things (n : Nat) : List Int := (List.range n).map Int.ofNat
theorem mem_things {n : Nat} {x : Int} : x ∈ things n ↔ 0 ≤ x ∧ x < n := by
  unfold things
  rw [List.mem_map]
  constructor
  · rintro ⟨k, hk, rfl⟩
    have := List.mem_range.mp hk
    exact ⟨by simp, by simpa using this⟩
  · rintro ⟨h0, h1⟩
    exact ⟨x.toNat, List.mem_range.mpr (by omega), by simp; omega⟩
theorem things_nodup (n : Nat) : (things n).Nodup := by
  unfold things
  show List.Pairwise _ _
  rw [List.pairwise_map]
  exact List.Pairwise.imp (fun h e => h (Int.ofNat.inj e)) (List.nodup_range (n := n))
theorem things_len (n : Nat) : (things n).length = n := by simp [things]

/-- along the list each arrow goes from an earlier to a later place -/
structure Topo (n : Nat) (ps : List (Int × Int)) (o : List Int) : Prop where
  nd : o.Nodup
  mem : ∀ x, x ∈ o ↔ x ∈ things n
  at_ : ∀ p ∈ ps, ∀ i j : Nat, o[i]? = some p.1 → o[j]? = some p.2 → i < j
/-- some numbering rises along the arrows -/
def Acy (ps : List (Int × Int)) : Prop := ∃ r : Int → Nat, ∀ p ∈ ps, r p.1 < r p.2
/-- an order on its way: o told, l left -/
structure OInv (n : Nat) (ps : List (Int × Int)) (o l : List Int) : Prop where
  no : o.Nodup
  nl : l.Nodup
  dj : ∀ x ∈ o, x ∉ l
  al : ∀ x, x ∈ things n ↔ x ∈ o ∨ x ∈ l
  st : ∀ p ∈ ps, p.2 ∈ o → p.1 ∈ o
  at_ : ∀ p ∈ ps, ∀ i j : Nat, o[i]? = some p.1 → o[j]? = some p.2 → i < j
theorem oinv_0 (n : Nat) (ps : List (Int × Int)) : OInv n ps [] (things n) :=
  ⟨List.nodup_nil, things_nodup n, (fun _ h => nomatch h), (fun x => by simp), (fun _ _ h => nomatch h), (fun _ _ i j h => by simp at h)⟩
theorem oinv_end {n : Nat} {ps : List (Int × Int)} {o : List Int} (h : OInv n ps o []) : Topo n ps o :=
  ⟨h.no, fun x => by rw [h.al x]; simp, h.at_⟩
/-- some thing left that nothing left pushes -/
theorem has_free {l : List Int} {ps : List (Int × Int)} (ha : Acy ps) (hl : l ≠ []) : ∃ x ∈ l, ∀ p ∈ ps, p.1 ∈ l → p.2 ≠ x := by
  obtain ⟨r, hr⟩ := ha
  have : ∀ (k : Nat) (x : Int), x ∈ l → r x ≤ k → ∃ y ∈ l, ∀ p ∈ ps, p.1 ∈ l → p.2 ≠ y := by
    intro k
    induction k with
    | zero =>
      intro x hx h0
      refine ⟨x, hx, fun p hp _ e => ?_⟩
      have := hr p hp
      rw [e] at this
      omega
    | succ k ih =>
      intro x hx h0
      by_cases c : ∃ p ∈ ps, p.1 ∈ l ∧ p.2 = x
      · obtain ⟨p, hp, h1, h2⟩ := c
        have := hr p hp
        rw [h2] at this
        exact ih p.1 h1 (by omega)
      · exact ⟨x, hx, fun p hp h1 h2 => c ⟨p, hp, h1, h2⟩⟩
  cases l with
  | nil => exact absurd rfl hl
  | cons x l => exact this (r x) x (List.mem_cons_self ..) (Nat.le_refl _)
/-- the ends of the arrows from what is left -/
def pushedL (ps : List (Int × Int)) (l : List Int) : List Int := (ps.filter fun p => decide (p.1 ∈ l)).map (·.2)
def freeL (ps : List (Int × Int)) (l : List Int) : List Int := l.filter fun x => !decide (x ∈ pushedL ps l)
theorem mem_pushedL {ps : List (Int × Int)} {l : List Int} {x : Int} : x ∈ pushedL ps l ↔ ∃ p ∈ ps, p.1 ∈ l ∧ p.2 = x := by
  unfold pushedL
  simp only [List.mem_map, List.mem_filter, decide_eq_true_eq]
  constructor
  · rintro ⟨p, ⟨h1, h2⟩, h3⟩; exact ⟨p, h1, h2, h3⟩
  · rintro ⟨p, h1, h2, h3⟩; exact ⟨p, ⟨h1, h2⟩, h3⟩
theorem mem_freeL {ps : List (Int × Int)} {l : List Int} {x : Int} : x ∈ freeL ps l ↔ x ∈ l ∧ ∀ p ∈ ps, p.1 ∈ l → p.2 ≠ x := by
  unfold freeL
  simp only [List.mem_filter, Bool.not_eq_true', decide_eq_false_iff_not, mem_pushedL]
  constructor
  · rintro ⟨h1, h2⟩; exact ⟨h1, fun p hp h3 h4 => h2 ⟨p, hp, h3, h4⟩⟩
  · rintro ⟨h1, h2⟩; exact ⟨h1, fun ⟨p, hp, h3, h4⟩ => h2 p hp h3 h4⟩
theorem freeL_ne {ps : List (Int × Int)} {l : List Int} (ha : Acy ps) (hl : l ≠ []) : freeL ps l ≠ [] := by
  obtain ⟨x, h1, h2⟩ := has_free ha hl
  intro e
  have : x ∈ freeL ps l := mem_freeL.mpr ⟨h1, h2⟩
  rw [e] at this
  exact nomatch this
theorem oinv_step {n : Nat} {ps : List (Int × Int)} {o l : List Int} {x : Int} (h : OInv n ps o l) (hr : ∀ p ∈ ps, p.1 ∈ things n) (hx : x ∈ freeL ps l) : OInv n ps (o ++ [x]) (l.erase x) := by
  obtain ⟨h1, h2⟩ := mem_freeL.mp hx
  have xo : x ∉ o := fun z => h.dj x z h1
  have starts : ∀ p ∈ ps, p.2 = x → p.1 ∈ o := fun p hp e => by
    rcases (h.al p.1).mp (hr p hp) with z | z
    · exact z
    · exact absurd e (h2 p hp z)
  refine ⟨?_, h.nl.erase x, ?_, ?_, ?_, ?_⟩
  · rw [List.nodup_append]
    refine ⟨h.no, by simp, ?_⟩
    intro a ha b hb e
    simp at hb
    subst hb
    subst e
    exact xo ha
  · intro y hy z
    rcases List.mem_append.mp hy with q | q
    · exact h.dj y q (List.mem_of_mem_erase z)
    · simp at q
      subst q
      exact (List.Nodup.not_mem_erase h.nl) z
  · intro y
    rw [h.al y]
    constructor
    · rintro (q | q)
      · exact .inl (List.mem_append_left _ q)
      · by_cases e : y = x
        · exact .inl (List.mem_append_right _ (by simp [e]))
        · exact .inr ((List.mem_erase_of_ne e).mpr q)
    · rintro (q | q)
      · rcases List.mem_append.mp q with q | q
        · exact .inl q
        · simp at q
          exact .inr (q ▸ h1)
      · exact .inr (List.mem_of_mem_erase q)
  · intro p hp q
    rcases List.mem_append.mp q with q | q
    · exact List.mem_append_left _ (h.st p hp q)
    · simp at q
      exact List.mem_append_left _ (starts p hp q)
  · intro p hp i j hi hj
    by_cases jl : j < o.length
    · rw [List.getElem?_append_left jl] at hj
      have hs : p.1 ∈ o := h.st p hp (List.mem_of_getElem? hj)
      by_cases il : i < o.length
      · rw [List.getElem?_append_left il] at hi
        exact h.at_ p hp i j hi hj
      · rw [List.getElem?_append_right (by omega)] at hi
        have : i - o.length = 0 := by
          cases e : i - o.length with
          | zero => rfl
          | succ k => rw [e] at hi; simp at hi
        rw [this] at hi
        simp at hi
        exact absurd (hi ▸ hs) xo
    · rw [List.getElem?_append_right (by omega)] at hj
      have j0 : j - o.length = 0 := by
        cases e : j - o.length with
        | zero => rfl
        | succ k => rw [e] at hj; simp at hj
      rw [j0] at hj
      simp at hj
      have hs := starts p hp hj.symm
      by_cases il : i < o.length
      · omega
      · rw [List.getElem?_append_right (by omega)] at hi
        have : i - o.length = 0 := by
          cases e : i - o.length with
          | zero => rfl
          | succ k => rw [e] at hi; simp at hi
        rw [this] at hi
        simp at hi
        exact absurd (hi ▸ hs) xo
theorem topo_len {n : Nat} {ps : List (Int × Int)} {o : List Int} (h : Topo n ps o) : o.length = n := by
  rw [nodup_eq h.nd (things_nodup n) h.mem, things_len]
end Tk

namespace Tk
open PySem PySem.Spec PyProof.Rows L2

theorem dec_bl {i j : Int} : V.bl (decide (V.int i = V.int j)) = V.bl (decide (i = j)) := by simp
theorem pl_ks {K : PySem.W.Frag} {H : Hp} : ∀ {ps : List (Int × Int)} {xs : List V}, DpAll K H xs (ps.map dP) → ∃ ks : List (Addr × List Int), xs = ks.map (fun p => V.ref p.1) ∧ ks.map (·.2) = ps.map (fun p => [p.1, p.2]) ∧ ∀ p ∈ ks, SqT K H p.1 (p.2.map V.int)
  | [], _, h => by cases h; exact ⟨[], rfl, rfl, fun p hp => nomatch hp⟩
  | p :: ps, _, h => by
    cases h with
    | cons h1 h2 =>
      obtain ⟨t, rfl, ht⟩ := dP_inv h1
      obtain ⟨ks, rfl, e2, h3⟩ := pl_ks h2
      refine ⟨(t, [p.1, p.2]) :: ks, rfl, by simp [e2], ?_⟩
      intro q hq
      rcases List.mem_cons.mp hq with rfl | hq
      · exact ht
      · exact h3 q hq
theorem prs_ks {n : Int} {ps : List (Int × Int)} (h : Prs n ps) {ks : List (Addr × List Int)} (e : ks.map (·.2) = ps.map (fun p => [p.1, p.2])) : (ks.map (·.2)).Nodup ∧ ks.length < 60 := by
  constructor
  · rw [e]
    show List.Pairwise _ _
    rw [List.pairwise_map]
    refine List.Pairwise.imp (fun {a b} hne q => hne ?_) h.1
    simp at q
    exact Prod.ext q.1 q.2
  · have := congrArg List.length e
    simp at this
    rw [this]
    exact h.2.1
theorem inV_int (i : Int) : ∀ l : List Int, inV (.int i) (l.map V.int) = decide (i ∈ l)
  | [] => by simp [inV]
  | x :: l => by
    have ih := inV_int i l
    unfold inV at ih ⊢
    rw [List.map_cons, List.any_cons, ih]
    have e : eqV (.int x) (.int i) = decide (i = x) := by
      show (x == i) = decide (i = x)
      by_cases h : x = i
      · subst h; simp
      · have h' : ¬ i = x := fun e => h e.symm
        simp [h, h']
    rw [e]
    simp [List.mem_cons]
theorem flat_ints (l : List Int) : (l.map V.int).all flatV = true := by
  rw [List.all_map]
  exact List.all_eq_true.mpr fun x _ => rfl
theorem in_bl {i : Int} {l : List Int} : V.bl (if false = true then !inV (.int i) (l.map V.int) else inV (.int i) (l.map V.int)) = V.bl (decide (i ∈ l)) := by
  rw [← inV_int]; rfl
theorem notin_bl {i : Int} {l : List Int} : V.bl (if true = true then !inV (.int i) (l.map V.int) else inV (.int i) (l.map V.int)) = V.bl (!decide (i ∈ l)) := by
  rw [← inV_int]; rfl

def spOrdOf (K : PySem.W.Frag) : Sp := fun vs H Q _ => ∃ (n : Nat) (a : Addr) (ps : List (Int × Int)), vs = [.int n, .ref a] ∧ PL K H a ps ∧ n ≤ 60 ∧ Prs n ps ∧ Acy ps ∧
  ∀ H' p o, Same H H' → H p = none → H' p = some (.lst (o.map V.int)) → Topo n ps o → Q (.ref p) H'
section
variable {P : Program} {w : World} {K : PySem.W.Frag} {mg : Str → Option Value} {base : Heap}
end
end Tk

namespace Tk
open PySem PySem.Spec PyProof.Rows L2
theorem at0 {x : Int} {l : List Int} : atI ((x :: l).map V.int) (0 : Int) = some (V.int x) := atI_nat (j := 0) rfl
theorem rgV_things (n : Nat) : rgV 0 (n : Int) = (things n).map V.int := by
  unfold rgV things
  rw [List.map_map]
  have e : ((n : Int) - 0).toNat = n := by omega
  rw [e]
  refine List.map_congr_left fun k _ => ?_
  show V.int (0 + (k : Int)) = V.int (Int.ofNat k)
  rw [Int.zero_add]; rfl
theorem pushed_take {ps : List (Int × Int)} {l : List Int} {i : Nat} {p : Int × Int} (h : ps[i]? = some p) :
    (pushedL (ps.take (i + 1)) l) = if p.1 ∈ l then pushedL (ps.take i) l ++ [p.2] else pushedL (ps.take i) l := by
  unfold pushedL
  rw [take_at h, List.filter_append, List.map_append]
  by_cases c : p.1 ∈ l
  · simp [c]
  · simp [c]
theorem filter_take {l : List Int} {f : Int → Bool} {i : Nat} {x : Int} (h : l[i]? = some x) : (l.take (i + 1)).filter f = if f x = true then (l.take i).filter f ++ [x] else (l.take i).filter f := by
  rw [take_at h, List.filter_append]
  by_cases c : f x = true
  · simp [c]
  · simp [c]
theorem take_all {α : Type} {l : List α} {n : Nat} (h : l.length = n) : l.take n = l := by rw [← h, List.take_length]
theorem erase_ix {l : List Int} {x : Int} (hx : x ∈ l) : ∃ j : Nat, l[j]? = some x ∧ (∀ m : Nat, m < j → l[m]? ≠ some x) ∧ l.eraseIdx j = l.erase x := by
  induction l with
  | nil => exact nomatch hx
  | cons y l ih =>
    by_cases e : y = x
    · subst e
      exact ⟨0, by simp, fun m hm => by omega, by simp⟩
    · have hx' : x ∈ l := by
        rcases List.mem_cons.mp hx with q | q
        · exact absurd q.symm e
        · exact q
      obtain ⟨j, h1, h2, h3⟩ := ih hx'
      refine ⟨j + 1, by simpa using h1, ?_, ?_⟩
      · intro m hm
        cases m with
        | zero => simp [e]
        | succ m => simpa using h2 m (by omega)
      · have e' : (y == x) = false := by simpa using e
        simp [List.erase_cons, e', h3]
section
variable {P : Program} {w : World} {K : PySem.W.Frag} {mg : Str → Option Value} {base : Heap}
abbrev nOrd : List Str := ["size", "arrows", "order", "left", "pushed", "free", "start", "end", "thing"]
end
end Tk

namespace Tk
open PySem PySem.Spec PyProof.Rows L2
def spAreArr (K : PySem.W.Frag) : Sp := fun vs H Q _ => ∃ (n : Nat) (a : Addr) (ps : List (Int × Int)), vs = [.int n, .ref a] ∧ PL K H a ps ∧ n ≤ 60 ∧ Prs n ps ∧ Acy ps ∧ ∀ H', Same H H' → Q (.bl true) H'
def spAreTies (K : PySem.W.Frag) : Sp := fun vs H Q _ => ∃ (n : Int) (a : Addr) (ps : List (Int × Int)), vs = [.int n, .ref a] ∧ PA2 K H a ps ∧ Prs n ps ∧ (∀ p ∈ ps, p.1 < p.2) ∧ ∀ H', Same H H' → Q (.bl true) H'
def spIsSize : Sp := fun vs H Q _ => ∃ i : Int, vs = [.int i] ∧ Q (.bl (decide (0 ≤ i) && decide (i ≤ 6))) H
def spChkSize : Sp := fun vs H Q _ => ∃ i : Int, vs = [.int i] ∧ 0 ≤ i ∧ i ≤ 6 ∧ Q .non H
section
variable {P : Program} {w : World} {K : PySem.W.Frag} {mg : Str → Option Value} {base : Heap}
theorem sc_isSize : FnScope ["value"] ["value"] (defScope sIsSize) := ⟨rfl, rfl, rfl, by decide +kernel, rfl, by decide +kernel, by decide +kernel⟩
theorem ok_isSize {f f1 f2 : Addr} {fd fd1 fd2 : FuncData} {tk : Tok} (F : Fun K "is_size" "is_size" sIsSize f fd) (D1 : Df K mg "is_integer" sIsInt ["value"] f1 fd1) (D2 : Df K mg "is_count" sIsCnt ["value"] f2 fd2)
    (hm : mg "MOST_THINGS" = some (.int 6 tk)) (B : Bl mg) : FnOk P w K mg base CX0 3 f fd ["value"] spIsSize := by
  have G2 : FnOk P w K mg base CX0 2 f2 fd2 ["value"] (spIsCnt K) := ok_isCnt D2.F D1 B
  refine F.ok sc_isSize (fun vs H Q E h => ?_) (fun cdv A outer s H vs Q E hr h => ?_)
  · obtain ⟨i, rfl, _⟩ := h
    rfl
  · obtain ⟨i, rfl, q⟩ := h
    refine ⟨_, pss_one (ps_ret (pe_and (pe_call G2 hr rfl D2.g D2.F.kp D2.b .nil pass0 (pa_cons (pv 0) pa_nil)) (pe_one (pe_cmpR op_le (pv 0) (pe_glob (v := .int 6) rfl hm ⟨_, rfl⟩) (nomark _))))), ?_⟩
    refine ⟨_, rfl, .int i, some i, rfl, .int i, _, rfl, ?_⟩
    show if decide (0 ≤ i) = true then _ else _
    by_cases h0 : 0 ≤ i
    · rw [decide_eq_true h0] at q ⊢
      rw [Bool.true_and] at q
      exact iteT ⟨_, rfl, _, _, rfl, rfl, q⟩
    · rw [decide_eq_false h0] at q ⊢
      exact iteF q
theorem sc_chkSize : FnScope ["size"] ["size"] (defScope sChkSize) := ⟨rfl, rfl, rfl, by decide +kernel, rfl, by decide +kernel, by decide +kernel⟩
theorem ok_chkSize {f f3 : Addr} {fd fd3 : FuncData} (F : Fun K "check_size" "check_size" sChkSize f fd) (D3 : Df K mg "is_size" sIsSize ["value"] f3 fd3) (G3 : FnOk P w K mg base CX0 3 f3 fd3 ["value"] spIsSize) :
    FnOk P w K mg base CX0 4 f fd ["size"] spChkSize := by
  refine F.ok sc_chkSize (fun vs H Q E h => ?_) (fun cdv A outer s H vs Q E hr h => ?_)
  · obtain ⟨i, rfl, _⟩ := h
    rfl
  · obtain ⟨i, rfl, h0, h1, q⟩ := h
    refine ⟨_, pss_one (ps_if (pt_not (pt_val (pe_call G3 hr rfl D3.g D3.F.kp D3.b .nil pass0 (pa_cons (pv 0) pa_nil)))) pss_never pss_nil), ?_⟩
    refine ⟨_, rfl, i, rfl, _, rfl, ?_⟩
    rw [decide_eq_true h0, decide_eq_true h1]
    exact iteF q
end
end Tk

namespace Tk
open PySem PySem.Spec PyProof.Rows L2
/-! ## Plan -/
theorem k_as : ¬ (("_arrows" : Str) = "_size") := by decide +kernel
theorem k_ts : ¬ (("_ties" : Str) = "_size") := by decide +kernel
theorem k_ta : ¬ (("_ties" : Str) = "_arrows") := by decide +kernel
theorem k_sa : ¬ (("_size" : Str) = "_arrows") := by decide +kernel
theorem k_st : ¬ (("_size" : Str) = "_ties") := by decide +kernel
theorem k_at : ¬ (("_arrows" : Str) = "_ties") := by decide +kernel
def pf (n : Int) (a t : Addr) : List (Str × V) := putF "_ties" (.ref t) (putF "_arrows" (.ref a) (putF "_size" (.int n) []))
theorem pf_size (n : Int) (a t : Addr) : (pf n a t).lookup ("_size" : Str) = some (.int n) := by
  unfold pf
  rw [lookup_putF, if_neg k_st, lookup_putF, if_neg k_sa, lookup_putF, if_pos rfl]
theorem pf_arr (n : Int) (a t : Addr) : (pf n a t).lookup ("_arrows" : Str) = some (.ref a) := by
  unfold pf
  rw [lookup_putF, if_neg k_at, lookup_putF, if_pos rfl]
theorem pf_ties (n : Int) (a t : Addr) : (pf n a t).lookup ("_ties" : Str) = some (.ref t) := by
  unfold pf
  rw [lookup_putF, if_pos rfl]
theorem pf_no (n : Int) (a t : Addr) {m : Str} (h1 : ¬ m = "_size") (h2 : ¬ m = "_arrows") (h3 : ¬ m = "_ties") : (pf n a t).lookup m = none := by
  unfold pf
  rw [lookup_putF, if_neg h3, lookup_putF, if_neg h2, lookup_putF, if_neg h1]
  all_goals rfl
theorem putF_len (f : Str) (v : V) : ∀ fs : List (Str × V), (putF f v fs).length ≤ fs.length + 1
  | [] => by simp [putF]
  | (g, x) :: r => by
    unfold putF
    split
    · simp
    · have := putF_len f v r
      simp; omega
/-- ps' is ps, sorted -/
def SortOf (ps ps' : List (Int × Int)) : Prop := ps'.Perm ps ∧ ps'.Pairwise fun p q => SrtO.lexB q p = false
def SrtPs (A : List (Int × Int)) : Prop := A.Pairwise fun p q => SrtO.lexB q p = false
theorem lex_anti {p q : Int × Int} (h : SrtO.lexB q p = false) (g : SrtO.lexB p q = false) : p = q := by
  have h1 : ¬ SrtO.lexB q p = true := by rw [h]; simp
  have g1 : ¬ SrtO.lexB p q = true := by rw [g]; simp
  rw [SrtO.lexB_iff] at h1 g1
  exact Prod.ext (by omega) (by omega)
theorem pairs_one {A B : List (Int × Int)} (s1 : SrtPs A) (n1 : A.Nodup) (s2 : SrtPs B) (n2 : B.Nodup) (m : ∀ p, p ∈ A ↔ p ∈ B) : A = B :=
  List.Perm.eq_of_pairwise (fun a b _ _ h1 h2 => lex_anti h1 h2) s1 s2 ((List.perm_ext_iff_of_nodup n1 n2).mpr m)
/-- a Plan stands at p -/
structure PlanAt (K : PySem.W.Frag) (C : Addr) (H : Hp) (p : Addr) (n : Nat) (as ts : List (Int × Int)) : Prop where
  ob : ∃ dx a t, H p = some (.ins C dx (pf n a t)) ∧ PL K H a as ∧ PL K H t ts
  n6 : n ≤ 6
  pa : Prs n as
  ac : Acy as
  pt : Prs n ts
  lt : ∀ q ∈ ts, q.1 < q.2
  sa : SrtPs as
  st : SrtPs ts
theorem plan_s {K : PySem.W.Frag} {C : Addr} {H H' : Hp} {p : Addr} {n : Nat} {as ts : List (Int × Int)} (h : PlanAt K C H p n as ts) (e : Same H H') : PlanAt K C H' p n as ts := by
  obtain ⟨⟨dx, a, t, h1, h2, h3⟩, n6, h4, h5, h6, h7, h8, h9⟩ := h
  exact ⟨⟨dx, a, t, e _ _ h1, pl_s h2 e, pl_s h3 e⟩, n6, h4, h5, h6, h7, h8, h9⟩
theorem prs_perm {n : Int} {ps qs : List (Int × Int)} (h : Prs n ps) (e : qs.Perm ps) : Prs n qs :=
  ⟨e.nodup_iff.mpr h.1, by rw [e.length_eq]; exact h.2.1, fun p hp => h.2.2 p (e.mem_iff.mp hp)⟩
theorem acy_perm {ps qs : List (Int × Int)} (h : Acy ps) (e : qs.Perm ps) : Acy qs := let ⟨r, hr⟩ := h; ⟨r, fun p hp => hr p (e.mem_iff.mp hp)⟩
/-- the pair that a value is in a heap -/
def prV (H : Hp) : V → Int × Int
  | .ref t => match H t with
    | some (.tup [.int i, .int j]) => (i, j)
    | _ => (0, 0)
  | _ => (0, 0)
theorem prV_eq {H : Hp} {t : Addr} {i j : Int} (h : H t = some (.tup [.int i, .int j])) : prV H (.ref t) = (i, j) := by
  unfold prV
  simp only [h]
/-- __init__ of a fresh Plan -/
def spInit (K : PySem.W.Frag) (C : Addr) : Sp := fun vs H Q _ => ∃ (p dx a t : Addr) (n : Nat) (as ts : List (Int × Int)), vs = [.ref p, .int n, .ref a, .ref t] ∧ H p = some (.ins C dx []) ∧ PL K H a as ∧ PA2 K H t ts ∧
  n ≤ 6 ∧ Prs n as ∧ Acy as ∧ Prs n ts ∧ (∀ q ∈ ts, q.1 < q.2) ∧
  ∀ H' as' ts', (∀ b o, b ≠ p → H b = some o → H' b = some o) → SortOf as as' → SortOf ts ts' → PlanAt K C H' p n as' ts' → Q .non H'
/-- facts of the class -/
structure PlC (K : PySem.W.Frag) (mg : Str → Option Value) (C : Addr) : Prop where
  cl : Cls K C
  nS : NoAttr K C "_size"
  nA : NoAttr K C "_arrows"
  nT : NoAttr K C "_ties"
  mgC : mg "Plan" = some (.ref C)
/-- [(i, j) for i, j in pairs], all tuples new, sorted -/
theorem sort_pairs {K : PySem.W.Frag} {H2 : Hp} {xs ys : List V} {ps : List (Int × Int)} (hl : xs.length = ps.length)
    (h : ∀ (i : Nat) (x : V), xs[i]? = some x → ∃ (t : Addr) (p : Int × Int), x = V.ref t ∧ ps[i]? = some p ∧ H2 t = some (.tup [.int p.1, .int p.2])) (s : SrtO.Srtd (ltP (prV H2)) ys) (b : SrtO.Stb (ltP (prV H2)) ys xs) :
    SortOf ps (ys.map (prV H2)) ∧ DpAll K H2 ys ((ys.map (prV H2)).map dP) := by
  have e : xs.map (prV H2) = ps := by
    refine List.ext_getElem? fun i => ?_
    rw [List.getElem?_map]
    cases hx : xs[i]? with
    | none =>
      have : ps[i]? = none := by
        rw [List.getElem?_eq_none_iff] at hx ⊢
        omega
      rw [this]; rfl
    | some x =>
      obtain ⟨t, p, rfl, hp, ht⟩ := h i x hx
      rw [hp]
      show some (prV H2 (.ref t)) = some p
      rw [prV_eq ht]
  refine ⟨⟨?_, ?_⟩, ?_⟩
  · rw [← e]
    exact b.perm.map _
  · rw [List.pairwise_map]
    exact s
  · have all : ∀ y ∈ ys, ∃ (t : Addr) (p : Int × Int), y = V.ref t ∧ H2 t = some (.tup [.int p.1, .int p.2]) := fun y hy => by
      obtain ⟨i, hi⟩ := List.getElem?_of_mem (b.perm.mem_iff.mp hy)
      obtain ⟨t, p, e1, _, e2⟩ := h i y hi
      exact ⟨t, p, e1, e2⟩
    clear s b e h hl
    induction ys with
    | nil => exact .nil
    | cons y ys ih =>
      obtain ⟨t, p, rfl, ht⟩ := all y (List.mem_cons_self ..)
      refine .cons ?_ (ih fun z hz => all z (List.mem_cons_of_mem _ hz))
      rw [prV_eq ht]
      exact dP_mk (st_of ht)

/-! what is no object stays where only the object changes -/
section
variable {K : PySem.W.Frag} {Ga Gb : Hp} {p C' dx' : Addr} {fs : List (Str × V)}
theorem obj_rd (hp : Ga p = some (.ins C' dx' fs)) (kp : ∀ b o, b ≠ p → Ga b = some o → Gb b = some o) {c : Addr} {u : HO} (nu : ∀ C' dx' fs, u ≠ .ins C' dx' fs) (h : Rd Ga c u) : Rd Gb c u := by
  rcases h with h | ⟨o, h⟩
  · exact .inl (kp _ _ (fun e => by rw [e, hp] at h; exact nu _ _ _ (Option.some.inj h).symm) h)
  · exact .inr ⟨o, kp _ _ (fun e => by rw [e, hp] at h; cases h) h⟩
theorem obj_l (hp : Ga p = some (.ins C' dx' fs)) (kp : ∀ b o, b ≠ p → Ga b = some o → Gb b = some o) {c : Addr} {ys : List V} (h : SqL K Ga c ys) : SqL K Gb c ys := h.elim (fun h => .inl (obj_rd hp kp (fun _ _ _ e => nomatch e) h)) .inr
theorem obj_t (hp : Ga p = some (.ins C' dx' fs)) (kp : ∀ b o, b ≠ p → Ga b = some o → Gb b = some o) {c : Addr} {ys : List V} (h : SqT K Ga c ys) : SqT K Gb c ys := h.elim (fun h => .inl (obj_rd hp kp (fun _ _ _ e => nomatch e) h)) .inr
theorem obj_d (hp : Ga p = some (.ins C' dx' fs)) (kp : ∀ b o, b ≠ p → Ga b = some o → Gb b = some o) : ∀ {ps : List (Int × Int)} {xs : List V}, DpAll K Ga xs (ps.map dP) → DpAll K Gb xs (ps.map dP)
  | [], _, h => by cases h; exact .nil
  | z :: zs, _, h => by
    cases h with
    | cons g1 g2 =>
      obtain ⟨t, rfl, ht⟩ := dP_inv g1
      exact .cons (dP_mk (obj_t hp kp ht)) (obj_d hp kp g2)
theorem obj_pl (hp : Ga p = some (.ins C' dx' fs)) (kp : ∀ b o, b ≠ p → Ga b = some o → Gb b = some o) {b : Addr} {ps : List (Int × Int)} (h : PL K Ga b ps) : PL K Gb b ps := let ⟨xs, h1, h2⟩ := h; ⟨xs, obj_l hp kp h1, obj_d hp kp h2⟩
theorem obj_pa2 (hp : Ga p = some (.ins C' dx' fs)) (kp : ∀ b o, b ≠ p → Ga b = some o → Gb b = some o) {b : Addr} {ps : List (Int × Int)} (h : PA2 K Ga b ps) : PA2 K Gb b ps := let ⟨xs, h1, h2⟩ := h; ⟨xs, h1.elim (fun h => .inl (obj_l hp kp h)) (fun h => .inr (obj_t hp kp h)), obj_d hp kp h2⟩
end
section
variable {P : Program} {w : World} {K : PySem.W.Frag} {mg : Str → Option Value} {base : Heap}
abbrev nInit : List Str := ["self", "size", "arrows", "ties", "start", "end", "low", "high"]
end
end Tk

namespace Tk
/-- along the pairs one comes from a to b -/
inductive Reach (ps : List (Int × Int)) (a : Int) : Int → Prop
  | refl : Reach ps a a
  | tail {b c : Int} : Reach ps a b → (b, c) ∈ ps → Reach ps a c
theorem Reach.trans {ps : List (Int × Int)} {a b c : Int} (h : Reach ps a b) (g : Reach ps b c) : Reach ps a c := by
  induction g with
  | refl => exact h
  | tail _ hp ih => exact .tail ih hp
theorem Reach.head {ps : List (Int × Int)} {a b c : Int} (h : (a, b) ∈ ps) (g : Reach ps b c) : Reach ps a c := Reach.trans (.tail .refl h) g
theorem Reach.sub {ps qs : List (Int × Int)} {a b : Int} (h : Reach ps a b) (s : ∀ p ∈ ps, p ∈ qs) : Reach qs a b := by
  induction h with
  | refl => exact .refl
  | tail _ hp ih => exact .tail ih (s _ hp)
def swp (p : Int × Int) : Int × Int := (p.2, p.1)
theorem Reach.swap {ps : List (Int × Int)} {a b : Int} (h : Reach ps a b) : Reach (ps.map swp) b a := by
  induction h with
  | refl => exact .refl
  | @tail b c _ hp ih =>
    have : (c, b) ∈ ps.map swp := List.mem_map.mpr ⟨(b, c), hp, rfl⟩
    exact Reach.head this ih
theorem swp_swp (ps : List (Int × Int)) : (ps.map swp).map swp = ps := by
  rw [List.map_map]
  have : swp ∘ swp = id := by funext p; rfl
  rw [this, List.map_id]
theorem reach_swap {ps : List (Int × Int)} {a b : Int} : Reach (ps.map swp) a b ↔ Reach ps b a :=
  ⟨fun h => by have := h.swap; rw [swp_swp] at this; exact this, Reach.swap⟩
/-- a search on its way -/
structure RInv (n : Nat) (ps : List (Int × Int)) (st : Int) (fo wa : List Int) : Prop where
  nd : fo.Nodup
  th : ∀ x ∈ fo, x ∈ things n
  ss : st ∈ fo
  re : ∀ x ∈ fo, Reach ps st x
  wf : ∀ x ∈ wa, x ∈ fo
  cl : ∀ x ∈ fo, x ∉ wa → ∀ p ∈ ps, p.1 = x → p.2 ∈ fo
def freshL (ps : List (Int × Int)) (fo : List Int) (x : Int) : List Int := (ps.filter fun p => decide (p.1 = x) && !decide (p.2 ∈ fo)).map (·.2)
theorem mem_freshL {ps : List (Int × Int)} {fo : List Int} {x y : Int} : y ∈ freshL ps fo x ↔ (x, y) ∈ ps ∧ y ∉ fo := by
  unfold freshL
  simp only [List.mem_map, List.mem_filter, Bool.and_eq_true, decide_eq_true_eq, Bool.not_eq_true', decide_eq_false_iff_not]
  constructor
  · rintro ⟨⟨a, b⟩, ⟨h1, h2, h3⟩, rfl⟩
    simp at h2
    subst h2
    exact ⟨h1, h3⟩
  · rintro ⟨h1, h2⟩
    exact ⟨(x, y), ⟨h1, rfl, h2⟩, rfl⟩
theorem freshL_nodup {ps : List (Int × Int)} (hn : ps.Nodup) (fo : List Int) (x : Int) : (freshL ps fo x).Nodup := by
  unfold freshL
  show List.Pairwise _ _
  rw [List.pairwise_map]
  have h : (ps.filter fun p => decide (p.1 = x) && !decide (p.2 ∈ fo)).Nodup := hn.filter _
  refine List.Pairwise.imp_of_mem (fun {a b} ha hb hne e => hne ?_) h
  have h1 := (List.mem_filter.mp ha).2
  have h2 := (List.mem_filter.mp hb).2
  simp at h1 h2
  exact Prod.ext (h1.1.trans h2.1.symm) e
theorem rinv_0 {n : Nat} {ps : List (Int × Int)} {st : Int} (h : st ∈ things n) : RInv n ps st [st] [st] :=
  ⟨by simp, (fun x hx => by simp at hx; exact hx ▸ h), by simp, (fun x hx => by simp at hx; rw [hx]; exact .refl), (fun x hx => hx), (fun x hx hw => absurd hx hw)⟩
theorem rinv_step {n : Nat} {ps : List (Int × Int)} {st x : Int} {fo wa : List Int} (h : RInv n ps st fo (wa ++ [x])) (hn : ps.Nodup) (hr : ∀ p ∈ ps, p.2 ∈ things n) :
    RInv n ps st (fo ++ freshL ps fo x) (wa ++ freshL ps fo x) := by
  have hx : x ∈ fo := h.wf x (by simp)
  refine ⟨?_, ?_, ?_, ?_, ?_, ?_⟩
  · rw [List.nodup_append]
    refine ⟨h.nd, freshL_nodup hn fo x, ?_⟩
    intro a ha b hb e
    subst e
    exact (mem_freshL.mp hb).2 ha
  · intro y hy
    rcases List.mem_append.mp hy with q | q
    · exact h.th y q
    · exact hr _ (mem_freshL.mp q).1
  · exact List.mem_append_left _ h.ss
  · intro y hy
    rcases List.mem_append.mp hy with q | q
    · exact h.re y q
    · exact .tail (h.re x hx) (mem_freshL.mp q).1
  · intro y hy
    rcases List.mem_append.mp hy with q | q
    · exact List.mem_append_left _ (h.wf y (List.mem_append_left _ q))
    · exact List.mem_append_right _ q
  · intro y hy hw p hp e
    have hw1 : y ∉ wa := fun q => hw (List.mem_append_left _ q)
    have hw2 : y ∉ freshL ps fo x := fun q => hw (List.mem_append_right _ q)
    have hy' : y ∈ fo := by
      rcases List.mem_append.mp hy with q | q
      · exact q
      · exact absurd q hw2
    by_cases c : y = x
    · by_cases d : p.2 ∈ fo
      · exact List.mem_append_left _ d
      · refine List.mem_append_right _ (mem_freshL.mpr ⟨?_, d⟩)
        have : (x, p.2) = p := Prod.ext (by show x = p.1; rw [e, c]) rfl
        rw [this]; exact hp
    · refine List.mem_append_left _ (h.cl y hy' (fun q => ?_) p hp e)
      rcases List.mem_append.mp q with q | q
      · exact hw1 q
      · simp at q
        exact c q
theorem rinv_end {n : Nat} {ps : List (Int × Int)} {st : Int} {fo : List Int} (h : RInv n ps st fo []) (y : Int) : y ∈ fo ↔ Reach ps st y := by
  refine ⟨h.re y, fun r => ?_⟩
  induction r with
  | refl => exact h.ss
  | tail _ hp ih => exact h.cl _ ih (by simp) _ hp rfl
theorem rinv_len {n : Nat} {ps : List (Int × Int)} {st : Int} {fo wa : List Int} (h : RInv n ps st fo wa) : fo.length ≤ n := by
  have := nodup_le h.nd (m := things n) (fun x hx => h.th x hx)
  rw [things_len] at this
  exact this
/-- two rising lists with the same members -/
theorem rise_eq : ∀ {l m : List Int}, l.Pairwise (· < ·) → m.Pairwise (· < ·) → (∀ x, x ∈ l ↔ x ∈ m) → l = m
  | [], [], _, _, _ => rfl
  | [], y :: m, _, _, h => absurd ((h y).mpr (List.mem_cons_self ..)) (by simp)
  | x :: l, [], _, _, h => absurd ((h x).mp (List.mem_cons_self ..)) (by simp)
  | x :: l, y :: m, hl, hm, h => by
    have hl' := List.pairwise_cons.mp hl
    have hm' := List.pairwise_cons.mp hm
    have e : x = y := by
      have h1 := (h x).mp (List.mem_cons_self ..)
      have h2 := (h y).mpr (List.mem_cons_self ..)
      rcases List.mem_cons.mp h1 with q | q
      · exact q
      · rcases List.mem_cons.mp h2 with r | r
        · exact r.symm
        · have a := hm'.1 x q
          have b := hl'.1 y r
          omega
    subst e
    refine congrArg (x :: ·) (rise_eq hl'.2 hm'.2 fun z => ?_)
    constructor
    · intro hz
      rcases List.mem_cons.mp ((h z).mp (List.mem_cons_of_mem _ hz)) with q | q
      · have := hl'.1 z hz
        omega
      · exact q
    · intro hz
      rcases List.mem_cons.mp ((h z).mpr (List.mem_cons_of_mem _ hz)) with q | q
      · have := hm'.1 z hz
        omega
      · exact q
theorem things_rise (n : Nat) : (things n).Pairwise (· < ·) := by
  unfold things
  rw [List.pairwise_map]
  exact List.Pairwise.imp (fun h => by simpa using h) (List.pairwise_lt_range (n := n))
theorem le_nodup_lt {l : List Int} (h : l.Pairwise (· ≤ ·)) (n : l.Nodup) : l.Pairwise (· < ·) := by
  have : l.Pairwise (fun a b => a ≤ b ∧ a ≠ b) := List.Pairwise.and h n
  exact this.imp fun h => by omega
/-- earlier in the order -/
theorem topo_reach {n : Nat} {ps : List (Int × Int)} {o : List Int} (h : Topo n ps o) (hr : ∀ p ∈ ps, p.1 ∈ things n ∧ p.2 ∈ things n) {a b : Int} (r : Reach ps a b) (ha : a ∈ things n) :
    b ∈ things n ∧ (a ≠ b → ∀ i j : Nat, o[i]? = some a → o[j]? = some b → i < j) := by
  induction r with
  | refl => exact ⟨ha, fun q => absurd rfl q⟩
  | @tail b c _ hp ih =>
    refine ⟨(hr _ hp).2, fun _ i j hi hj => ?_⟩
    obtain ⟨k, hk⟩ := List.getElem?_of_mem ((h.mem b).mpr ih.1)
    have kj := h.at_ _ hp k j hk hj
    by_cases e : a = b
    · subst e
      have ik : i = k := by
        have hi' := List.getElem?_eq_some_iff.mp hi
        have hk' := List.getElem?_eq_some_iff.mp hk
        obtain ⟨hi1, hi2⟩ := hi'
        obtain ⟨hk1, hk2⟩ := hk'
        exact (List.getElem_inj h.nd).mp (hi2.trans hk2.symm)
      omega
    · have := ih.2 e i k hi hk
      omega
theorem acy_irr {ps : List (Int × Int)} (h : Acy ps) {a b : Int} (r1 : Reach ps a b) (r2 : Reach ps b a) : a = b := by
  obtain ⟨r, hr⟩ := h
  have le : ∀ {x y : Int}, Reach ps x y → x = y ∨ r x < r y := by
    intro x y q
    induction q with
    | refl => exact .inl rfl
    | tail _ hp ih =>
      have := hr _ hp
      simp at this
      rcases ih with e | l
      · right; rw [e]; exact this
      · right; omega
  rcases le r1 with e | l1
  · exact e
  · rcases le r2 with e | l2
    · exact e.symm
    · omega
end Tk

namespace Tk
open PySem PySem.Spec PyProof.Rows L2
/-- tuples that stand for the first k pairs -/
def TA (G : Hp) (acc : List V) (ps : List (Int × Int)) (k : Nat) : Prop :=
  acc.length = k ∧ ∀ (i : Nat) (x : V), acc[i]? = some x → ∃ (t : Addr) (z : Int × Int), x = V.ref t ∧ ps[i]? = some z ∧ G t = some (.tup [.int z.1, .int z.2])
theorem ta_0 (G : Hp) (ps : List (Int × Int)) : TA G [] ps 0 := ⟨rfl, fun i x h => by simp at h⟩
theorem ta_put {G : Hp} {acc : List V} {ps : List (Int × Int)} {k : Nat} {D v : Addr} {z : Int × Int} {o : List V} (h : TA G acc ps k) (hD : G D = some (.lst o)) (hv : G v = none) (hz : ps[k]? = some z) :
    TA (upd (upd G v (.tup [.int z.1, .int z.2])) D (.lst (acc ++ [.ref v]))) (acc ++ [.ref v]) ps (k + 1) := by
  obtain ⟨hl, ha⟩ := h
  have nvD : v ≠ D := fun e => by rw [e, hD] at hv; cases hv
  refine ⟨by simp [hl], fun m x hm => ?_⟩
  by_cases c : m < acc.length
  · rw [List.getElem?_append_left c] at hm
    obtain ⟨t, w, e1, e2, e3⟩ := ha m x hm
    have n1 : t ≠ v := fun e => by rw [e, hv] at e3; cases e3
    have n2 : t ≠ D := fun e => by rw [e, hD] at e3; cases e3
    exact ⟨t, w, e1, e2, by rw [upd_ne n2, upd_ne n1]; exact e3⟩
  · rw [List.getElem?_append_right (by omega)] at hm
    have m0 : m - acc.length = 0 := by
      cases e : m - acc.length with
      | zero => rfl
      | succ k => rw [e] at hm; simp at hm
    rw [m0] at hm
    simp at hm
    have em : m = k := by omega
    subst em
    exact ⟨v, z, hm.symm, hz, by rw [upd_ne nvD, upd_same]⟩
theorem ta_dps {K : PySem.W.Frag} {G : Hp} : ∀ {acc : List V} {ps : List (Int × Int)}, TA G acc ps ps.length → DpAll K G acc (ps.map dP) := by
  intro acc ps
  induction ps generalizing acc with
  | nil =>
    intro h
    have : acc = [] := List.length_eq_zero_iff.mp h.1
    subst this
    exact .nil
  | cons p ps ih =>
    intro h
    cases acc with
    | nil => have := h.1; simp at this
    | cons x acc =>
      obtain ⟨t, z, e1, e2, e3⟩ := h.2 0 x (by simp)
      simp at e2
      subst e2
      rw [e1]
      refine .cons (dP_mk (st_of e3)) (ih ⟨by have := h.1; simpa using this, fun i y hy => ?_⟩)
      obtain ⟨t', z', f1, f2, f3⟩ := h.2 (i + 1) y (by simpa using hy)
      exact ⟨t', z', f1, by simpa using f2, f3⟩
theorem ta_s {G G' : Hp} {acc : List V} {ps : List (Int × Int)} {k : Nat} (h : TA G acc ps k) (e : Same G G') : TA G' acc ps k :=
  ⟨h.1, fun i x hx => let ⟨t, z, a, b, c⟩ := h.2 i x hx; ⟨t, z, a, b, e _ _ c⟩⟩

/-- a list, new or not, of pairs -/
abbrev PM (K : PySem.W.Frag) (H : Hp) (a : Addr) (ps : List (Int × Int)) : Prop := ∃ xs, H a = some (.lst xs) ∧ DpAll K H xs (ps.map dP)
theorem pm_pl {K : PySem.W.Frag} {H : Hp} {a : Addr} {ps : List (Int × Int)} (h : PM K H a ps) : PL K H a ps := let ⟨xs, h1, h2⟩ := h; ⟨xs, sl_of h1, h2⟩
theorem pm_s {K : PySem.W.Frag} {H H' : Hp} {a : Addr} {ps : List (Int × Int)} (h : PM K H a ps) (e : Same H H') : PM K H' a ps := let ⟨xs, h1, h2⟩ := h; ⟨xs, e _ _ h1, dps_s h2 e⟩
def spReached (K : PySem.W.Frag) : Sp := fun vs H Q _ => ∃ (n : Nat) (a : Addr) (st : Int) (ps : List (Int × Int)), vs = [.ref a, .int st] ∧ PL K H a ps ∧ n ≤ 60 ∧ Prs n ps ∧ st ∈ things n ∧
  ∀ (H' : Hp) (p : Addr) (fo : List Int), Same H H' → H p = none → H' p = some (.lst (fo.map V.int)) → fo.Nodup → (∀ x ∈ fo, x ∈ things n) → (∀ y, y ∈ fo ↔ Reach ps st y) → Q (.ref p) H'
def spArr (K : PySem.W.Frag) (C : Addr) : Sp := fun vs H Q _ => ∃ (p : Addr) (n : Nat) (as ts : List (Int × Int)), vs = [.ref p] ∧ PlanAt K C H p n as ts ∧ ∀ H' l, Same H H' → H l = none → PM K H' l as → Q (.ref l) H'
def spChkPlan (C : Addr) : Sp := fun vs H Q _ => ∃ (p dx : Addr) (fs : List (Str × V)), vs = [.ref p] ∧ H p = some (.ins C dx fs) ∧ Q .non H
section
variable {P : Program} {w : World} {K : PySem.W.Frag} {mg : Str → Option Value} {base : Heap}
abbrev nReach : List Str := ["pairs", "start", "found", "waiting", "thing", "fresh", "here", "end"]
end
end Tk

/-! plain mathematics of lots -/
namespace Tk
def turnL (ps : List (Int × Int)) : List (Int × Int) := ps.map swp
def both (ps : List (Int × Int)) : List (Int × Int) := ps ++ turnL ps
def withinL (ps : List (Int × Int)) (lot : List Int) : List (Int × Int) := ps.filter fun p => decide (p.1 ∈ lot) && decide (p.2 ∈ lot)
theorem mem_turnL {ps : List (Int × Int)} {x y : Int} : (x, y) ∈ turnL ps ↔ (y, x) ∈ ps := by
  unfold turnL
  rw [List.mem_map]
  constructor
  · rintro ⟨⟨a, b⟩, h, e⟩
    have e1 : b = x := congrArg Prod.fst e
    have e2 : a = y := congrArg Prod.snd e
    rw [← e1, ← e2]; exact h
  · intro h
    exact ⟨(y, x), h, rfl⟩
theorem mem_both {ps : List (Int × Int)} {x y : Int} : (x, y) ∈ both ps ↔ (x, y) ∈ ps ∨ (y, x) ∈ ps := by
  unfold both
  rw [List.mem_append, mem_turnL]
theorem mem_withinL {ps : List (Int × Int)} {lot : List Int} {x y : Int} : (x, y) ∈ withinL ps lot ↔ (x, y) ∈ ps ∧ x ∈ lot ∧ y ∈ lot := by
  unfold withinL
  simp
theorem both_sym {ps : List (Int × Int)} {a b : Int} (h : Reach (both ps) a b) : Reach (both ps) b a := by
  induction h with
  | refl => exact .refl
  | tail _ hp ih => exact Reach.head (mem_both.mpr ((mem_both.mp hp).symm)) ih
/-- who leads to whom within a lot, turned about -/
def upIn (as : List (Int × Int)) (lot : List Int) : List (Int × Int) := turnL (withinL as lot)
theorem mem_upIn {as : List (Int × Int)} {lot : List Int} {x y : Int} : (x, y) ∈ upIn as lot ↔ (y, x) ∈ as ∧ y ∈ lot ∧ x ∈ lot := by
  unfold upIn
  rw [mem_turnL, mem_withinL]
theorem reach_in {ps : List (Int × Int)} {lot : List Int} {a b : Int} (h : Reach ps a b) (ha : a ∈ lot) (s : ∀ p ∈ ps, p.2 ∈ lot) : b ∈ lot := by
  cases h with
  | refl => exact ha
  | tail _ hp => exact s _ hp
theorem up_in {as : List (Int × Int)} {lot : List Int} {a b : Int} (h : Reach (upIn as lot) a b) (ha : a ∈ lot) : b ∈ lot :=
  reach_in h ha fun ⟨x, y⟩ hp => (mem_upIn.mp hp).2.1
/-- all of the lot lead to x within it -/
def IsHead (as : List (Int × Int)) (lot : List Int) (x : Int) : Prop := ∀ y ∈ lot, Reach (upIn as lot) x y
noncomputable def headB (as : List (Int × Int)) (lot : List Int) (x : Int) : Bool := @decide (IsHead as lot x) (Classical.propDecidable _)
theorem headB_iff {as : List (Int × Int)} {lot : List Int} {x : Int} : headB as lot x = true ↔ IsHead as lot x := by
  unfold headB
  exact @decide_eq_true_iff _ (Classical.propDecidable _)
noncomputable def headsL (as : List (Int × Int)) (lot : List Int) : List Int := lot.filter (headB as lot)
/-- a search from x that ended has as many as the lot just if all of the lot are met -/
theorem met_all {ps : List (Int × Int)} {lot fo : List Int} {x : Int} (nl : lot.Nodup) (nf : fo.Nodup) (hf : ∀ y, y ∈ fo ↔ Reach ps x y) (inn : ∀ y, Reach ps x y → y ∈ lot) : fo.length = lot.length ↔ ∀ y ∈ lot, Reach ps x y := by
  constructor
  · intro e y hy
    refine (hf y).mp (Classical.byContradiction fun c => ?_)
    have := nodup_le (l := y :: fo) (m := lot) (List.nodup_cons.mpr ⟨c, nf⟩) (fun z hz => by
      rcases List.mem_cons.mp hz with q | q
      · exact q ▸ hy
      · exact inn z ((hf z).mp q))
    rw [List.length_cons] at this
    omega
  · intro h
    exact nodup_eq nf nl fun y => ⟨fun hy => inn y ((hf y).mp hy), fun hy => (hf y).mpr (h y hy)⟩
theorem le_lt {l : List Int} (h : l.Pairwise (· ≤ ·)) (n : l.Nodup) : l.Pairwise (· < ·) := by
  induction l with
  | nil => exact .nil
  | cons x l ih =>
    have h1 := List.pairwise_cons.mp h
    have n1 := List.nodup_cons.mp n
    refine List.pairwise_cons.mpr ⟨fun y hy => ?_, ih h1.2 n1.2⟩
    have a := h1.1 y hy
    have b : x ≠ y := fun e => n1.1 (e ▸ hy)
    omega
theorem lt_nd {l : List Int} (h : l.Pairwise (· < ·)) : l.Nodup := List.Pairwise.imp (fun {a b} c e => by omega) h
/-- sorted, it is the lot just if all of the lot are met -/
theorem met_sorted {ps : List (Int × Int)} {lot fo ns : List Int} {x : Int} (rl : lot.Pairwise (· < ·)) (nf : fo.Nodup) (hf : ∀ y, y ∈ fo ↔ Reach ps x y) (inn : ∀ y, Reach ps x y → y ∈ lot) (pm : ns.Perm fo) (so : ns.Pairwise (· ≤ ·)) : ns = lot ↔ ∀ y ∈ lot, Reach ps x y := by
  constructor
  · rintro rfl y hy
    exact (hf y).mp (pm.mem_iff.mp hy)
  · intro h
    refine rise_eq (le_lt so (pm.nodup_iff.mpr nf)) rl fun y => ?_
    rw [pm.mem_iff, hf]
    exact ⟨inn y, h y⟩
theorem reach_iff {ps qs : List (Int × Int)} {lot : List Int} {a b : Int} (ha : a ∈ lot) (sp : ∀ x y, x ∈ lot → ((x, y) ∈ ps ↔ (x, y) ∈ qs)) (inn : ∀ p ∈ qs, p.2 ∈ lot) : Reach ps a b ↔ Reach qs a b := by
  constructor
  · intro h
    induction h with
    | refl => exact .refl
    | tail _ hp ih => exact .tail ih ((sp _ _ (reach_in ih ha inn)).mp hp)
  · intro h
    induction h with
    | refl => exact .refl
    | tail g hp ih => exact .tail ih ((sp _ _ (reach_in g ha inn)).mpr hp)
/-- the law's pairs: from each to what leads to it and lies in the lot -/
def upLaw (as : List (Int × Int)) (lot : List Int) : List (Int × Int) := turnL (as.filter fun p => decide (p.1 ∈ lot))
theorem mem_upLaw {as : List (Int × Int)} {lot : List Int} {x y : Int} : (x, y) ∈ upLaw as lot ↔ (y, x) ∈ as ∧ y ∈ lot := by
  unfold upLaw
  rw [mem_turnL]
  simp
theorem up_law {as : List (Int × Int)} {lot : List Int} {a b : Int} (ha : a ∈ lot) : Reach (upLaw as lot) a b ↔ Reach (upIn as lot) a b :=
  reach_iff ha (fun x y hx => by rw [mem_upLaw, mem_upIn]; exact ⟨fun h => ⟨h.1, h.2, hx⟩, fun h => ⟨h.1, h.2.1⟩⟩) fun ⟨x, y⟩ hp => (mem_upIn.mp hp).2.1
def tieIn (ts : List (Int × Int)) (lot : List Int) : List (Int × Int) := both (withinL ts lot)
theorem mem_tieIn {ts : List (Int × Int)} {lot : List Int} {x y : Int} : (x, y) ∈ tieIn ts lot ↔ ((x, y) ∈ ts ∨ (y, x) ∈ ts) ∧ x ∈ lot ∧ y ∈ lot := by
  unfold tieIn
  rw [mem_both, mem_withinL, mem_withinL]
  constructor
  · rintro (h | h)
    · exact ⟨.inl h.1, h.2⟩
    · exact ⟨.inr h.1, h.2.2, h.2.1⟩
  · rintro ⟨h | h, hx, hy⟩
    · exact .inl ⟨h, hx, hy⟩
    · exact .inr ⟨h, hy, hx⟩
theorem tie_in {ts : List (Int × Int)} {lot : List Int} {a b : Int} (h : Reach (tieIn ts lot) a b) (ha : a ∈ lot) : b ∈ lot := reach_in h ha fun ⟨x, y⟩ hp => (mem_tieIn.mp hp).2.2
def tieLaw (ts : List (Int × Int)) (lot : List Int) : List (Int × Int) := (both ts).filter fun p => decide (p.2 ∈ lot)
theorem mem_tieLaw {ts : List (Int × Int)} {lot : List Int} {x y : Int} : (x, y) ∈ tieLaw ts lot ↔ ((x, y) ∈ ts ∨ (y, x) ∈ ts) ∧ y ∈ lot := by
  unfold tieLaw
  rw [List.mem_filter, mem_both]
  simp
theorem tie_law {ts : List (Int × Int)} {lot : List Int} {a b : Int} (ha : a ∈ lot) : Reach (tieLaw ts lot) a b ↔ Reach (tieIn ts lot) a b :=
  reach_iff ha (fun x y hx => by rw [mem_tieLaw, mem_tieIn]; exact ⟨fun h => ⟨h.1, hx, h.2⟩, fun h => ⟨h.1, h.2.2⟩⟩) fun ⟨x, y⟩ hp => (mem_tieIn.mp hp).2.2
def HangsP (ts : List (Int × Int)) : List Int → Prop
  | [] => True
  | x :: l => ∀ y ∈ x :: l, Reach (tieIn ts (x :: l)) x y
noncomputable def hangB (ts : List (Int × Int)) (lot : List Int) : Bool := @decide (HangsP ts lot) (Classical.propDecidable _)
theorem hangB_iff {ts : List (Int × Int)} {lot : List Int} : hangB ts lot = true ↔ HangsP ts lot := by
  unfold hangB
  exact @decide_eq_true_iff _ (Classical.propDecidable _)
/-- two heads of one lot are one -/
theorem up_rank {as : List (Int × Int)} {lot : List Int} {r : Int → Nat} (hr : ∀ p ∈ as, r p.1 < r p.2) {a b : Int} (h : Reach (upIn as lot) a b) : a = b ∨ r b < r a := by
  induction h with
  | refl => exact .inl rfl
  | tail _ hp ih =>
    have := hr _ (mem_upIn.mp hp).1
    rcases ih with e | e
    · subst e; exact .inr this
    · exact .inr (Nat.lt_trans this e)
theorem head_one {as : List (Int × Int)} {lot : List Int} (ac : Acy as) {x y : Int} (hx : x ∈ lot) (hy : y ∈ lot) (h1 : IsHead as lot x) (h2 : IsHead as lot y) : x = y := by
  obtain ⟨r, hr⟩ := ac
  rcases up_rank hr (h1 y hy) with e | e
  · exact e
  · rcases up_rank hr (h2 x hx) with e2 | e2
    · exact e2.symm
    · omega
theorem filter_one {l : List Int} {f : Int → Bool} (nd : l.Nodup) (h : ∀ x ∈ l, ∀ y ∈ l, f x = true → f y = true → x = y) : (l.filter f).length ≤ 1 := by
  have n := nd.filter f
  cases e : l.filter f with
  | nil => simp
  | cons a t =>
    cases t with
    | nil => simp
    | cons b t =>
      rw [e] at n
      have ha : a ∈ l.filter f := by rw [e]; simp
      have hb : b ∈ l.filter f := by rw [e]; simp
      have := h a (List.mem_filter.mp ha).1 b (List.mem_filter.mp hb).1 (List.mem_filter.mp ha).2 (List.mem_filter.mp hb).2
      exact absurd this (by have := (List.nodup_cons.mp n).1; simp at this; exact this.1)
theorem heads_one {as : List (Int × Int)} {lot : List Int} (ac : Acy as) (nd : lot.Nodup) : (headsL as lot).length ≤ 1 :=
  filter_one nd fun _ hx _ hy h1 h2 => head_one ac hx hy (headB_iff.mp h1) (headB_iff.mp h2)
/-- the first of a list for which f holds -/
def firstOf (f : Int → Bool) (l : List Int) : Option Int := (l.filter f).head?
/-! searches with a place behind which all is done -/
structure LInv (n : Nat) (ps : List (Int × Int)) (st : Int) (fo : List Int) (k : Nat) : Prop where
  nd : fo.Nodup
  th : ∀ x ∈ fo, x ∈ things n
  ss : st ∈ fo
  re : ∀ x ∈ fo, Reach ps st x
  cl : ∀ (i : Nat) (x : Int), i < k → fo[i]? = some x → ∀ p ∈ ps, p.1 = x → p.2 ∈ fo
  kl : k ≤ fo.length
theorem linv_0 {n : Nat} {ps : List (Int × Int)} {st : Int} (h : st ∈ things n) : LInv n ps st [st] 0 :=
  ⟨by simp, (fun x hx => by simp at hx; exact hx ▸ h), by simp, (fun x hx => by simp at hx; rw [hx]; exact .refl), (fun i x hi => by omega), by simp⟩
theorem linv_len {n : Nat} {ps : List (Int × Int)} {st : Int} {fo : List Int} {k : Nat} (h : LInv n ps st fo k) : fo.length ≤ n := by
  have := nodup_le h.nd (m := things n) (fun x hx => h.th x hx)
  rw [things_len] at this
  exact this
theorem linv_more {n : Nat} {ps : List (Int × Int)} {st x : Int} {fo fr : List Int} {k : Nat} (h : LInv n ps st fo k) (hx : fo[k]? = some x) (nd : fr.Nodup) (hr : ∀ p ∈ ps, p.2 ∈ things n) (hf : ∀ y, y ∈ fr ↔ (x, y) ∈ ps ∧ y ∉ fo) : LInv n ps st (fo ++ fr) (k + 1) := by
  have xm : x ∈ fo := List.mem_of_getElem? hx
  have kl : k < fo.length := (List.getElem?_eq_some_iff.mp hx).1
  refine ⟨?_, ?_, List.mem_append_left _ h.ss, ?_, ?_, ?_⟩
  · rw [List.nodup_append]
    exact ⟨h.nd, nd, fun a ha b hb e => ((hf b).mp hb).2 (e ▸ ha)⟩
  · intro y hy
    rcases List.mem_append.mp hy with q | q
    · exact h.th y q
    · exact hr _ ((hf y).mp q).1
  · intro y hy
    rcases List.mem_append.mp hy with q | q
    · exact h.re y q
    · exact .tail (h.re x xm) ((hf y).mp q).1
  · intro i y hi hy p hp e
    rw [List.getElem?_append_left (by omega)] at hy
    by_cases c : i = k
    · subst c
      rw [hx] at hy
      have exy : x = y := Option.some.inj hy
      by_cases d : p.2 ∈ fo
      · exact List.mem_append_left _ d
      · refine List.mem_append_right _ ((hf p.2).mpr ⟨?_, d⟩)
        have : (x, p.2) = p := Prod.ext (by show x = p.1; rw [e, exy]) rfl
        rw [this]; exact hp
    · exact List.mem_append_left _ (h.cl i y (by omega) hy p hp e)
  · rw [List.length_append]; omega
theorem linv_end {n : Nat} {ps : List (Int × Int)} {st : Int} {fo : List Int} {k : Nat} (h : LInv n ps st fo k) (hk : ¬ k < fo.length) (y : Int) : y ∈ fo ↔ Reach ps st y := by
  refine ⟨h.re y, fun r => ?_⟩
  induction r with
  | refl => exact h.ss
  | tail _ hp ih =>
    obtain ⟨i, hi⟩ := List.getElem?_of_mem ih
    have : i < fo.length := (List.getElem?_eq_some_iff.mp hi).1
    exact h.cl i _ (by omega) hi _ hp rfl
/-- the same, one by one: what is put while the ends of x are gone through -/
structure HInv (n : Nat) (ps : List (Int × Int)) (st x : Int) (fo0 fo : List Int) (dn : List (Int × Int)) : Prop where
  pre : fo0 <+: fo
  nd : fo.Nodup
  th : ∀ y ∈ fo, y ∈ things n
  re : ∀ y ∈ fo, Reach ps st y
  cl : ∀ p ∈ dn, p.1 = x → p.2 ∈ fo
theorem hinv_0 {n : Nat} {ps : List (Int × Int)} {st x : Int} {fo : List Int} {k : Nat} (h : LInv n ps st fo k) : HInv n ps st x fo fo [] := ⟨List.prefix_refl _, h.nd, h.th, h.re, fun _ hp => nomatch hp⟩
theorem hinv_put {n : Nat} {ps : List (Int × Int)} {st x y : Int} {fo0 fo : List Int} {dn : List (Int × Int)} (h : HInv n ps st x fo0 fo dn) (hx : Reach ps st x) (hp : (x, y) ∈ ps) (hy : y ∈ things n) (nf : y ∉ fo) : HInv n ps st x fo0 (fo ++ [y]) (dn ++ [(x, y)]) := by
  refine ⟨h.pre.trans (List.prefix_append _ _), ?_, ?_, ?_, ?_⟩
  · rw [List.nodup_append]
    exact ⟨h.nd, by simp, fun a ha b hb e => nf (by rw [← List.mem_singleton.mp hb, ← e]; exact ha)⟩
  · intro z hz
    rcases List.mem_append.mp hz with q | q
    · exact h.th z q
    · rw [List.mem_singleton.mp q]; exact hy
  · intro z hz
    rcases List.mem_append.mp hz with q | q
    · exact h.re z q
    · rw [List.mem_singleton.mp q]; exact .tail hx hp
  · intro p hp' e
    rcases List.mem_append.mp hp' with q | q
    · exact List.mem_append_left _ (h.cl p q e)
    · rw [List.mem_singleton.mp q]; simp
theorem hinv_no {n : Nat} {ps : List (Int × Int)} {st x : Int} {fo0 fo : List Int} {dn : List (Int × Int)} (h : HInv n ps st x fo0 fo dn) {p : Int × Int} (c : p.1 = x → p.2 ∈ fo) : HInv n ps st x fo0 fo (dn ++ [p]) :=
  ⟨h.pre, h.nd, h.th, h.re, fun q hq e => by
    rcases List.mem_append.mp hq with z | z
    · exact h.cl q z e
    · rw [List.mem_singleton.mp z] at e ⊢; exact c e⟩
theorem pre_at {fo0 fo : List Int} (h : fo0 <+: fo) {i : Nat} {x : Int} (e : fo0[i]? = some x) : fo[i]? = some x := by
  obtain ⟨t, rfl⟩ := h
  rw [List.getElem?_append_left (List.getElem?_eq_some_iff.mp e).1]
  exact e
theorem hinv_end {n : Nat} {ps : List (Int × Int)} {st x : Int} {fo0 fo : List Int} {dn : List (Int × Int)} {k : Nat} (h0 : LInv n ps st fo0 k) (hx : fo0[k]? = some x) (h : HInv n ps st x fo0 fo dn) (full : ∀ p ∈ ps, p.1 = x → p ∈ dn) : LInv n ps st fo (k + 1) := by
  have kl : k < fo0.length := (List.getElem?_eq_some_iff.mp hx).1
  refine ⟨h.nd, h.th, h.pre.subset h0.ss, h.re, ?_, Nat.le_trans kl h.pre.length_le⟩
  intro i y hi hy p hp e
  by_cases c : i = k
  · subst c
    rw [pre_at h.pre hx] at hy
    have exy : x = y := Option.some.inj hy
    exact h.cl p (full p hp (by rw [e, exy])) (by rw [e, exy])
  · have hi0 : i < fo0.length := by omega
    have e0 : fo0[i]? = some fo0[i] := List.getElem?_eq_getElem hi0
    rw [pre_at h.pre e0] at hy
    exact h.pre.subset (h0.cl i y (by omega) (by rw [e0]; exact hy) p hp e)
/-! all lots -/
def Lot (n : Nat) (l : List Int) : Prop := l.Pairwise (· < ·) ∧ ∀ x ∈ l, x ∈ things n
def allLots : Nat → List (List Int)
  | 0 => [[]]
  | k + 1 => allLots k ++ (allLots k).map (· ++ [Int.ofNat k])
theorem allLots_len : ∀ n, (allLots n).length = 2 ^ n
  | 0 => rfl
  | k + 1 => by
    unfold allLots
    rw [List.length_append, List.length_map, allLots_len k, Nat.pow_succ]
    omega
theorem lot_up {k : Nat} {l : List Int} (h : Lot k l) : Lot (k + 1) l := ⟨h.1, fun x hx => by
  have := mem_things.mp (h.2 x hx)
  exact mem_things.mpr ⟨this.1, by omega⟩⟩
theorem lot_put {k : Nat} {l : List Int} (h : Lot k l) : Lot (k + 1) (l ++ [Int.ofNat k]) := by
  refine ⟨List.pairwise_append.mpr ⟨h.1, by simp, fun a ha b hb => ?_⟩, fun x hx => ?_⟩
  · rw [List.mem_singleton.mp hb]
    exact (mem_things.mp (h.2 a ha)).2
  · rcases List.mem_append.mp hx with q | q
    · exact (lot_up h).2 x q
    · rw [List.mem_singleton.mp q]
      exact mem_things.mpr ⟨Int.ofNat_nonneg k, by show (k : Int) < ((k + 1 : Nat) : Int); omega⟩
theorem allLots_lot : ∀ {n : Nat} {l : List Int}, l ∈ allLots n → Lot n l
  | 0, l, h => by
    unfold allLots at h
    rw [List.mem_singleton.mp h]
    exact ⟨.nil, fun _ hx => nomatch hx⟩
  | k + 1, l, h => by
    unfold allLots at h
    rcases List.mem_append.mp h with q | q
    · exact lot_up (allLots_lot q)
    · obtain ⟨m, hm, rfl⟩ := List.mem_map.mp q
      exact lot_put (allLots_lot hm)
theorem lot_allLots : ∀ {n : Nat} {l : List Int}, Lot n l → l ∈ allLots n
  | 0, l, h => by
    cases l with
    | nil => exact List.mem_singleton.mpr rfl
    | cons x l =>
      have := mem_things.mp (h.2 x (List.mem_cons_self ..))
      omega
  | k + 1, l, h => by
    unfold allLots
    rcases List.eq_nil_or_concat l with rfl | ⟨m, x, rfl⟩
    · exact List.mem_append_left _ (lot_allLots ⟨.nil, fun _ hx => nomatch hx⟩)
    · rw [List.concat_eq_append] at h ⊢
      obtain ⟨a, b, c⟩ := List.pairwise_append.mp h.1
      have hx := mem_things.mp (h.2 x (by simp))
      have hm : ∀ y ∈ m, y ∈ things k := fun y hy => by
        have h1 := mem_things.mp (h.2 y (List.mem_append_left _ hy))
        have h2 := c y hy x (by simp)
        exact mem_things.mpr ⟨h1.1, by omega⟩
      by_cases e : x = Int.ofNat k
      · refine List.mem_append_right _ (List.mem_map.mpr ⟨m, lot_allLots ⟨a, hm⟩, by rw [e]⟩)
      · refine List.mem_append_left _ (lot_allLots ⟨h.1, fun y hy => ?_⟩)
        rcases List.mem_append.mp hy with q | q
        · exact hm y q
        · rw [List.mem_singleton.mp q]
          have e' : ¬ x = (k : Int) := e
          exact mem_things.mpr ⟨hx.1, by omega⟩
theorem mem_allLots {n : Nat} {l : List Int} : l ∈ allLots n ↔ Lot n l := ⟨allLots_lot, lot_allLots⟩
theorem lot_len {n : Nat} {l : List Int} (h : Lot n l) : l.length ≤ n := by
  have := nodup_le (lt_nd h.1) (m := things n) h.2
  rw [things_len] at this
  exact this
end Tk

namespace Tk
open PySem PySem.Spec PyProof.Rows L2
theorem units65 {k : Nat} {A : Around} (r : Room k A) : A.units + 65 < cLine := by have := r.un; omega
/-! lists of lists -/
def LsAt (G : Hp) : List V → List (List Int) → Prop
  | [], [] => True
  | x :: xs, o :: os => (∃ r : Addr, x = .ref r ∧ G r = some (.lst (o.map V.int))) ∧ LsAt G xs os
  | _, _ => False
theorem ls_s {G G' : Hp} (e : Same G G') : ∀ {xs : List V} {os : List (List Int)}, LsAt G xs os → LsAt G' xs os
  | [], [], _ => trivial
  | x :: xs, o :: os, ⟨⟨r, h1, h2⟩, h3⟩ => ⟨⟨r, h1, e _ _ h2⟩, ls_s e h3⟩
  | [], _ :: _, h => h.elim
  | _ :: _, [], h => h.elim
theorem ls_app {G : Hp} : ∀ {xs ys : List V} {os ps : List (List Int)}, LsAt G xs os → LsAt G ys ps → LsAt G (xs ++ ys) (os ++ ps)
  | [], _, [], _, _, h => h
  | x :: xs, _, o :: os, _, ⟨h1, h2⟩, h => ⟨h1, ls_app h2 h⟩
  | [], _, _ :: _, _, h, _ => h.elim
  | _ :: _, _, [], _, h, _ => h.elim
theorem ls_len {G : Hp} : ∀ {xs : List V} {os : List (List Int)}, LsAt G xs os → xs.length = os.length
  | [], [], _ => rfl
  | x :: xs, o :: os, ⟨_, h2⟩ => by simp [ls_len h2]
  | [], _ :: _, h => h.elim
  | _ :: _, [], h => h.elim
theorem ls_at {G : Hp} : ∀ {xs : List V} {os : List (List Int)}, LsAt G xs os → ∀ {i : Nat} {x : V}, xs[i]? = some x → ∃ (o : List Int) (r : Addr), os[i]? = some o ∧ x = .ref r ∧ G r = some (.lst (o.map V.int))
  | [], [], _, _, _, h => by simp at h
  | x :: xs, o :: os, ⟨⟨r, h1, h2⟩, h3⟩, i, y, h => by
    cases i with
    | zero => simp at h; subst h; exact ⟨o, r, by simp, h1, h2⟩
    | succ i => simp at h; simpa using ls_at h3 h
  | [], _ :: _, h, _, _, _ => h.elim
  | _ :: _, [], h, _, _, _ => h.elim
theorem ls_mut {G : Hp} {D : Addr} {u : HO} : ∀ {xs : List V} {os : List (List Int)}, LsAt G xs os → (∀ x ∈ xs, x ≠ .ref D) → LsAt (upd G D u) xs os
  | [], [], _, _ => trivial
  | x :: xs, o :: os, ⟨⟨r, h1, h2⟩, h3⟩, n => ⟨⟨r, h1, by
      have : r ≠ D := fun e => n x (List.mem_cons_self ..) (by rw [h1, e])
      rw [upd_ne this]; exact h2⟩, ls_mut h3 fun y hy => n y (List.mem_cons_of_mem _ hy)⟩
  | [], _ :: _, h, _ => h.elim
  | _ :: _, [], h, _ => h.elim
theorem ls_dp {K : PySem.W.Frag} {G : Hp} : ∀ {xs : List V} {os : List (List Int)}, LsAt G xs os → DpAll K G xs (os.map fun o => PyData.list (o.map .int))
  | [], [], _ => .nil
  | x :: xs, o :: os, ⟨⟨r, h1, h2⟩, h3⟩ => by
    rw [h1]
    exact .cons (.lst (sl_of h2) (dps_ints o)) (ls_dp h3)
  | [], _ :: _, h => h.elim
  | _ :: _, [], h => h.elim
/-- the lists stand at places that are new -/
def FreshL (H : Hp) (xs : List V) : Prop := xs.Nodup ∧ ∀ x ∈ xs, ∃ r : Addr, x = .ref r ∧ H r = none
theorem things_succ (k : Nat) : things (k + 1) = things k ++ [Int.ofNat k] := by
  unfold things
  rw [List.range_succ, List.map_append]; rfl
theorem any_pairs {x y : Int} : ∀ {ps : List (Int × Int)}, ((ps.map dP).any fun z => PyData.eqv z (dP (x, y))) = decide ((x, y) ∈ ps)
  | [] => by simp
  | p :: ps => by
    have ih := any_pairs (x := x) (y := y) (ps := ps)
    rw [List.map_cons, List.any_cons, ih]
    have e : PyData.eqv (dP p) (dP (x, y)) = decide ((x, y) = p) := by
      obtain ⟨u, v⟩ := p
      simp [dP, PyData.eqv, PyData.eqvAll]
      by_cases c1 : u = x
      · subst c1
        by_cases c2 : v = y
        · subst c2; simp
        · have : ¬ y = v := fun e => c2 e.symm
          simp [c2, this]
      · have : ¬ x = u := fun e => c1 e.symm
        simp [c1, this]
    rw [e]
    simp [List.mem_cons]
theorem shaped_pair (p : Int × Int) : SeqAt.shaped (dP p) = true := by
  simp [SeqAt.shaped, dP, PyData.canLay0, PyData.canLayAll0, PyData.depth, PyData.depthAll]
theorem plain_pairs : ∀ ps : List (Int × Int), PyData.canLayAll0 (ps.map dP) = true
  | [] => rfl
  | p :: ps => by
    show (PyData.canLay0 (dP p) && PyData.canLayAll0 (ps.map dP)) = true
    rw [plain_pairs ps]; rfl
theorem depth_pairs : ∀ ps : List (Int × Int), PyData.depthAll (ps.map dP) ≤ 3
  | [] => by simp [PyData.depthAll]
  | p :: ps => by
    have h := depth_pairs ps
    have h2 : PyData.depth (dP p) ≤ 3 := by simp [dP, PyData.depth, PyData.depthAll]
    simp only [List.map_cons, PyData.depthAll]
    omega
theorem shaped_pairs (ps : List (Int × Int)) : SeqAt.shaped (.list (ps.map dP)) = true := by
  unfold SeqAt.shaped
  rw [Bool.and_eq_true_iff]
  refine ⟨by rw [PyData.canLay0]; exact plain_pairs ps, decide_eq_true ?_⟩
  have := depth_pairs ps
  rw [PyData.depth]
  omega
theorem prs_mk {n : Nat} {ps : List (Int × Int)} (n6 : n ≤ 6) (nd : ps.Nodup) (h : ∀ p ∈ ps, 0 ≤ p.1 ∧ p.1 < n ∧ 0 ≤ p.2 ∧ p.2 < n ∧ p.1 ≠ p.2) : Prs n ps := by
  refine ⟨nd, ?_, h⟩
  have h1 := nodup_le nd (m := (things n).flatMap fun x => (things n).map fun y => (x, y)) (fun p hp => by
    obtain ⟨a, b, c, d, _⟩ := h p hp
    exact List.mem_flatMap.mpr ⟨p.1, mem_things.mpr ⟨a, b⟩, List.mem_map.mpr ⟨p.2, mem_things.mpr ⟨c, d⟩, rfl⟩⟩)
  have h2 : ∀ l : List Int, (l.flatMap fun x => (things n).map fun y => (x, y)).length = l.length * n := by
    intro l
    induction l with
    | nil => simp
    | cons x l ih =>
      rw [List.flatMap_cons, List.length_append, ih, List.length_map, things_len, List.length_cons, Nat.succ_mul]
      omega
  rw [h2, things_len] at h1
  have h3 : n * n ≤ 6 * 6 := Nat.mul_le_mul n6 n6
  omega
theorem prs_both {n : Nat} {ts : List (Int × Int)} (n6 : n ≤ 6) (h : Prs n ts) (lt : ∀ p ∈ ts, p.1 < p.2) : Prs n (both ts) := by
  refine prs_mk n6 ?_ ?_
  · unfold both
    rw [List.nodup_append]
    refine ⟨h.1, ?_, ?_⟩
    · unfold turnL
      show List.Pairwise _ _
      rw [List.pairwise_map]
      refine List.Pairwise.imp (fun {a b} hne e => hne ?_) h.1
      have e' := congrArg swp e
      exact e'
    · intro a ha b hb e
      obtain ⟨c, hc, rfl⟩ := List.mem_map.mp hb
      subst e
      have h1 := lt _ ha
      have h2 := lt _ hc
      simp [swp] at h1
      omega
  · intro p hp
    rcases mem_both.mp hp with c | c
    · exact h.2.2 p c
    · obtain ⟨a1, a2, a3, a4, a5⟩ := h.2.2 _ c
      exact ⟨a3, a4, a1, a2, fun e => a5 e.symm⟩
def spTies (K : PySem.W.Frag) (C : Addr) : Sp := fun vs H Q _ => ∃ (p : Addr) (n : Nat) (as ts : List (Int × Int)), vs = [.ref p] ∧ PlanAt K C H p n as ts ∧ ∀ H' l, Same H H' → H l = none → PM K H' l ts → Q (.ref l) H'
section
variable {P : Program} {w : World} {K : PySem.W.Frag} {mg : Str → Option Value} {base : Heap}
end
end Tk

namespace Tk
open PySem PySem.Spec PyProof.Rows L2
theorem prs_sub {n : Int} {ps qs : List (Int × Int)} (h : Prs n ps) (s : qs.Sublist ps) : Prs n qs := ⟨h.1.sublist s, Nat.lt_of_le_of_lt s.length_le h.2.1, fun p hp => h.2.2 p (s.subset hp)⟩
theorem prs_turn {n : Int} {ps : List (Int × Int)} (h : Prs n ps) : Prs n (turnL ps) := by
  refine ⟨?_, by unfold turnL; rw [List.length_map]; exact h.2.1, fun p hp => ?_⟩
  · unfold turnL
    show List.Pairwise _ _
    rw [List.pairwise_map]
    refine List.Pairwise.imp (fun {a b} hne e => hne ?_) h.1
    have e' := congrArg swp e
    exact e'
  · obtain ⟨q, hq, rfl⟩ := List.mem_map.mp hp
    obtain ⟨a1, a2, a3, a4, a5⟩ := h.2.2 q hq
    exact ⟨a3, a4, a1, a2, fun e => a5 e.symm⟩
/-- ints read off values, where all are ints -/
def EachV (K : PySem.W.Frag) (H : Hp) : List V → List (Option Int) → Prop
  | [], [] => True
  | x :: xs, o :: os => IntV K H x o ∧ EachV K H xs os
  | _, _ => False
theorem each_len {K : PySem.W.Frag} {H : Hp} : ∀ {xs : List V} {os : List (Option Int)}, EachV K H xs os → xs.length = os.length
  | [], [], _ => rfl
  | x :: xs, o :: os, ⟨_, h⟩ => by simp [each_len h]
  | [], _ :: _, h => h.elim
  | _ :: _, [], h => h.elim
theorem each_at {K : PySem.W.Frag} {H : Hp} : ∀ {xs : List V} {os : List (Option Int)}, EachV K H xs os → ∀ {i : Nat} {x : V}, xs[i]? = some x → ∃ o, os[i]? = some o ∧ IntV K H x o
  | [], [], _, _, _, h => by simp at h
  | x :: xs, o :: os, ⟨h1, h2⟩, i, y, h => by
    cases i with
    | zero => simp at h; subst h; exact ⟨o, by simp, h1⟩
    | succ i => simp at h; simpa using each_at h2 h
  | [], _ :: _, h, _, _, _ => h.elim
  | _ :: _, [], h, _, _, _ => h.elim
theorem each_s {K : PySem.W.Frag} {H H' : Hp} (e : Same H H') : ∀ {xs : List V} {os : List (Option Int)}, EachV K H xs os → EachV K H' xs os
  | [], [], _ => trivial
  | x :: xs, o :: os, ⟨h1, h2⟩ => ⟨intv_s h1 e, each_s e h2⟩
  | [], _ :: _, h => h.elim
  | _ :: _, [], h => h.elim
theorem each_ints {K : PySem.W.Frag} {H : Hp} : ∀ (l : List Int), EachV K H (l.map V.int) (l.map some)
  | [] => trivial
  | x :: l => ⟨.int x, each_ints l⟩
theorem each_some {K : PySem.W.Frag} {H : Hp} : ∀ {xs : List V} {os : List (Option Int)}, EachV K H xs os → (∀ o ∈ os, o.isSome = true) → ∃ l : List Int, xs = l.map V.int ∧ os = l.map some
  | [], [], _, _ => ⟨[], rfl, rfl⟩
  | x :: xs, o :: os, ⟨h1, h2⟩, h => by
    obtain ⟨l, rfl, rfl⟩ := each_some h2 fun z hz => h z (List.mem_cons_of_mem _ hz)
    have ho := h o (List.mem_cons_self ..)
    cases h1 with
    | int i => exact ⟨i :: l, rfl, rfl⟩
    | bl b => cases ho
    | oth h k => cases ho
  | [], _ :: _, h, _ => h.elim
  | _ :: _, [], h, _ => h.elim
theorem some_inj : ∀ {l m : List Int}, l.map some = m.map some → l = m
  | [], [], _ => rfl
  | [], _ :: _, h => nomatch h
  | _ :: _, [], h => nomatch h
  | a :: l, b :: m, h => by
    have h1 := List.cons.inj h
    rw [Option.some.inj h1.1, some_inj h1.2]
/-- what is asked of a value that may be a lot: what it is, and a bound on its length -/
inductive LotV (K : PySem.W.Frag) (H : Hp) : V → Option (List (Option Int)) → Prop
  | sq {a : Addr} {xs : List V} {os : List (Option Int)} (h : SqA K H a xs) (e : EachV K H xs os) (few : xs.length < 60) : LotV K H (.ref a) (some os)
  | no {v : V} (h : SqV K H v none) : LotV K H v none
theorem lotv_s {K : PySem.W.Frag} {H H' : Hp} {v : V} {o : Option (List (Option Int))} (h : LotV K H v o) (e : Same H H') : LotV K H' v o := by
  cases h with
  | sq h g few => exact .sq (same_a e h) (each_s e g) few
  | no h => exact .no (sqv_s h e)
theorem lotv_lot {K : PySem.W.Frag} {H : Hp} {a : Addr} {l : List Int} (h : SqA K H a (l.map V.int)) (few : l.length < 60) : LotV K H (.ref a) (some (l.map some)) := .sq h (each_ints l) (by rw [List.length_map]; exact few)
/-- unlike things -/
def ThingsO (n : Nat) (o : Option (List (Option Int))) (l : List Int) : Prop := o = some (l.map some) ∧ l.Nodup ∧ ∀ x ∈ l, x ∈ things n
def spAreThings (K : PySem.W.Frag) : Sp := fun vs H Q _ => ∃ (n : Nat) (v : V) (o : Option (List (Option Int))), vs = [.int n, v] ∧ LotV K H v o ∧ ∀ (H' : Hp) (b : Bool), Same H H' → (b = true ↔ ∃ l, ThingsO n o l) → Q (.bl b) H'
/-- a lot -/
def LotO (n : Nat) (o : Option (List (Option Int))) (l : List Int) : Prop := o = some (l.map some) ∧ Lot n l
def spIsRising (K : PySem.W.Frag) : Sp := fun vs H Q _ => ∃ (n : Nat) (v : V) (o : Option (List (Option Int))), vs = [.int n, v] ∧ n ≤ 6 ∧ LotV K H v o ∧ ∀ (H' : Hp) (b : Bool), Same H H' → (b = true ↔ ∃ l, LotO n o l) → Q (.bl b) H'
def spIsLotOf (K : PySem.W.Frag) (C : Addr) : Sp := fun vs H Q _ => ∃ (p : Addr) (n : Nat) (as ts : List (Int × Int)) (v : V) (o : Option (List (Option Int))), vs = [.ref p, v] ∧ PlanAt K C H p n as ts ∧ LotV K H v o ∧
  ∀ (H' : Hp) (b : Bool), Same H H' → (b = true ↔ ∃ l, LotO n o l) → Q (.bl b) H'
def spChkLot (K : PySem.W.Frag) (C : Addr) : Sp := fun vs H Q _ => ∃ (p a : Addr) (n : Nat) (as ts : List (Int × Int)) (l : List Int), vs = [.ref p, .ref a] ∧ PlanAt K C H p n as ts ∧ SqA K H a (l.map V.int) ∧ Lot n l ∧ ∀ H', Same H H' → Q .non H'
def spTurned (K : PySem.W.Frag) : Sp := fun vs H Q _ => ∃ (a : Addr) (ps : List (Int × Int)), vs = [.ref a] ∧ PL K H a ps ∧ ps.length < 60 ∧ ∀ H' p, Same H H' → H p = none → PM K H' p (turnL ps) → Q (.ref p) H'
def spBoth (K : PySem.W.Frag) : Sp := fun vs H Q _ => ∃ (a : Addr) (ps : List (Int × Int)), vs = [.ref a] ∧ PM K H a ps ∧ ps.length < 60 ∧ ∀ H' p, Same H H' → H p = none → PM K H' p (both ps) → Q (.ref p) H'
def spWithin (K : PySem.W.Frag) : Sp := fun vs H Q _ => ∃ (a b : Addr) (ps : List (Int × Int)) (l : List Int), vs = [.ref a, .ref b] ∧ PL K H a ps ∧ ps.length < 60 ∧ SqA K H b (l.map V.int) ∧ ∀ H' p, Same H H' → H p = none → PM K H' p (withinL ps l) → Q (.ref p) H'
theorem inA_bl {K : PySem.W.Frag} {H : Hp} {b : Addr} {l : List Int} (h : SqA K H b (l.map V.int)) : SqL K H b (l.map V.int) ∨ SqT K H b (l.map V.int) := h
section
variable {P : Program} {w : World} {K : PySem.W.Frag} {mg : Str → Option Value} {base : Heap}
theorem within_take {ps : List (Int × Int)} {l : List Int} {i : Nat} {p : Int × Int} (h : ps[i]? = some p) : withinL (ps.take (i + 1)) l = if p.1 ∈ l ∧ p.2 ∈ l then withinL (ps.take i) l ++ [p] else withinL (ps.take i) l := by
  unfold withinL
  rw [take_at h, List.filter_append]
  by_cases c : p.1 ∈ l ∧ p.2 ∈ l
  · rw [if_pos c]; simp [c.1, c.2]
  · rw [if_neg c]
    by_cases c1 : p.1 ∈ l
    · have c2 : ¬ p.2 ∈ l := fun z => c ⟨c1, z⟩
      simp [c2]
    · simp [c1]
end
end Tk

namespace Tk
open PySem PySem.Spec PyProof.Rows L2
def topV : List Int → V
  | [] => .non
  | x :: _ => .int x
def spHead (K : PySem.W.Frag) (C : Addr) : Sp := fun vs H Q _ => ∃ (p a : Addr) (n : Nat) (as ts : List (Int × Int)) (l : List Int), vs = [.ref p, .ref a] ∧ PlanAt K C H p n as ts ∧ SqA K H a (l.map V.int) ∧ Lot n l ∧ ∀ H', Same H H' → Q (topV (headsL as l)) H'
def spHangs (K : PySem.W.Frag) (C : Addr) : Sp := fun vs H Q _ => ∃ (p a : Addr) (n : Nat) (as ts : List (Int × Int)) (l : List Int), vs = [.ref p, .ref a] ∧ PlanAt K C H p n as ts ∧ SqA K H a (l.map V.int) ∧ Lot n l ∧ ∀ H', Same H H' → Q (.bl (hangB ts l)) H'
theorem eqv_ints : ∀ {l m : List Int}, PyData.eqvAll (l.map .int) (m.map .int) = decide (l = m)
  | [], [] => by simp [PyData.eqvAll]
  | [], _ :: _ => by simp [PyData.eqvAll]
  | _ :: _, [] => by simp [PyData.eqvAll]
  | a :: l, b :: m => by
    rw [List.map_cons, List.map_cons, PyData.eqvAll, eqv_ints (l := l) (m := m)]
    have e : PyData.eqv (.int a) (.int b) = decide (a = b) := by
      rw [PyData.eqv]
      by_cases c : a = b
      · subst c; simp
      · simp [c]
    rw [e]
    by_cases c : a = b
    · simp [c]
    · simp [c]
theorem eqv_lints {l m : List Int} : PyData.eqv (.list (l.map .int)) (.list (m.map .int)) = decide (l = m) := by
  rw [PyData.eqv, eqv_ints]
theorem shaped_ints (l : List Int) : SeqAt.shaped (.list (l.map .int)) = true := by
  unfold SeqAt.shaped
  rw [Bool.and_eq_true_iff]
  have h1 : PyData.canLayAll0 (l.map .int) = true := by
    induction l with
    | nil => rfl
    | cons a l ih => rw [List.map_cons, PyData.canLayAll0, ih]; rfl
  have h2 : PyData.depthAll (l.map .int) = 0 := by
    induction l with
    | nil => rfl
    | cons a l ih =>
      rw [List.map_cons, PyData.depthAll]
      have h3 : PyData.canLayAll0 (l.map .int) = true := by
        rw [List.map_cons, PyData.canLayAll0] at h1
        exact (Bool.and_eq_true_iff.mp h1).2
      rw [ih h3]; rfl
  refine ⟨by rw [PyData.canLay0]; exact h1, decide_eq_true ?_⟩
  rw [PyData.depth, h2]
  decide
theorem lot_sorted {n : Nat} {l s : List Int} (th : l.Nodup ∧ ∀ x ∈ l, x ∈ things n) (pm : s.Perm l) (so : s.Pairwise (· ≤ ·)) : l = s ↔ Lot n l := by
  constructor
  · intro e
    subst e
    exact ⟨le_lt so th.1, th.2⟩
  · intro h
    exact rise_eq h.1 (le_lt so (pm.nodup_iff.mpr th.1)) fun x => pm.mem_iff.symm
end Tk

namespace Tk
open PySem PySem.Spec PyProof.Rows L2
/-! ## the law's own draws -/
def PotOk (x y : Int) : Prop := 0 ≤ x ∧ 0 ≤ y ∧ y < 4294967296
/-- all but what stands at a is as it was -/
def SmX (a : Addr) (H H' : Hp) : Prop := ∀ b o, b ≠ a → H b = some o → H' b = some o
theorem SmX.refl (a : Addr) (H : Hp) : SmX a H H := fun _ _ _ h => h
theorem SmX.trans {a : Addr} {H H1 H2 : Hp} (h : SmX a H H1) (g : SmX a H1 H2) : SmX a H H2 := fun b o hb e => g b o hb (h b o hb e)
theorem smx_of {a : Addr} {H H1 : Hp} (h : Same H H1) : SmX a H H1 := fun b o _ e => h b o e
theorem smx_upd {a : Addr} {H : Hp} {o : HO} : SmX a H (upd H a o) := fun b o hb e => by rw [upd_ne hb]; exact e
theorem smx_mut {a p : Addr} {H H' : Hp} {o : HO} (e : SmX a H H') (h : H p = none) : SmX a H (upd H' p o) := by
  intro b u hb hu
  rw [upd_ne (ne_of_none hu h)]
  exact e b u hb hu
theorem smx_free {a p : Addr} {H H' : Hp} (e : SmX a H H') (hp : p ≠ a) (h : H' p = none) : H p = none := by
  cases q : H p with
  | none => rfl
  | some o => rw [e p o hp q] at h; cases h
/-- a pot of draws at a -/
def Pot (H : Hp) (a : Addr) : Prop := ∃ x y, H a = some (.lst [.int x, .int y]) ∧ PotOk x y
theorem smx_l {K : PySem.W.Frag} {a : Addr} {H H' : Hp} {p : Addr} {xs : List V} (e : SmX a H H') (n : p ≠ a) (h : SqL K H p xs) : SqL K H' p xs := by
  rcases h with (h | ⟨o, h⟩) | h
  · exact .inl (.inl (e _ _ n h))
  · exact .inl (.inr ⟨o, e _ _ n h⟩)
  · exact .inr h
theorem smx_t {K : PySem.W.Frag} {a : Addr} {H H' : Hp} {p : Addr} {xs : List V} (pa : Pot H a) (e : SmX a H H') (h : SqT K H p xs) : SqT K H' p xs := by
  obtain ⟨x, y, ha, _⟩ := pa
  rcases h with (h | ⟨o, h⟩) | h
  · exact .inl (.inl (e _ _ (fun q => by rw [q, ha] at h; cases h) h))
  · exact .inl (.inr ⟨o, e _ _ (fun q => by rw [q, ha] at h; cases h) h⟩)
  · exact .inr h
theorem fnok_weak {P : Program} {w : World} {K : PySem.W.Frag} {mg : Str → Option Value} {base : Heap} {cx : CXT} {k : Nat} {f : Addr} {fd : FuncData} {ps : List Str} {sp sp' : Sp} (h : FnOk P w K mg base cx k f fd ps sp) (wk : ∀ vs H Q E, sp' vs H Q E → sp vs H Q E) : FnOk P w K mg base cx k f fd ps sp' :=
  ⟨fun vs H Q E z => h.len vs H Q E (wk _ _ _ _ z), fun A outer s H args us vs Q E r e b v z => h.run A outer s H args us vs Q E r e b v (wk _ _ _ _ z)⟩
def spPot (K : PySem.W.Frag) : Sp := fun vs H Q _ => ∃ (a : Addr) (ns : List Int), vs = [.ref a, .int 0] ∧ SqL K H a (ns.map V.int) ∧
  ∀ (H' : Hp) (p : Addr), Same H H' → H p = none → Pot H' p → Q (.ref p) H'
def spDraw : Sp := fun vs H Q _ => ∃ (a : Addr) (m : Int), vs = [.ref a, .int m] ∧ Pot H a ∧ 0 < m ∧ m < 1073741824 ∧
  ∀ (H' : Hp) (d : Int), SmX a H H' → Pot H' a → 0 ≤ d → d < m → Q (.int d) H'
section
variable {P : Program} {w : World} {K : PySem.W.Frag} {mg : Str → Option Value} {base : Heap}
abbrev nPot : List Str := ["_law_script", "_law_k", "_law_cell"]
theorem sc_pot : FnScope nPot ["_law_script", "_law_k"] (defScope sPot) := ⟨rfl, rfl, rfl, by decide +kernel, rfl, by decide +kernel, by decide +kernel⟩
theorem potok_end (c j : Int) (m : Int) (h0 : 0 < m) (h1 : m < 4294967295) : PotOk (if j > 0 then j else 0) (c % m + 1) := by
  have a := Int.emod_nonneg c (show m ≠ 0 by omega)
  have b := Int.emod_lt_of_pos c h0
  refine ⟨?_, by omega, by omega⟩
  split <;> omega
theorem ok_pot {f : Addr} {fd : FuncData} (F : Fun K "_law_pot" "_law_pot" sPot f fd) (B : Bl mg) : FnOk P w K mg base CX0 1 f fd ["_law_script", "_law_k"] (spPot K) := by
  refine F.ok sc_pot (fun vs H Q E h => ?_) (fun cdv A outer s H vs Q E hr h => ?_)
  · obtain ⟨a, ns, rfl, _⟩ := h
    rfl
  · obtain ⟨a, ns, rfl, ha, q⟩ := h
    refine ⟨_, pss_cons (ps_set (i := 2) sc_pot.nd rfl (Or.inl rfl) (pe_op op_add (pe_op op_mul pe_int (pv 1)) pe_int))
      (pss_cons (ps_if (pt_cmpR op_lt (pv 1) (pe_callB call_len_seq (by rfl) B.len PySem.boot_len (pa_cons (pv 0) pa_nil)) (nomark _))
          (pss_one (ps_set (i := 2) sc_pot.nd rfl (Or.inl rfl) (pe_callB call_abs (by rfl) B.abs PyProof.Rows.boot_abs (pa_cons (pe_ix ix_list (pv 0) (pv 1) (fun _ _ => rfl)) pa_nil)))) pss_nil)
      (pss_one (ps_ret (pe_lst (pa_cons (pe_callB (call_max2 rfl) (by rfl) B.max PyProof.Rows.boot_max (pa_cons pe_int (pa_cons (pe_op op_sub (pv 2) (pe_op op_pow pe_int pe_int)) pa_nil)))
        (pa_cons (pe_op op_add (pe_op op_mod (pe_op op_mul (pe_callTy call_int1 (by rfl) B.int PyProof.Rows.boot_int (pa_cons (pe_op op_add (pe_op op_mod (pe_callTy call_int1 (by rfl) B.int PyProof.Rows.boot_int (pa_cons (pv 2) pa_nil)) pe_int) pe_int) pa_nil))
          (pe_op op_pow (pe_op op_add (pe_op op_mul pe_int (pv 1)) pe_int) pe_int)) pe_int) pe_int) pa_nil)))))), ?_⟩
    refine ⟨_, rfl, _, _, rfl, rfl, .inl ⟨by decide, by decide⟩, _, _, rfl, rfl, ?_⟩
    refine ⟨_, rfl, _, rfl, a, _, rfl, .inl ha, _, _, rfl, rfl, _, rfl, ?_⟩
    refine ite2 (fun hk => ?_) (fun hk => ?_)
    · cases ns with
      | nil => simp at hk
      | cons n ns =>
        refine ⟨_, rfl, _, rfl, a, _, _, _, rfl, rfl, ha, at0, n, rfl, ?_⟩
        refine ⟨_, rfl, _, _, rfl, rfl, ⟨by decide, by decide, by decide⟩, _, _, rfl, rfl, _, _, rfl, ?_⟩
        refine ⟨_, rfl, .inl ⟨_, rfl, _, _, rfl, rfl, (show (0 : Int) < 2147483549 by decide), _, _, rfl, rfl, .inl ⟨_, rfl, ?_⟩⟩⟩
        refine ⟨_, rfl, _, _, rfl, rfl, .inl ⟨by decide, by decide⟩, _, _, rfl, rfl, _, _, rfl, rfl, ⟨by decide, by decide, by decide⟩, _, _, rfl, rfl, ?_, _, _, rfl, rfl, (show (0 : Int) < 2147483477 by decide), _, _, rfl, rfl, ?_⟩
        · have b0 := Int.emod_nonneg (if n < 0 then -n else n) (show (2147483549 : Int) ≠ 0 by decide)
          have b1 := Int.emod_lt_of_pos (if n < 0 then -n else n) (show (0 : Int) < 2147483549 by decide)
          exact .inl ⟨by omega, by omega⟩
        · refine ⟨szle (by show 2 ≤ 100000; decide), fun r hr => ?_⟩
          exact q _ r (same_new hr) hr ⟨_, _, upd_same, potok_end _ _ 2147483477 (by decide) (by decide)⟩
    · refine ⟨_, rfl, _, _, rfl, rfl, ⟨by decide, by decide, by decide⟩, _, _, rfl, rfl, _, _, rfl, ?_⟩
      generalize (139 * 0 + 73 : Int) = c
      refine ⟨_, rfl, .inl ⟨_, rfl, _, _, rfl, rfl, (show (0 : Int) < 2147483549 by decide), _, _, rfl, rfl, .inl ⟨_, rfl, ?_⟩⟩⟩
      refine ⟨_, rfl, _, _, rfl, rfl, .inl ⟨by decide, by decide⟩, _, _, rfl, rfl, _, _, rfl, rfl, ⟨by decide, by decide, by decide⟩, _, _, rfl, rfl, ?_, _, _, rfl, rfl, (show (0 : Int) < 2147483477 by decide), _, _, rfl, rfl, ?_⟩
      · have b0 := Int.emod_nonneg c (show (2147483549 : Int) ≠ 0 by decide)
        have b1 := Int.emod_lt_of_pos c (show (0 : Int) < 2147483549 by decide)
        exact .inl ⟨by omega, by omega⟩
      · refine ⟨szle (by show 2 ≤ 100000; decide), fun r hr => ?_⟩
        exact q _ r (same_new hr) hr ⟨_, _, upd_same, potok_end _ _ 2147483477 (by decide) (by decide)⟩
abbrev nDraw : List Str := ["_law_pot_here", "_law_room", "_law_digit"]
theorem sc_draw : FnScope nDraw ["_law_pot_here", "_law_room"] (defScope sDraw) := ⟨rfl, rfl, rfl, by decide +kernel, rfl, by decide +kernel, by decide +kernel⟩
theorem at_0 {x y : V} : atI [x, y] (0 : Int) = some x := rfl
theorem at_1 {x y : V} : atI [x, y] (1 : Int) = some y := rfl
theorem ok_draw {f : Addr} {fd : FuncData} (F : Fun K "_law_draw" "_law_draw" sDraw f fd) (B : Bl mg) : FnOk P w K mg base CX0 1 f fd ["_law_pot_here", "_law_room"] spDraw := by
  refine F.ok sc_draw (fun vs H Q E h => ?_) (fun cdv A outer s H vs Q E hr h => ?_)
  · obtain ⟨a, m, rfl, _⟩ := h
    rfl
  · obtain ⟨a, m, rfl, ⟨x, y, ha, hx, hy0, hy1⟩, m0, m1, q⟩ := h
    refine ⟨_, pss_cons (ps_if (pt_cmpR op_gt (pe_ix ix_list (pv 0) pe_int (fun _ _ => rfl)) pe_int (nomark _))
        (pss_cons (ps_asg (pe_callB call_divmod (by rfl) B.divmod PyProof.Rows.boot_divmod (pa_cons (pe_ix ix_list (pv 0) pe_int (fun _ _ => rfl)) (pa_cons (pv 1) pa_nil)))
            (pg_tup rfl (pgs_cons (pg_sub (pv 0) pe_int set_list) (pgs_cons (pg_name (i := 2) sc_draw.nd rfl (Or.inl rfl)) pgs_nil))))
          (pss_one (ps_ret (pv 2)))) pss_nil)
      (pss_cons (ps_asg (pe_op op_mod (pe_callTy call_int1 (by rfl) B.int PyProof.Rows.boot_int (pa_cons (pe_op op_add (pe_op op_mul (pe_ix ix_list (pv 0) pe_int (fun _ _ => rfl)) pe_int) pe_int) pa_nil)) pe_int) (pg_sub (pv 0) pe_int set_list))
      (pss_one (ps_ret (pe_op op_mod (pe_callTy call_int1 (by rfl) B.int PyProof.Rows.boot_int (pa_cons (pe_op op_fdiv (pe_op op_mod (pe_callTy call_int1 (by rfl) B.int PyProof.Rows.boot_int (pa_cons (pe_op op_mul (pe_ix ix_list (pv 0) pe_int (fun _ _ => rfl)) (pe_ix ix_list (pv 0) pe_int (fun _ _ => rfl))) pa_nil)) pe_int) pe_int) pa_nil)) (pv 1))))), ?_⟩
    refine ⟨_, rfl, a, _, _, _, rfl, rfl, sl_of ha, at_0, _, _, rfl, rfl, _, rfl, ?_⟩
    refine ite2 (fun h => ?_) (fun h => ?_)
    · refine ⟨_, rfl, a, _, _, _, rfl, rfl, sl_of ha, at_0, _, rfl, _, _, rfl, ⟨m0, m1⟩, fun t ht => ?_⟩
      have nta : t ≠ a := fun e => by rw [e, ha] at ht; cases ht
      refine ⟨t, _, rfl, st_of upd_same, rfl, _, _, rfl, _, rfl, a, _, _, 0, rfl, rfl, (by rw [upd_ne nta.symm]; exact ha), rfl, _, _, rfl, rfl, ?_⟩
      refine ⟨_, rfl, q _ _ ((smx_of (same_new ht)).trans smx_upd) ⟨_, _, upd_same, ?_, hy0, hy1⟩ (Int.emod_nonneg x (by omega)) (Int.emod_lt_of_pos x m0)⟩
      exact Int.ediv_nonneg hx (by omega)
    · refine ⟨_, rfl, a, _, _, _, rfl, rfl, sl_of ha, at_1, _, _, rfl, rfl, .inl ⟨by omega, by omega⟩, _, _, rfl, rfl, .inl ⟨_, rfl, _, _, rfl, rfl, (show (0 : Int) < 2147483587 by decide), _, rfl, a, _, _, 1, rfl, rfl, ha, rfl, ?_⟩⟩
      have b0 := Int.emod_nonneg (y * 48271 + 18152) (show (2147483587 : Int) ≠ 0 by decide)
      have b1 := Int.emod_lt_of_pos (y * 48271 + 18152) (show (0 : Int) < 2147483587 by decide)
      refine ⟨_, rfl, a, _, _, _, rfl, rfl, sl_of upd_same, at_1, _, rfl, a, _, _, _, rfl, rfl, sl_of upd_same, at_1, _, _, rfl, rfl, .inl ⟨by omega, by omega⟩, .inl ⟨_, rfl, _, _, rfl, rfl, (show (0 : Int) < 2147483549 by decide), _, _, rfl, rfl, ⟨by decide, by decide⟩, .inl ⟨_, rfl, _, rfl, _, _, rfl, rfl, m0, ?_⟩⟩⟩
      exact q _ _ smx_upd ⟨_, _, upd_same, hx, b0, by omega⟩ (Int.emod_nonneg _ (by omega)) (Int.emod_lt_of_pos _ m0)
end
end Tk

namespace Tk
open PySem PySem.Spec PyProof.Rows L2
abbrev sLowR : Stmt := top 44
abbrev sSumR : Stmt := top 45
abbrev sByR : Stmt := top 46
abbrev sLessR : Stmt := top 47
abbrev sRtPair : Stmt := top 52
/-! ## the law's own fractions -/
/-- a tuple of two ints -/
def PairAt (K : PySem.W.Frag) (H : Hp) (p : Addr) (q : Int × Int) : Prop := SqT K H p [.int q.1, .int q.2]
theorem pair_sR {K : PySem.W.Frag} {H H' : Hp} {p : Addr} {q : Int × Int} (h : PairAt K H p q) (e : Same H H') : PairAt K H' p q := same_t e h
/-- a new tuple of two ints -/
def NewPair (K : PySem.W.Frag) (H : Hp) (Q : VK) (q : Int × Int) : Prop := ∀ (H' : Hp) (r : Addr), Same H H' → H r = none → PairAt K H' r q → Q (.ref r) H'
def spLowR (K : PySem.W.Frag) : Sp := fun vs H Q _ => ∃ t b : Int, vs = [.int t, .int b] ∧ b ≠ 0 ∧ b.natAbs.log2 < 9000 ∧ NewPair K H Q (lowQ t b)
def spTwoR (K : PySem.W.Frag) (g : Int × Int → Int × Int → Int × Int) : Sp := fun vs H Q _ => ∃ (p r : Addr) (x y : Int × Int), vs = [.ref p, .ref r] ∧ PairAt K H p x ∧ PairAt K H r y ∧ Small x ∧ Small y ∧ NewPair K H Q (g x y)
def spOverR (K : PySem.W.Frag) : Sp := fun vs H Q _ => ∃ (p r : Addr) (x y : Int × Int), vs = [.ref p, .ref r] ∧ PairAt K H p x ∧ PairAt K H r y ∧ Small x ∧ Small y ∧ y.1 ≠ 0 ∧ y.1.natAbs.log2 < 4000 ∧ NewPair K H Q (overQ x y)
def spTotR (K : PySem.W.Frag) : Sp := fun vs H Q _ => ∃ (a : Addr) (xs : List V) (qs : List (Int × Int)), vs = [.ref a] ∧ SqL K H a xs ∧ xs.length = qs.length ∧ (∀ (i : Nat) (x : V) (q : Int × Int), xs[i]? = some x → qs[i]? = some q → ∃ p, x = .ref p ∧ PairAt K H p q ∧ Small q) ∧
  (∀ i, i ≤ qs.length → Small (sumQ (qs.take i))) ∧ ∀ (H' : Hp) (r : Addr), Same H H' → PairAt K H' r (sumQ qs) → Q (.ref r) H'
def spPairR (K : PySem.W.Frag) (C : Addr) : Sp := fun vs H Q _ => ∃ (p : Addr) (q : Int × Int), vs = [.ref p] ∧ RatAt C H p q ∧ NewPair K H Q q
def spPairsR (K : PySem.W.Frag) (C : Addr) : Sp := fun vs H Q _ => ∃ (a : Addr) (xs : List V) (qs : List (Int × Int)), vs = [.ref a] ∧ H a = some (.lst xs) ∧ xs.length = qs.length ∧ xs.length ≤ 1000 ∧ (∀ (i : Nat) (x : V) (q : Int × Int), xs[i]? = some x → qs[i]? = some q → ∃ p, x = .ref p ∧ RatAt C H p q) ∧
  ∀ (H' : Hp) (r : Addr), Same H H' → H r = none → Dp K H' (.ref r) (.list (qs.map dP)) → Q (.ref r) H'
def spShownR (K : PySem.W.Frag) : Sp := fun vs H Q _ => ∃ (p : Addr) (q : Int × Int), vs = [.ref p] ∧ PairAt K H p q ∧ Tiny q ∧ Q (.str (shQ q)) H
section
variable {P : Program} {w : World} {K : PySem.W.Frag} {mg : Str → Option Value} {base : Heap}
abbrev nLowR : List Str := ["_law_top", "_law_bottom", "_law_one", "_law_other"]
theorem sc_lowR : FnScope nLowR ["_law_top", "_law_bottom"] (defScope sLowR) := ⟨rfl, rfl, rfl, by decide +kernel, rfl, by decide +kernel, by decide +kernel⟩
theorem ok_lowR {f : Addr} {fd : FuncData} (F : Fun K "_law_low" "_law_low" sLowR f fd) (B : Bl mg) : FnOk P w K mg base CX0 1 f fd ["_law_top", "_law_bottom"] (spLowR K) := by
  refine F.ok sc_lowR (fun vs H Q E h => ?_) (fun cdv A outer s H vs Q E hr h => ?_)
  · obtain ⟨t, b, rfl, _⟩ := h
    rfl
  · obtain ⟨t, b, rfl, b0, bl, q⟩ := h
    refine ⟨_, pss_cons (ps_par (i := 2) (j := 3) rfl sc_lowR.nd rfl rfl (by decide) rfl rfl (pa_cons (pe_callB call_abs (by rfl) B.abs PyProof.Rows.boot_abs (pa_cons (pv 0) pa_nil)) (pa_cons (pe_callB call_abs (by rfl) B.abs PyProof.Rows.boot_abs (pa_cons (pv 1) pa_nil)) pa_nil)) (by rfl))
      (pss_cons (ps_while PassesOwn.never (pt_cmpR op_gt (pv 3) pe_int (nomark _))
        (pss_one (ps_par (i := 2) (j := 3) rfl sc_lowR.nd rfl rfl (by decide) rfl rfl (pa_cons (pv 3) (pa_cons (pe_op op_mod (pe_callTy call_int1 (by rfl) B.int PyProof.Rows.boot_int (pa_cons (pv 2) pa_nil)) (pv 3)) pa_nil)) (by rfl))))
      (pss_cons (ps_set (i := 2) sc_lowR.nd rfl (Or.inl rfl) (pe_ifExp (pt_cmpR op_gt (pv 1) pe_int (nomark _)) (pv 2) (pe_op op_sub pe_int (pv 2))))
      (pss_one (ps_ret (pe_tup (pa_cons (pe_op op_fdivWN (pv 0) (pv 2)) (pa_cons (pe_op op_fdivWN (pv 1) (pv 2)) pa_nil))))))), ?_⟩
    have ab : ∀ x : Int, (if x < 0 then -x else x) = (x.natAbs : Int) := fun x => by split <;> omega
    refine ⟨_, rfl, t, rfl, _, rfl, b, rfl, _, _, rfl, ?_⟩
    rw [ab, ab]
    refine ⟨fun m σ G => ∃ u v : Nat, σ = [some (V.int t), some (V.int b), some (V.int (u : Int)), some (V.int (v : Int))] ∧ G = H ∧ Nat.gcd u v = Nat.gcd t.natAbs b.natAbs ∧ v = m, ⟨_, t.natAbs, b.natAbs, rfl, rfl, rfl, rfl⟩, ?_⟩
    rintro m σ G ⟨u, v, rfl, rfl, hg, rfl⟩
    refine ⟨_, rfl, _, _, rfl, rfl, _, rfl, ?_⟩
    refine ite2 (fun c => ?_) (fun c => ?_)
    · have v0 : 0 < v := by
        have := of_decide_eq_true c
        omega
      refine ⟨_, fun σ' H' z => z, ?_⟩
      refine ⟨_, rfl, _, rfl, .inl ⟨_, rfl, _, rfl, _, _, rfl, rfl, (show (0 : Int) < (v : Int) by omega), _, _, rfl, u % v, Nat.mod_lt _ v0, v, u % v, rfl, rfl, ?_, rfl⟩⟩
      rw [Nat.gcd_comm, ← hg, Nat.gcd_comm u v, Nat.gcd_rec v u]
    · have v0 : v = 0 := by
        cases v with
        | zero => rfl
        | succ v => exact absurd (decide_eq_true (show (0 : Int) < ((v + 1 : Nat) : Int) by omega)) c
      subst v0
      rw [Nat.gcd_zero_right] at hg
      subst hg
      have gl : (comQ t b).natAbs.log2 < 9000 := by
        rw [com_abs]
        exact log2_monoR (Nat.le_of_dvd (by omega) (Nat.gcd_dvd_right _ _)) bl
      have cd : ∀ x : Int, CDivWN x (comQ t b) := fun x => ⟨com_ne b0, gl⟩
      have fin : ∀ z : Int, z = comQ t b → tRet (tTup (tCons (tOp (rI CDivWN fun i j => V.int (i.fdiv j)) (tVar 0) (tVar 2)) (tCons (tOp (rI CDivWN fun i j => V.int (i.fdiv j)) (tVar 1) (tVar 2)) tNil))) { nx := fun _ H' => Q V.non H', rt := Q } [some (V.int t), some (V.int b), some (V.int z), some (V.int ((0 : Nat) : Int))] G := fun z ez => by
        rw [ez]
        refine ⟨_, rfl, _, rfl, _, _, rfl, rfl, cd t, _, rfl, _, rfl, _, _, rfl, rfl, cd b, szle (by show 2 ≤ 100000; decide), fun r hr0 => ?_⟩
        exact q _ r (same_new hr0) hr0 (st_of upd_same)
      refine ⟨_, rfl, _, _, rfl, rfl, _, rfl, ?_⟩
      refine ite2 (fun c2 => ?_) (fun c2 => ?_)
      · exact ⟨_, rfl, fin _ (by unfold comQ; rw [if_pos (of_decide_eq_true c2)])⟩
      · refine ⟨_, rfl, _, _, rfl, rfl, fin _ ?_⟩
        unfold comQ
        rw [if_neg (fun z => c2 (decide_eq_true z))]
        omega
theorem at_i0 {x y : V} : atI [x, y] 0 = some x := rfl
theorem at_i1 {x y : V} : atI [x, y] 1 = some y := rfl
theorem sc_sumR : FnScope ["_law_one", "_law_other"] ["_law_one", "_law_other"] (defScope sSumR) := ⟨rfl, rfl, rfl, by decide +kernel, rfl, by decide +kernel, by decide +kernel⟩
theorem ok_sumR {f f1 : Addr} {fd fd1 : FuncData} (F : Fun K "_law_sum" "_law_sum" sSumR f fd) (D1 : Df K mg "_law_low" sLowR ["_law_top", "_law_bottom"] f1 fd1) (B : Bl mg) : FnOk P w K mg base CX0 2 f fd ["_law_one", "_law_other"] (spTwoR K addQ) := by
  have G1 : FnOk P w K mg base CX0 1 f1 fd1 ["_law_top", "_law_bottom"] (spLowR K) := ok_lowR D1.F B
  refine F.ok sc_sumR (fun vs H Q E h => ?_) (fun cdv A outer s H vs Q E hr h => ?_)
  · obtain ⟨p, r, x, y, rfl, _⟩ := h
    rfl
  · obtain ⟨p, r, x, y, rfl, hp, hr', sx, sy, q⟩ := h
    refine ⟨_, pss_one (ps_ret (pe_call G1 hr rfl D1.g D1.F.kp D1.b .nil pass0 (pa_cons (pe_op op_add (pe_op op_mulW (pe_ix ix_tup (pv 0) pe_int (fun _ _ => rfl)) (pe_ix ix_tup (pv 1) pe_int (fun _ _ => rfl))) (pe_op op_mulW (pe_ix ix_tup (pv 1) pe_int (fun _ _ => rfl)) (pe_ix ix_tup (pv 0) pe_int (fun _ _ => rfl))))
      (pa_cons (pe_op op_mulW (pe_ix ix_tup (pv 0) pe_int (fun _ _ => rfl)) (pe_ix ix_tup (pv 1) pe_int (fun _ _ => rfl))) pa_nil)))), ?_⟩
    obtain ⟨b0, bl⟩ := small_bot sx sy
    have e1 := sx.top
    have e2 := sy.top
    have e3 := sx.bot
    have e4 := sy.bot
    refine ⟨_, rfl, p, _, _, _, rfl, rfl, hp, at_i0, _, rfl, r, _, _, _, rfl, rfl, hr', at_i1, _, _, rfl, rfl, (by unfold CMulW; omega), _, rfl, r, _, _, _, rfl, rfl, hr', at_i0, _, rfl, p, _, _, _, rfl, rfl, hp, at_i1, _, _, rfl, rfl, (by unfold CMulW; omega), _, _, rfl, rfl, ?_⟩
    exact ⟨_, rfl, p, _, _, _, rfl, rfl, hp, at_i1, _, rfl, r, _, _, _, rfl, rfl, hr', at_i1, _, _, rfl, rfl, (by unfold CMulW; omega), _, _, rfl, Int.ne_of_gt b0, bl, q⟩
theorem sc_byR : FnScope ["_law_one", "_law_other"] ["_law_one", "_law_other"] (defScope sByR) := ⟨rfl, rfl, rfl, by decide +kernel, rfl, by decide +kernel, by decide +kernel⟩
theorem ok_byR {f f1 : Addr} {fd fd1 : FuncData} (F : Fun K "_law_by" "_law_by" sByR f fd) (D1 : Df K mg "_law_low" sLowR ["_law_top", "_law_bottom"] f1 fd1) (B : Bl mg) : FnOk P w K mg base CX0 2 f fd ["_law_one", "_law_other"] (spTwoR K mulQ) := by
  have G1 : FnOk P w K mg base CX0 1 f1 fd1 ["_law_top", "_law_bottom"] (spLowR K) := ok_lowR D1.F B
  refine F.ok sc_byR (fun vs H Q E h => ?_) (fun cdv A outer s H vs Q E hr h => ?_)
  · obtain ⟨p, r, x, y, rfl, _⟩ := h
    rfl
  · obtain ⟨p, r, x, y, rfl, hp, hr', sx, sy, q⟩ := h
    refine ⟨_, pss_one (ps_ret (pe_call G1 hr rfl D1.g D1.F.kp D1.b .nil pass0 (pa_cons (pe_op op_mulW (pe_ix ix_tup (pv 0) pe_int (fun _ _ => rfl)) (pe_ix ix_tup (pv 1) pe_int (fun _ _ => rfl)))
      (pa_cons (pe_op op_mulW (pe_ix ix_tup (pv 0) pe_int (fun _ _ => rfl)) (pe_ix ix_tup (pv 1) pe_int (fun _ _ => rfl))) pa_nil)))), ?_⟩
    obtain ⟨b0, bl⟩ := small_bot sx sy
    have e1 := sx.top
    have e2 := sy.top
    have e3 := sx.bot
    have e4 := sy.bot
    refine ⟨_, rfl, p, _, _, _, rfl, rfl, hp, at_i0, _, rfl, r, _, _, _, rfl, rfl, hr', at_i0, _, _, rfl, rfl, (by unfold CMulW; omega), ?_⟩
    exact ⟨_, rfl, p, _, _, _, rfl, rfl, hp, at_i1, _, rfl, r, _, _, _, rfl, rfl, hr', at_i1, _, _, rfl, rfl, (by unfold CMulW; omega), _, _, rfl, Int.ne_of_gt b0, bl, q⟩
theorem small_neg {y : Int × Int} (h : Small y) : Small (0 - y.1, y.2) := ⟨h.pos, h.bot, by
  have := h.top
  show (0 - y.1).natAbs.log2 < 100000
  rw [show (0 - y.1).natAbs = y.1.natAbs by omega]
  exact this⟩
theorem add_neg (x y : Int × Int) : addQ x (0 - y.1, y.2) = subQ x y := by
  unfold addQ subQ
  congr 1
  show x.1 * y.2 + (0 - y.1) * x.2 = _
  rw [Int.zero_sub, Int.neg_mul]
  omega
theorem sc_lessR : FnScope ["_law_one", "_law_other"] ["_law_one", "_law_other"] (defScope sLessR) := ⟨rfl, rfl, rfl, by decide +kernel, rfl, by decide +kernel, by decide +kernel⟩
theorem ok_lessR {f f1 : Addr} {fd fd1 : FuncData} (F : Fun K "_law_less" "_law_less" sLessR f fd) (D1 : Df K mg "_law_sum" sSumR ["_law_one", "_law_other"] f1 fd1) (G1 : FnOk P w K mg base CX0 2 f1 fd1 ["_law_one", "_law_other"] (spTwoR K addQ)) : FnOk P w K mg base CX0 3 f fd ["_law_one", "_law_other"] (spTwoR K subQ) := by
  refine F.ok sc_lessR (fun vs H Q E h => ?_) (fun cdv A outer s H vs Q E hr h => ?_)
  · obtain ⟨p, r, x, y, rfl, _⟩ := h
    rfl
  · obtain ⟨p, r, x, y, rfl, hp, hr', sx, sy, q⟩ := h
    refine ⟨_, pss_one (ps_ret (pe_call G1 hr rfl D1.g D1.F.kp D1.b .nil pass0 (pa_cons (pv 0) (pa_cons (pe_tup (pa_cons (pe_op op_sub pe_int (pe_ix ix_tup (pv 1) pe_int (fun _ _ => rfl))) (pa_cons (pe_ix ix_tup (pv 1) pe_int (fun _ _ => rfl)) pa_nil))) pa_nil)))), ?_⟩
    refine ⟨_, rfl, _, rfl, r, _, _, _, rfl, rfl, hr', at_i0, _, _, rfl, rfl, _, rfl, r, _, _, _, rfl, rfl, hr', at_i1, szle (by show 2 ≤ 100000; decide), fun t ht => ?_⟩
    have s1 := same_new (o := .tup [V.int (0 - y.1), V.int y.2]) ht
    refine ⟨p, t, x, (0 - y.1, y.2), rfl, pair_sR hp s1, st_of upd_same, sx, small_neg sy, fun H' z s2 hz hz2 => ?_⟩
    rw [add_neg] at hz2
    exact q H' z (s1.trans s2) (s1.free hz) hz2
end
end Tk

namespace Tk
open PySem PySem.Spec PyProof.Rows L2
section
variable {P : Program} {w : World} {K : PySem.W.Frag} {mg : Str → Option Value} {base : Heap}
theorem sc_pairR : FnScope ["_law_value"] ["_law_value"] (defScope sRtPair) := ⟨rfl, rfl, rfl, by decide +kernel, rfl, by decide +kernel, by decide +kernel⟩
theorem ok_pairR {f fI C pT gT pB gB : Addr} {fd dI dT dB : FuncData} (F : Fun K "_law_pair" "_law_pair" sRtPair f fd) (M : RtM K mg C fI dI) (Z : RtP K C pT gT pB gB dT dB) (B : Bl mg) : FnOk P w K mg base CX0 3 f fd ["_law_value"] (spPairR K C) := by
  have GT : FnOk P w K mg base CX0 1 gT dT ["self"] (getSp C "_top") := ok_rtop Z.FT M.c
  have GB : FnOk P w K mg base CX0 1 gB dB ["self"] (getSp C "_bottom") := ok_rbot Z.FB M.c
  refine F.ok sc_pairR (fun vs H Q E h => ?_) (fun cdv A outer s H vs Q E hr h => ?_)
  · obtain ⟨p, x, rfl, _⟩ := h
    rfl
  · obtain ⟨p, x, rfl, ⟨dx, hp⟩, q⟩ := h
    refine ⟨_, pss_one (ps_ret (pe_ifExp (pt_val (pe_callB (C8.call_isC M.ins) (by rfl) B.isi PyProof.Rows.boot_isinstance (pa_cons (pv 0) (pa_cons (pe_glob (v := .ref C) rfl M.c.mgC rfl) pa_nil))))
      (pe_tup (pa_cons (pe_prop (pv 0) M.c.cl Z.pt GT hr Z.bT .nil pass0 rfl) (pa_cons (pe_prop (pv 0) M.c.cl Z.pb GB hr Z.bB .nil pass0 rfl) pa_nil))) pe_non)), ?_⟩
    refine ⟨_, rfl, p, dx, _, rfl, hp, true, rfl, iteT ?_⟩
    refine ⟨_, rfl, p, dx, _, rfl, hp, p, dx, _, _, rfl, hp, rf_top _ _, _, rfl, p, dx, _, rfl, hp, p, dx, _, _, rfl, hp, rf_bot _ _, szle (by show 2 ≤ 100000; decide), fun t ht => ?_⟩
    exact q _ t (same_new ht) ht (st_of upd_same)
abbrev nPairsR : List Str := ["_law_value", "_law_one"]
end
end Tk

/-! plain mathematics of greatest lots -/
namespace Tk
theorem reach_mono {ps qs : List (Int × Int)} {a b : Int} (s : ∀ p ∈ ps, p ∈ qs) (h : Reach ps a b) : Reach qs a b := by
  induction h with
  | refl => exact .refl
  | tail _ hp ih => exact .tail ih (s _ hp)
theorem things_lt (n : Nat) : (things n).Pairwise (· < ·) := by
  unfold things
  rw [List.pairwise_map]
  exact List.Pairwise.imp (fun {a b} h => by show (a : Int) < (b : Int); omega) List.pairwise_lt_range
theorem up_mono {as : List (Int × Int)} {l m : List Int} (s : ∀ y ∈ l, y ∈ m) {a b : Int} (h : Reach (upIn as l) a b) : Reach (upIn as m) a b :=
  reach_mono (fun ⟨x, y⟩ hp => by rw [mem_upIn] at hp ⊢; exact ⟨hp.1, s _ hp.2.1, s _ hp.2.2⟩) h
theorem tie_mono {ts : List (Int × Int)} {l m : List Int} (s : ∀ y ∈ l, y ∈ m) {a b : Int} (h : Reach (tieIn ts l) a b) : Reach (tieIn ts m) a b :=
  reach_mono (fun ⟨x, y⟩ hp => by rw [mem_tieIn] at hp ⊢; exact ⟨hp.1, s _ hp.2.1, s _ hp.2.2⟩) h
theorem tie_sym {ts : List (Int × Int)} {l : List Int} {a b : Int} (h : Reach (tieIn ts l) a b) : Reach (tieIn ts l) b a := both_sym h
theorem reach_trans {ps : List (Int × Int)} {a b c : Int} (h : Reach ps a b) (g : Reach ps b c) : Reach ps a c := by
  induction g with
  | refl => exact h
  | tail _ hp ih => exact .tail ih hp
/-- a lot with the head x that hangs together -/
structure Good (n : Nat) (as ts : List (Int × Int)) (x : Int) (l : List Int) : Prop where
  lot : Lot n l
  mem : x ∈ l
  up : IsHead as l x
  tie : ∀ y ∈ l, Reach (tieIn ts l) x y
theorem hang_iff {ts : List (Int × Int)} {l : List Int} {x : Int} (hx : x ∈ l) : hangB ts l = true ↔ ∀ y ∈ l, Reach (tieIn ts l) x y := by
  rw [hangB_iff]
  cases l with
  | nil => cases hx
  | cons z l =>
    constructor
    · exact fun h y hy => reach_trans (tie_sym (h x hx)) (h y hy)
    · exact fun h y hy => reach_trans (tie_sym (h z (List.mem_cons_self ..))) (h y hy)
noncomputable def inGl (n : Nat) (as ts : List (Int × Int)) (x y : Int) : Bool := @decide (∃ l, Good n as ts x l ∧ y ∈ l) (Classical.propDecidable _)
noncomputable def gl (n : Nat) (as ts : List (Int × Int)) (x : Int) : List Int := (things n).filter (inGl n as ts x)
theorem mem_gl {n : Nat} {as ts : List (Int × Int)} {x y : Int} : y ∈ gl n as ts x ↔ ∃ l, Good n as ts x l ∧ y ∈ l := by
  unfold gl
  rw [List.mem_filter]
  unfold inGl
  rw [@decide_eq_true_iff _ (Classical.propDecidable _)]
  exact ⟨fun h => h.2, fun h => ⟨let ⟨l, g, hy⟩ := h; g.lot.2 y hy, h⟩⟩
theorem gl_lot {n : Nat} {as ts : List (Int × Int)} {x : Int} : Lot n (gl n as ts x) := ⟨(things_lt n).sublist List.filter_sublist, fun _ hy => (List.mem_filter.mp hy).1⟩
theorem good_one {n : Nat} {as ts : List (Int × Int)} {x : Int} (hx : x ∈ things n) : Good n as ts x [x] :=
  ⟨⟨by simp, fun y hy => by rw [List.mem_singleton.mp hy]; exact hx⟩, by simp, fun y hy => by rw [List.mem_singleton.mp hy]; exact .refl, fun y hy => by rw [List.mem_singleton.mp hy]; exact .refl⟩
theorem good_sub {n : Nat} {as ts : List (Int × Int)} {x : Int} {l : List Int} (h : Good n as ts x l) : ∀ y ∈ l, y ∈ gl n as ts x := fun y hy => mem_gl.mpr ⟨l, h, hy⟩
theorem gl_good {n : Nat} {as ts : List (Int × Int)} {x : Int} (hx : x ∈ things n) : Good n as ts x (gl n as ts x) := by
  refine ⟨gl_lot, mem_gl.mpr ⟨[x], good_one hx, by simp⟩, fun y hy => ?_, fun y hy => ?_⟩
  · obtain ⟨l, g, hl⟩ := mem_gl.mp hy
    exact up_mono (good_sub g) (g.up y hl)
  · obtain ⟨l, g, hl⟩ := mem_gl.mp hy
    exact tie_mono (good_sub g) (g.tie y hl)
theorem gl_eq {n : Nat} {as ts : List (Int × Int)} {x : Int} {l : List Int} (h : Good n as ts x l) (all : ∀ m, Good n as ts x m → ∀ y ∈ m, y ∈ l) : l = gl n as ts x :=
  rise_eq h.lot.1 gl_lot.1 fun y => ⟨good_sub h y, fun hy => let ⟨m, g, hm⟩ := mem_gl.mp hy; all m g y hm⟩
/-- two lots of one head make one -/
theorem good_both {n : Nat} {as ts : List (Int × Int)} {x : Int} {l m k : List Int} (h : Good n as ts x l) (g : Good n as ts x m) (rk : k.Pairwise (· < ·)) (e : ∀ y, y ∈ k ↔ y ∈ l ∨ y ∈ m) : Good n as ts x k := by
  refine ⟨⟨rk, fun y hy => ?_⟩, (e x).mpr (.inl h.mem), fun y hy => ?_, fun y hy => ?_⟩
  · exact ((e y).mp hy).elim (h.lot.2 y) (g.lot.2 y)
  · rcases (e y).mp hy with z | z
    · exact up_mono (fun w hw => (e w).mpr (.inl hw)) (h.up y z)
    · exact up_mono (fun w hw => (e w).mpr (.inr hw)) (g.up y z)
  · rcases (e y).mp hy with z | z
    · exact tie_mono (fun w hw => (e w).mpr (.inl hw)) (h.tie y z)
    · exact tie_mono (fun w hw => (e w).mpr (.inr hw)) (g.tie y z)
/-- one step of leaving out -/
def StepG (as ts : List (Int × Int)) (x : Int) (l fo m : List Int) : Prop := (∀ y, y ∈ fo ↔ Reach (withinL (turnL as) l) x y) ∧ ∀ y, y ∈ m ↔ Reach (withinL (both ts) fo) x y
theorem wt_up {as : List (Int × Int)} {l : List Int} {a b : Int} : Reach (withinL (turnL as) l) a b ↔ Reach (upIn as l) a b := by
  constructor
  · exact reach_mono fun ⟨x, y⟩ hp => by
      rw [mem_withinL, mem_turnL] at hp
      rw [mem_upIn]
      exact ⟨hp.1, hp.2.2, hp.2.1⟩
  · exact reach_mono fun ⟨x, y⟩ hp => by
      rw [mem_withinL, mem_turnL]
      rw [mem_upIn] at hp
      exact ⟨hp.1, hp.2.2, hp.2.1⟩
theorem wb_tie {ts : List (Int × Int)} {l : List Int} {a b : Int} : Reach (withinL (both ts) l) a b ↔ Reach (tieIn ts l) a b := by
  constructor
  · exact reach_mono fun ⟨x, y⟩ hp => by
      rw [mem_withinL, mem_both] at hp
      rw [mem_tieIn]
      exact hp
  · exact reach_mono fun ⟨x, y⟩ hp => by
      rw [mem_withinL, mem_both]
      rw [mem_tieIn] at hp
      exact hp
section
variable {n : Nat} {as ts : List (Int × Int)} {x : Int} {l fo m : List Int}
theorem step_sub (h : StepG as ts x l fo m) (hx : x ∈ l) : (∀ y ∈ fo, y ∈ l) ∧ (∀ y ∈ m, y ∈ fo) ∧ x ∈ m :=
  ⟨fun y hy => up_in (wt_up.mp ((h.1 y).mp hy)) hx, fun y hy => tie_in (wb_tie.mp ((h.2 y).mp hy)) ((h.1 x).mpr .refl), (h.2 x).mpr .refl⟩
theorem step_keep (h : StepG as ts x l fo m) {k : List Int} (g : Good n as ts x k) (s : ∀ y ∈ k, y ∈ l) : ∀ y ∈ k, y ∈ m := by
  have s1 : ∀ y ∈ k, y ∈ fo := fun y hy => (h.1 y).mpr (wt_up.mpr (up_mono s (g.up y hy)))
  exact fun y hy => (h.2 y).mpr (wb_tie.mpr (tie_mono s1 (g.tie y hy)))
theorem step_fix (h : StepG as ts x l fo l) (lot : Lot n l) (hx : x ∈ l) : Good n as ts x l := by
  obtain ⟨s1, s2, _⟩ := step_sub h hx
  refine ⟨lot, hx, fun y hy => wt_up.mp ((h.1 y).mp (s2 y hy)), fun y hy => ?_⟩
  exact tie_mono s1 (wb_tie.mp ((h.2 y).mp hy))
end
/-- a lot that is barred -/
structure Bar (n : Nat) (as ts : List (Int × Int)) (l : List Int) : Prop where
  lot : Lot n l
  two : 1 < l.length
  hang : hangB ts l = true
  head : headsL as l ≠ []
theorem bar_good {n : Nat} {as ts : List (Int × Int)} {l : List Int} (h : Bar n as ts l) : ∃ x, Good n as ts x l := by
  cases e : headsL as l with
  | nil => exact absurd e h.head
  | cons x t =>
    have hx : x ∈ headsL as l := by rw [e]; exact List.mem_cons_self ..
    obtain ⟨h1, h2⟩ := List.mem_filter.mp hx
    exact ⟨x, h.lot, h1, headB_iff.mp h2, (hang_iff h1).mp h.hang⟩
theorem good_bar {n : Nat} {as ts : List (Int × Int)} {x : Int} {l : List Int} (h : Good n as ts x l) (two : 1 < l.length) : Bar n as ts l := by
  refine ⟨h.lot, two, (hang_iff h.mem).mpr h.tie, fun e => ?_⟩
  have : x ∈ headsL as l := List.mem_filter.mpr ⟨h.mem, headB_iff.mpr h.up⟩
  rw [e] at this
  cases this
/-- plain: all greatest lots are of one thing -/
def PlainP (n : Nat) (as ts : List (Int × Int)) : Prop := ∀ x ∈ things n, (gl n as ts x).length ≤ 1
noncomputable def plainB (n : Nat) (as ts : List (Int × Int)) : Bool := @decide (PlainP n as ts) (Classical.propDecidable _)
theorem plainB_iff {n : Nat} {as ts : List (Int × Int)} : plainB n as ts = true ↔ PlainP n as ts := by
  unfold plainB
  exact @decide_eq_true_iff _ (Classical.propDecidable _)
theorem plain_bars {n : Nat} {as ts : List (Int × Int)} : PlainP n as ts ↔ ∀ l, ¬ Bar n as ts l := by
  constructor
  · intro h l b
    obtain ⟨x, g⟩ := bar_good b
    have := nodup_le (lt_nd g.lot.1) (m := gl n as ts x) (good_sub g)
    have := h x (g.lot.2 x g.mem)
    have := b.two
    omega
  · intro h x hx
    refine Nat.not_lt.mp fun c => h _ (good_bar (gl_good hx) c)
end Tk

namespace Tk
/-! parts by ties -/
noncomputable def bR (ps : List (Int × Int)) (i y : Int) : Bool := @decide (Reach ps i y) (Classical.propDecidable _)
theorem bR_iff {ps : List (Int × Int)} {i y : Int} : bR ps i y = true ↔ Reach ps i y := by
  unfold bR
  exact @decide_eq_true_iff _ (Classical.propDecidable _)
noncomputable def cl (n : Nat) (ts : List (Int × Int)) (t : Int) : List Int := (things n).filter (bR (both ts) t)
theorem mem_cl {n : Nat} {ts : List (Int × Int)} {t y : Int} : y ∈ cl n ts t ↔ y ∈ things n ∧ Reach (both ts) t y := by
  unfold cl
  rw [List.mem_filter, bR_iff]
theorem cl_eq {n : Nat} {ts : List (Int × Int)} {t y : Int} (h : Reach (both ts) t y) : cl n ts t = cl n ts y := by
  refine List.filter_congr fun z _ => ?_
  have : Reach (both ts) t z ↔ Reach (both ts) y z := ⟨fun r => (both_sym h).trans r, fun r => h.trans r⟩
  rw [Bool.eq_iff_iff, bR_iff, bR_iff]
  exact this
noncomputable def isHd (n : Nat) (ts : List (Int × Int)) (t : Int) : Bool := decide ((cl n ts t).headD (-1) = t)
/-- the parts, told in the sequence of their least things -/
noncomputable def partsL (n : Nat) (ts : List (Int × Int)) : List (List Int) := ((things n).filter (isHd n ts)).map (cl n ts)
theorem hd_mem {l : List Int} (h : l ≠ []) : l.headD (-1) ∈ l := by
  cases l with
  | nil => exact absurd rfl h
  | cons x l => simp
theorem cl_self {n : Nat} {ts : List (Int × Int)} {x : Int} (hx : x ∈ things n) : x ∈ cl n ts x := mem_cl.mpr ⟨hx, .refl⟩
theorem cl_hd {n : Nat} {ts : List (Int × Int)} {x : Int} (hx : x ∈ things n) : (cl n ts x).headD (-1) ∈ things n ∧ cl n ts ((cl n ts x).headD (-1)) = cl n ts x := by
  have hne : cl n ts x ≠ [] := fun e => by have := cl_self (ts := ts) hx; rw [e] at this; exact nomatch this
  have hm := mem_cl.mp (hd_mem hne)
  exact ⟨hm.1, (cl_eq hm.2).symm⟩
/-- a list of ints that rises, with these members -/
theorem rise_cl {n : Nat} {ts : List (Int × Int)} {t : Int} {l : List Int} (h : l.Pairwise (· < ·)) (hm : ∀ y, y ∈ l ↔ y ∈ things n ∧ Reach (both ts) t y) : l = cl n ts t :=
  rise_eq h ((things_rise n).filter _) fun y => by rw [hm y]; exact mem_cl.symm
theorem both_congr {ts us : List (Int × Int)} (h : ∀ p, p ∈ ts ↔ p ∈ us) {a b : Int} : Reach (both ts) a b ↔ Reach (both us) a b :=
  ⟨fun r => r.sub fun p hp => by
    rcases mem_both.mp hp with c | c
    · exact mem_both.mpr (.inl ((h p).mp c))
    · exact mem_both.mpr (.inr ((h _).mp c)), fun r => r.sub fun p hp => by
    rcases mem_both.mp hp with c | c
    · exact mem_both.mpr (.inl ((h p).mpr c))
    · exact mem_both.mpr (.inr ((h _).mpr c))⟩
theorem partsL_congr {n : Nat} {ts us : List (Int × Int)} (h : ∀ p, p ∈ ts ↔ p ∈ us) : partsL n ts = partsL n us := by
  have e : cl n ts = cl n us := by
    funext t
    refine List.filter_congr fun z _ => ?_
    rw [Bool.eq_iff_iff, bR_iff, bR_iff]
    exact both_congr h
  unfold partsL isHd
  rw [e]
theorem parts_flat_mem {n : Nat} {ts : List (Int × Int)} {y : Int} : y ∈ (partsL n ts).flatten ↔ y ∈ things n := by
  rw [List.mem_flatten]
  constructor
  · rintro ⟨l, hl, hy⟩
    obtain ⟨t, _, rfl⟩ := List.mem_map.mp hl
    exact (mem_cl.mp hy).1
  · intro hy
    obtain ⟨a, b⟩ := cl_hd (ts := ts) hy
    refine ⟨cl n ts ((cl n ts y).headD (-1)), List.mem_map.mpr ⟨_, List.mem_filter.mpr ⟨a, ?_⟩, rfl⟩, ?_⟩
    · unfold isHd
      rw [decide_eq_true_eq, b]
    · rw [b]
      exact cl_self hy
theorem parts_flat_nodup {n : Nat} {ts : List (Int × Int)} : (partsL n ts).flatten.Nodup := by
  show List.Pairwise _ _
  rw [List.pairwise_flatten]
  constructor
  · intro l hl
    obtain ⟨t, _, rfl⟩ := List.mem_map.mp hl
    exact (things_nodup n).filter _
  · unfold partsL
    rw [List.pairwise_map]
    refine List.Pairwise.imp_of_mem (fun {a b} ha hb hne x hx y hy e => hne ?_) ((things_nodup n).filter _)
    subst e
    have e1 := cl_eq (n := n) (mem_cl.mp hx).2
    have e2 := cl_eq (n := n) (mem_cl.mp hy).2
    have h1 : (cl n ts a).headD (-1) = a := by simpa [isHd] using (List.mem_filter.mp ha).2
    have h2 : (cl n ts b).headD (-1) = b := by simpa [isHd] using (List.mem_filter.mp hb).2
    rw [← h1, ← h2, e1, e2]
end Tk

namespace Tk
/-! the order, exactly; all lists of all things -/
def ordGo (ps : List (Int × Int)) : Nat → List Int → List Int
  | 0, _ => []
  | k + 1, l => match freeL ps l with
    | [] => []
    | x :: _ => x :: ordGo ps k (l.erase x)
def ordL (n : Nat) (ps : List (Int × Int)) : List Int := ordGo ps n (things n)
theorem ordGo_stop {ps : List (Int × Int)} {l : List Int} (h : freeL ps l = []) : ∀ k, ordGo ps k l = []
  | 0 => rfl
  | k + 1 => by unfold ordGo; rw [h]
theorem ordGo_nil {ps : List (Int × Int)} (k : Nat) : ordGo ps k [] = [] := ordGo_stop rfl k
theorem ordGo_step {ps : List (Int × Int)} {l fr : List Int} {x : Int} (h : freeL ps l = x :: fr) : ordGo ps l.length l = x :: ordGo ps (l.erase x).length (l.erase x) := by
  have hx : x ∈ l := (mem_freeL.mp (by rw [h]; exact List.mem_cons_self ..)).1
  have e := List.length_erase_of_mem hx
  have hp : 0 < l.length := List.length_pos_of_mem hx
  obtain ⟨k, hk⟩ : ∃ k, l.length = k + 1 := ⟨l.length - 1, by omega⟩
  rw [hk, e, hk]
  show (match freeL ps l with | [] => [] | x :: _ => x :: ordGo ps k (l.erase x)) = _
  rw [h]; rfl
def ext (n : Nat) (o : List Int) : List (List Int) := ((things n).filter (fun x => !decide (x ∈ o))).map (fun x => o ++ [x])
def lsts (n : Nat) : Nat → List (List Int)
  | 0 => [[]]
  | k + 1 => (lsts n k).flatMap (ext n)
def ex (n : Nat) : Nat → List Int → List (List Int)
  | 0, o => [o]
  | k + 1, o => (ext n o).flatMap (ex n k)
theorem ex_snoc (n : Nat) : ∀ (k : Nat) (o : List Int), ex n (k + 1) o = (ex n k o).flatMap (ext n)
  | 0, o => by
    show (ext n o).flatMap (fun o => [o]) = [o].flatMap (ext n)
    simp
  | k + 1, o => by
    show (ext n o).flatMap (ex n (k + 1)) = ((ext n o).flatMap (ex n k)).flatMap (ext n)
    rw [List.flatMap_assoc]
    congr 1
    funext o'
    exact ex_snoc n k o'
theorem lsts_ex (n : Nat) : ∀ k : Nat, lsts n k = ex n k []
  | 0 => rfl
  | k + 1 => by
    rw [ex_snoc, ← lsts_ex n k]; rfl
def tOk (ps : List (Int × Int)) (o : List Int) : Bool := ps.all fun p => decide (o.idxOf p.1 < o.idxOf p.2)
theorem tOk_iff {ps : List (Int × Int)} {o : List Int} : tOk ps o = true ↔ ∀ p ∈ ps, o.idxOf p.1 < o.idxOf p.2 := by
  unfold tOk
  simp [List.all_eq_true]
theorem tOk_acy {ps : List (Int × Int)} {o : List Int} (h : tOk ps o = true) : Acy ps := ⟨fun x => o.idxOf x, tOk_iff.mp h⟩
theorem find_none {ps : List (Int × Int)} (h : ¬ Acy ps) (ls : List (List Int)) : ls.find? (tOk ps) = none := by
  rw [List.find?_eq_none]
  intro o _ c
  exact h (tOk_acy c)
theorem idx_at {o : List Int} {x : Int} (h : x ∈ o) : o[o.idxOf x]? = some x := by
  have hl := List.idxOf_lt_length_iff.mpr h
  rw [List.getElem?_eq_getElem hl, List.getElem_idxOf]
theorem topo_ok {n : Nat} {ps : List (Int × Int)} {o : List Int} (h : OInv n ps o []) (hr : ∀ p ∈ ps, p.1 ∈ things n ∧ p.2 ∈ things n) : tOk ps o = true := by
  refine tOk_iff.mpr fun p hp => ?_
  have mem : ∀ x, x ∈ things n → x ∈ o := fun x hx => by
    rcases (h.al x).mp hx with q | q
    · exact q
    · exact nomatch q
  exact h.at_ p hp _ _ (idx_at (mem _ (hr p hp).1)) (idx_at (mem _ (hr p hp).2))
theorem ex_pre {n : Nat} : ∀ {k : Nat} {o o' : List Int}, o' ∈ ex n k o → ∃ r, o' = o ++ r
  | 0, o, o', h => by
    have : o' = o := by simpa [ex] using h
    exact ⟨[], by simp [this]⟩
  | k + 1, o, o', h => by
    obtain ⟨o1, h1, h2⟩ := List.mem_flatMap.mp h
    obtain ⟨x, _, rfl⟩ := List.mem_map.mp h1
    obtain ⟨r, rfl⟩ := ex_pre h2
    exact ⟨[x] ++ r, by simp⟩
theorem erase_is {l : List Int} (hn : l.Nodup) (x : Int) : l.erase x = l.filter fun y => !decide (y = x) := by
  induction l with
  | nil => rfl
  | cons y l ih =>
    have hn' := List.nodup_cons.mp hn
    rw [List.erase_cons, List.filter_cons]
    by_cases e : y = x
    · subst e
      have e1 : (y == y) = true := by simp
      rw [if_pos e1]
      have e2 : (!decide (y = y)) = false := by simp
      rw [e2]
      simp only [Bool.false_eq_true, if_false]
      symm
      rw [List.filter_eq_self]
      intro a ha
      simp
      intro c
      subst c
      exact hn'.1 ha
    · have e1 : (y == x) = false := by simpa using e
      have e2 : (!decide (y = x)) = true := by simp [e]
      rw [e1, e2]
      simp only [Bool.false_eq_true, if_false, if_true]
      rw [ih hn'.2]
theorem find_some {n : Nat} {ps : List (Int × Int)} (ha : Acy ps) (hr : ∀ p ∈ ps, p.1 ∈ things n ∧ p.2 ∈ things n) : ∀ (k : Nat) (o l : List Int), OInv n ps o l → l.length = k → l = (things n).filter (fun x => !decide (x ∈ o)) →
    (ex n k o).find? (tOk ps) = some (o ++ ordGo ps k l) ∧ (ordGo ps k l).length = k
  | 0, o, l, inv, hl, _ => by
    have : l = [] := List.length_eq_zero_iff.mp hl
    subst this
    refine ⟨?_, rfl⟩
    show [o].find? (tOk ps) = some (o ++ [])
    rw [List.find?_cons, topo_ok inv hr, List.append_nil]
  | k + 1, o, l, inv, hl, hf => by
    have lne : l ≠ [] := by intro e; rw [e] at hl; cases hl
    obtain ⟨x, fr, hfr⟩ : ∃ x fr, freeL ps l = x :: fr := by
      cases e : freeL ps l with
      | nil => exact absurd e (freeL_ne ha lne)
      | cons x fr => exact ⟨x, fr, rfl⟩
    have hxf : x ∈ freeL ps l := by rw [hfr]; exact List.mem_cons_self ..
    have hx : x ∈ l := (mem_freeL.mp hxf).1
    have le := List.length_erase_of_mem hx
    have inv' := oinv_step inv (fun p hp => (hr p hp).1) hxf
    have hf' : l.erase x = (things n).filter (fun y => !decide (y ∈ o ++ [x])) := by
      rw [erase_is inv.nl, hf, List.filter_filter]
      refine List.filter_congr fun y _ => ?_
      simp only [List.mem_append, List.mem_singleton]
      by_cases c : y = x <;> by_cases d : y ∈ o <;> simp [c, d]
    obtain ⟨ih, ihl⟩ := find_some ha hr k (o ++ [x]) (l.erase x) inv' (by omega) hf'
    have eg : ordGo ps (k + 1) l = x :: ordGo ps k (l.erase x) := by
      have := ordGo_step hfr
      rw [hl, le, hl] at this
      exact this
    rw [eg]
    refine ⟨?_, by simp [ihl]⟩
    have hfr' := hfr
    unfold freeL at hfr'
    obtain ⟨l1, l2, e, h1, _, _⟩ := List.filter_eq_cons_iff.mp hfr'
    show ((ext n o).flatMap (ex n k)).find? (tOk ps) = _
    have ee : ext n o = l.map fun x => o ++ [x] := by
      unfold ext
      rw [← hf]
    rw [List.find?_flatMap, ee, e, List.map_append, List.findSome?_append, List.map_cons, List.findSome?_cons, ih]
    have none1 : (l1.map fun x => o ++ [x]).findSome? (fun o' => (ex n k o').find? (tOk ps)) = none := by
      rw [List.findSome?_eq_none_iff]
      intro o1 ho1
      obtain ⟨y, hy, rfl⟩ := List.mem_map.mp ho1
      have hyl : y ∈ l := by rw [e]; exact List.mem_append_left _ hy
      have hnf := h1 y hy
      have hpu : y ∈ pushedL ps l := by simpa using hnf
      obtain ⟨p, hpm, hs, ey⟩ := mem_pushedL.mp hpu
      rw [List.find?_eq_none]
      intro o2 ho2 c
      obtain ⟨r, rfl⟩ := ex_pre ho2
      have lt := tOk_iff.mp c p hpm
      rw [ey] at lt
      have n1 : p.1 ∉ o := fun q => inv.dj _ q hs
      have n2 : y ∉ o := fun q => inv.dj _ q hyl
      rw [List.append_assoc] at lt
      have e1 : List.idxOf p.1 (o ++ ([y] ++ r)) = List.idxOf p.1 ([y] ++ r) + o.length := by rw [List.idxOf_append, if_neg n1]
      have e2 : List.idxOf y (o ++ ([y] ++ r)) = List.idxOf y ([y] ++ r) + o.length := by rw [List.idxOf_append, if_neg n2]
      have z : List.idxOf y ([y] ++ r) = 0 := by simp
      rw [e1, e2, z] at lt
      omega
    rw [none1]
    simp
    rw [← e]
theorem go_end {n : Nat} {ps : List (Int × Int)} (hr : ∀ p ∈ ps, p.1 ∈ things n ∧ p.2 ∈ things n) : ∀ (k : Nat) (o l : List Int), OInv n ps o l → l.length = k → (ordGo ps k l).length = k → OInv n ps (o ++ ordGo ps k l) []
  | 0, o, l, inv, hl, _ => by
    have : l = [] := List.length_eq_zero_iff.mp hl
    subst this
    show OInv n ps (o ++ []) []
    rw [List.append_nil]; exact inv
  | k + 1, o, l, inv, hl, hg => by
    cases hfr : freeL ps l with
    | nil =>
      rw [ordGo_stop hfr] at hg
      cases hg
    | cons x fr =>
      have hxf : x ∈ freeL ps l := by rw [hfr]; exact List.mem_cons_self ..
      have hx : x ∈ l := (mem_freeL.mp hxf).1
      have le := List.length_erase_of_mem hx
      have eg : ordGo ps (k + 1) l = x :: ordGo ps k (l.erase x) := by
        have := ordGo_step hfr
        rw [hl, le, hl] at this
        exact this
      rw [eg] at hg ⊢
      have := go_end hr k (o ++ [x]) (l.erase x) (oinv_step inv (fun p hp => (hr p hp).1) hxf) (by omega) (by simpa using hg)
      rw [List.append_assoc] at this
      exact this
section
variable {n : Nat} {ps : List (Int × Int)} (hr : ∀ p ∈ ps, p.1 ∈ things n ∧ p.2 ∈ things n)
include hr
theorem full_acy : (ordL n ps).length = n ↔ Acy ps := by
  constructor
  · intro h
    have := go_end hr n [] (things n) (oinv_0 n ps) (things_len n) h
    exact tOk_acy (topo_ok this hr)
  · intro h
    exact (find_some h hr n [] (things n) (oinv_0 n ps) (things_len n) (List.filter_eq_self.mpr (by simp)).symm).2
theorem find_ord : (lsts n n).find? (tOk ps) = if (ordL n ps).length = n then some (ordL n ps) else none := by
  by_cases c : (ordL n ps).length = n
  · rw [if_pos c, lsts_ex, (find_some ((full_acy hr).mp c) hr n [] (things n) (oinv_0 n ps) (things_len n) (List.filter_eq_self.mpr (by simp)).symm).1]
    rfl
  · rw [if_neg c]
    exact find_none (fun h => c ((full_acy hr).mpr h)) _
end
theorem freeL_congr {ps qs : List (Int × Int)} (h : ∀ p, p ∈ ps ↔ p ∈ qs) (l : List Int) : freeL ps l = freeL qs l := by
  unfold freeL
  refine List.filter_congr fun x _ => ?_
  have : x ∈ pushedL ps l ↔ x ∈ pushedL qs l := by
    rw [mem_pushedL, mem_pushedL]
    constructor
    · rintro ⟨p, a, b⟩; exact ⟨p, (h p).mp a, b⟩
    · rintro ⟨p, a, b⟩; exact ⟨p, (h p).mpr a, b⟩
  by_cases c : x ∈ pushedL ps l
  · simp [c, this.mp c]
  · have d : x ∉ pushedL qs l := fun q => c (this.mpr q)
    simp [c, d]
theorem ordGo_congr {ps qs : List (Int × Int)} (h : ∀ p, p ∈ ps ↔ p ∈ qs) : ∀ (k : Nat) (l : List Int), ordGo ps k l = ordGo qs k l
  | 0, _ => rfl
  | k + 1, l => by
    unfold ordGo
    rw [freeL_congr h l]
    cases freeL qs l with
    | nil => rfl
    | cons x fr =>
      show x :: _ = x :: _
      rw [ordGo_congr h k]
theorem ordL_congr {n : Nat} {ps qs : List (Int × Int)} (h : ∀ p, p ∈ ps ↔ p ∈ qs) : ordL n ps = ordL n qs := ordGo_congr h n _
theorem ext_mem {n : Nat} {o o' : List Int} (h : o' ∈ ext n o) : ∃ x ∈ things n, x ∉ o ∧ o' = o ++ [x] := by
  obtain ⟨x, hx, rfl⟩ := List.mem_map.mp h
  obtain ⟨h1, h2⟩ := List.mem_filter.mp hx
  exact ⟨x, h1, by simpa using h2, rfl⟩
theorem lsts_mem {n : Nat} : ∀ {k : Nat} {o : List Int}, o ∈ lsts n k → o.Nodup ∧ (∀ x ∈ o, x ∈ things n) ∧ o.length = k
  | 0, o, h => by
    have : o = [] := by simpa [lsts] using h
    subst this
    exact ⟨List.nodup_nil, (fun _ h => nomatch h), rfl⟩
  | k + 1, o, h => by
    obtain ⟨o1, h1, h2⟩ := List.mem_flatMap.mp h
    obtain ⟨x, hx, nx, rfl⟩ := ext_mem h2
    obtain ⟨a, b, c⟩ := lsts_mem h1
    refine ⟨?_, ?_, by simp [c]⟩
    · rw [List.nodup_append]
      refine ⟨a, by simp, ?_⟩
      intro y hy z hz e
      simp at hz
      subst hz
      subst e
      exact nx hy
    · intro y hy
      rcases List.mem_append.mp hy with q | q
      · exact b y q
      · simp at q
        exact q ▸ hx
theorem lsts_all {n : Nat} {o : List Int} (h : o ∈ lsts n n) {x : Int} (hx : x ∈ things n) : x ∈ o := by
  obtain ⟨a, b, c⟩ := lsts_mem h
  by_cases d : x ∈ o
  · exact d
  · have := nodup_le (l := x :: o) (m := things n) (List.nodup_cons.mpr ⟨d, a⟩) (fun y hy => by
      rcases List.mem_cons.mp hy with q | q
      · exact q ▸ hx
      · exact b y q)
    rw [things_len, List.length_cons, c] at this
    omega
theorem flat_len {α β : Type} {f : α → List β} {m : Nat} : ∀ {l : List α}, (∀ x ∈ l, (f x).length ≤ m) → (l.flatMap f).length ≤ l.length * m
  | [], _ => by simp
  | x :: l, h => by
    have h1 := h x (List.mem_cons_self ..)
    have h2 := flat_len (l := l) fun y hy => h y (List.mem_cons_of_mem _ hy)
    rw [List.flatMap_cons, List.length_append, List.length_cons, Nat.succ_mul]
    omega
theorem ext_len {n : Nat} (o : List Int) : (ext n o).length ≤ n := by
  unfold ext
  rw [List.length_map]
  have := List.length_filter_le (fun x => !decide (x ∈ o)) (things n)
  rw [things_len] at this
  exact this
theorem lsts_len {n : Nat} : ∀ k : Nat, (lsts n k).length ≤ n ^ k
  | 0 => by simp [lsts]
  | k + 1 => by
    have h1 := flat_len (l := lsts n k) (f := ext n) (m := n) fun x _ => ext_len x
    have h2 := lsts_len k (n := n)
    have h3 := Nat.mul_le_mul_right n h2
    rw [Nat.pow_succ]
    exact Nat.le_trans h1 h3
theorem lsts_few {n k : Nat} (hn : n ≤ 5) (hk : k ≤ 5) : (lsts n k).length ≤ 3125 := by
  have h1 := lsts_len k (n := n)
  have h2 : n ^ k ≤ 5 ^ k := Nat.pow_le_pow_left hn k
  have h3 : 5 ^ k ≤ 5 ^ 5 := Nat.pow_le_pow_right (by decide) hk
  have h4 : (5 : Nat) ^ 5 = 3125 := by decide
  omega
end Tk

/-! plain mathematics: one arrow or tie more -/
namespace Tk
theorem acy_put {as : List (Int × Int)} {i j : Int} (ac : Acy as) : Acy (as ++ [(i, j)]) ↔ ¬ Reach as j i := by
  constructor
  · rintro ⟨r, hr⟩ h
    have le : ∀ {a b : Int}, Reach as a b → r a ≤ r b := by
      intro a b h
      induction h with
      | refl => exact Nat.le_refl _
      | tail _ hp ih => exact Nat.le_trans ih (Nat.le_of_lt (hr _ (List.mem_append_left _ hp)))
    have := le h
    have h2 : r i < r j := hr (i, j) (by simp)
    omega
  · intro no
    obtain ⟨r, hr⟩ := ac
    refine ⟨fun x => r x + if @decide (Reach as j x) (Classical.propDecidable _) = true then r i + 1 else 0, fun p hp => ?_⟩
    show r p.1 + _ < r p.2 + _
    rcases List.mem_append.mp hp with h | h
    · have lt := hr p h
      by_cases c : Reach as j p.1
      · have c2 : Reach as j p.2 := .tail c (by obtain ⟨a, b⟩ := p; exact h)
        rw [if_pos (@decide_eq_true _ (Classical.propDecidable _) c), if_pos (@decide_eq_true _ (Classical.propDecidable _) c2)]
        omega
      · rw [if_neg (fun z => c (@of_decide_eq_true _ (Classical.propDecidable _) z))]
        omega
    · rw [List.mem_singleton.mp h]
      show r i + _ < r j + _
      rw [if_neg (fun z => no (@of_decide_eq_true _ (Classical.propDecidable _) z)), if_pos (@decide_eq_true _ (Classical.propDecidable _) .refl)]
      omega
def rowT (n i : Nat) : List (Int × Int) := (List.range (n - (i + 1))).map fun j => ((i : Int), ((i + 1 + j : Nat) : Int))
def rowsT (n k : Nat) : List (Int × Int) := (List.range k).flatMap (rowT n)
theorem rowsT_succ (n k : Nat) : rowsT n (k + 1) = rowsT n k ++ rowT n k := by
  unfold rowsT
  rw [List.range_succ, List.flatMap_append]
  simp
theorem mem_rowsT {n : Nat} {x y : Int} : (x, y) ∈ rowsT n n ↔ 0 ≤ x ∧ x < y ∧ y < n := by
  unfold rowsT rowT
  simp only [List.mem_flatMap, List.mem_range, List.mem_map, Prod.mk.injEq]
  constructor
  · rintro ⟨i, hi, j, hj, rfl, rfl⟩
    omega
  · rintro ⟨h1, h2, h3⟩
    exact ⟨x.toNat, by omega, (y - x - 1).toNat, by omega, by omega, by omega⟩
theorem rowsT_few {n k : Nat} (h : n ≤ 6) (hk : k ≤ 6) : (rowsT n k).length ≤ 36 := by
  have h1 : n = 0 ∨ n = 1 ∨ n = 2 ∨ n = 3 ∨ n = 4 ∨ n = 5 ∨ n = 6 := by omega
  have h2 : k = 0 ∨ k = 1 ∨ k = 2 ∨ k = 3 ∨ k = 4 ∨ k = 5 ∨ k = 6 := by omega
  rcases h1 with rfl | rfl | rfl | rfl | rfl | rfl | rfl <;> rcases h2 with rfl | rfl | rfl | rfl | rfl | rfl | rfl <;> decide
theorem rowsT_nd {n : Nat} (h : n ≤ 6) : (rowsT n n).Nodup := by
  have h1 : n = 0 ∨ n = 1 ∨ n = 2 ∨ n = 3 ∨ n = 4 ∨ n = 5 ∨ n = 6 := by omega
  rcases h1 with rfl | rfl | rfl | rfl | rfl | rfl | rfl <;> decide +kernel
end Tk

namespace Tk
/-! more arrows and ties; bars and the parts by ties -/
section
variable {n : Nat} {as as' ts ts' : List (Int × Int)}
theorem up_sub {l : List Int} (s : ∀ p ∈ as, p ∈ as') {a b : Int} (h : Reach (upIn as l) a b) : Reach (upIn as' l) a b :=
  reach_mono (fun ⟨x, y⟩ hp => by rw [mem_upIn] at hp ⊢; exact ⟨s _ hp.1, hp.2⟩) h
theorem tie_sub {l : List Int} (s : ∀ p ∈ ts, p ∈ ts') {a b : Int} (h : Reach (tieIn ts l) a b) : Reach (tieIn ts' l) a b :=
  reach_mono (fun ⟨x, y⟩ hp => by rw [mem_tieIn] at hp ⊢; exact ⟨hp.1.elim (fun z => .inl (s _ z)) (fun z => .inr (s _ z)), hp.2⟩) h
theorem good_more {x : Int} {l : List Int} (sa : ∀ p ∈ as, p ∈ as') (st : ∀ p ∈ ts, p ∈ ts') (g : Good n as ts x l) : Good n as' ts' x l :=
  ⟨g.lot, g.mem, fun y hy => up_sub sa (g.up y hy), fun y hy => tie_sub st (g.tie y hy)⟩
theorem bar_more {l : List Int} (sa : ∀ p ∈ as, p ∈ as') (st : ∀ p ∈ ts, p ∈ ts') (b : Bar n as ts l) : Bar n as' ts' l := by
  obtain ⟨x, g⟩ := bar_good b
  exact good_bar (good_more sa st g) b.two
theorem plain_more (sa : ∀ p ∈ as, p ∈ as') (st : ∀ p ∈ ts, p ∈ ts') (h : PlainP n as' ts') : PlainP n as ts := by
  rw [plain_bars] at h ⊢
  exact fun l b => h l (bar_more sa st b)
theorem gl_more {x : Int} (sa : ∀ p ∈ as, p ∈ as') (st : ∀ p ∈ ts, p ∈ ts') : ∀ y ∈ gl n as ts x, y ∈ gl n as' ts' x := fun y hy => by
  obtain ⟨l, g, hl⟩ := mem_gl.mp hy
  exact mem_gl.mpr ⟨l, good_more sa st g, hl⟩
end
section
variable {n : Nat} {as ts : List (Int × Int)}
theorem tie_both {l : List Int} {a b : Int} (h : Reach (tieIn ts l) a b) : Reach (both ts) a b :=
  reach_mono (fun ⟨x, y⟩ hp => by rw [mem_tieIn] at hp; rw [mem_both]; exact hp.1) h
theorem one_in : ∀ {L : List (List Int)} {x : Int}, L.flatten.Nodup → x ∈ L.flatten → (L.filter fun p => decide (x ∈ p)).length = 1
  | [], x, _, h => by simp at h
  | p :: L, x, nd, h => by
    rw [List.flatten_cons] at nd h
    obtain ⟨n1, n2, n3⟩ := List.nodup_append.mp nd
    by_cases c : x ∈ p
    · rw [List.filter_cons_of_pos (by simp [c])]
      have : (L.filter fun p => decide (x ∈ p)) = [] := by
        rw [List.filter_eq_nil_iff]
        intro q hq e
        have e' : x ∈ q := by simpa using e
        exact n3 x c x (List.mem_flatten.mpr ⟨q, hq, e'⟩) rfl
      rw [this]; rfl
    · rw [List.filter_cons_of_neg (by simp [c])]
      exact one_in n2 ((List.mem_append.mp h).resolve_left c)
theorem part_closed {p : List Int} (hp : p ∈ partsL n ts) {x y : Int} (hx : x ∈ p) (hy : y ∈ things n) (r : Reach (both ts) x y) : y ∈ p := by
  obtain ⟨t, _, rfl⟩ := List.mem_map.mp hp
  exact mem_cl.mpr ⟨hy, (mem_cl.mp hx).2.trans r⟩
def insB (l m : List Int) : Bool := l.all fun z => decide (z ∈ m)
theorem insB_iff {l m : List Int} : insB l m = true ↔ ∀ z ∈ l, z ∈ m := by
  unfold insB
  rw [List.all_eq_true]
  simp
theorem bar_parts {l : List Int} (b : Bar n as ts l) : ((partsL n ts).filter fun p => insB l p).length = 1 := by
  obtain ⟨x, g⟩ := bar_good b
  have e : ((partsL n ts).filter fun p => insB l p) = (partsL n ts).filter fun p => decide (x ∈ p) := by
    refine List.filter_congr fun p hp => ?_
    rw [Bool.eq_iff_iff, insB_iff, decide_eq_true_eq]
    exact ⟨fun h => h x g.mem, fun h y hy => part_closed hp h (g.lot.2 y hy) (tie_both (g.tie y hy))⟩
  rw [e]
  exact one_in parts_flat_nodup (parts_flat_mem.mpr (g.lot.2 x g.mem))
/-- the ties that begin in a part -/
def tiesOf (ts : List (Int × Int)) (p : List Int) : List (Int × Int) := ts.filter fun t => decide (t.1 ∈ p)
theorem mem_tiesOf {p : List Int} {q : Int × Int} : q ∈ tiesOf ts p ↔ q ∈ ts ∧ q.1 ∈ p := by
  unfold tiesOf
  rw [List.mem_filter]
  simp
theorem bar_part {p l : List Int} (pt : ∀ q ∈ ts, q.1 ∈ things n ∧ q.2 ∈ things n) (hp : p ∈ partsL n ts) : Bar n as (tiesOf ts p) l ↔ Bar n as ts l ∧ ∀ z ∈ l, z ∈ p := by
  constructor
  · intro b
    have sub : ∀ q ∈ tiesOf ts p, q ∈ ts := fun q hq => (mem_tiesOf.mp hq).1
    refine ⟨bar_more (fun _ h => h) sub b, ?_⟩
    obtain ⟨x, g⟩ := bar_good b
    -- some other thing of the lot is next to x
    have key : ∀ {a b : Int}, Reach (tieIn (tiesOf ts p) l) a b → a ≠ b → b ∈ p := by
      intro a b h ne
      cases h with
      | refl => exact absurd rfl ne
      | @tail c d _ hq =>
        obtain ⟨h1, _, _⟩ := mem_tieIn.mp hq
        rcases h1 with z | z
        · obtain ⟨z1, z2⟩ := mem_tiesOf.mp z
          exact part_closed hp z2 (pt _ z1).2 (.tail .refl (mem_both.mpr (.inl z1)))
        · exact (mem_tiesOf.mp z).2
    obtain ⟨y, hy, ne⟩ : ∃ y ∈ l, x ≠ y := by
      refine Classical.byContradiction fun no => ?_
      have : ∀ y ∈ l, x = y := fun y hy => Classical.byContradiction fun ne => no ⟨y, hy, ne⟩
      have h1 := nodup_le (lt_nd g.lot.1) (m := [x]) fun y hy => by rw [this y hy]; simp
      have := b.two
      simp at h1
      omega
    have yp := key (g.tie y hy) ne
    have xp : x ∈ p := part_closed hp yp (g.lot.2 x g.mem) (tie_both (tie_sym (tie_sub sub (g.tie y hy))))
    exact fun z hz => part_closed hp xp (g.lot.2 z hz) (tie_both (tie_sub sub (g.tie z hz)))
  · rintro ⟨b, s⟩
    obtain ⟨x, g⟩ := bar_good b
    refine good_bar ⟨g.lot, g.mem, g.up, fun y hy => ?_⟩ b.two
    refine reach_mono (fun ⟨u, v⟩ hq => ?_) (g.tie y hy)
    obtain ⟨h1, h2, h3⟩ := mem_tieIn.mp hq
    refine mem_tieIn.mpr ⟨?_, h2, h3⟩
    rcases h1 with z | z
    · exact .inl (mem_tiesOf.mpr ⟨z, s _ h2⟩)
    · exact .inr (mem_tiesOf.mpr ⟨z, s _ h3⟩)
end
/-- nothing later in the order leads to what is earlier -/
theorem topo_le {n : Nat} {as : List (Int × Int)} {o : List Int} (h : Topo n as o) (th : ∀ p ∈ as, p.1 ∈ things n ∧ p.2 ∈ things n) {a b : Int} (r : Reach as a b) : ∀ {i j : Nat}, o[i]? = some a → o[j]? = some b → i ≤ j := by
  induction r with
  | refl =>
    intro i j hi hj
    have hil := (List.getElem?_eq_some_iff.mp hi).1
    have := (List.getElem?_inj hil h.nd).mp (hi.trans hj.symm)
    omega
  | @tail c d _ hp ih =>
    intro i j hi hj
    have hc : c ∈ o := (h.mem c).mpr (th _ hp).1
    obtain ⟨k, hk⟩ := List.getElem?_of_mem hc
    have h1 := ih hi hk
    have h2 := h.at_ _ hp k j hk hj
    omega
theorem topo_put {n : Nat} {as : List (Int × Int)} {o : List Int} (h : Topo n as o) (ac : Acy as) (th : ∀ p ∈ as, p.1 ∈ things n ∧ p.2 ∈ things n) {i j : Nat} {a b : Int} (hi : o[i]? = some a) (hj : o[j]? = some b) (lt : i < j) : Acy (as ++ [(a, b)]) :=
  (acy_put ac).mpr fun r => by
    have := topo_le h th r hj hi
    omega
end Tk

namespace Tk
/-- places told so far: before (i, j) -/
structure Sn (n i j : Nat) (ix : List (Nat × Nat)) : Prop where
  nd : ix.Nodup
  bd : ∀ q ∈ ix, q.1 < q.2 ∧ q.2 < n ∧ (q.1 < i ∨ (q.1 = i ∧ q.2 < j))
theorem sn_0 (n i j : Nat) : Sn n i j [] := ⟨List.nodup_nil, (fun _ h => nomatch h)⟩
theorem sn_up {n i j i' j' : Nat} {ix : List (Nat × Nat)} (h : Sn n i j ix) (hh : i < i' ∨ (i = i' ∧ j ≤ j')) : Sn n i' j' ix :=
  ⟨h.nd, fun q hq => by
    obtain ⟨a, b, c⟩ := h.bd q hq
    refine ⟨a, b, ?_⟩
    rcases c with c | ⟨c1, c2⟩ <;> rcases hh with d | ⟨d1, d2⟩
    · left; omega
    · left; omega
    · left; omega
    · right; omega⟩
theorem sn_end {n i j : Nat} {ix : List (Nat × Nat)} (h : Sn n i j ix) (hj : n ≤ j) : Sn n (i + 1) 0 ix :=
  ⟨h.nd, fun q hq => by
    obtain ⟨a, b, c⟩ := h.bd q hq
    exact ⟨a, b, by left; omega⟩⟩
theorem sn_put {n i j : Nat} {ix : List (Nat × Nat)} (h : Sn n i j ix) (hij : i < j) (hj : j < n) : Sn n i (j + 1) (ix ++ [(i, j)]) := by
  refine ⟨?_, ?_⟩
  · rw [List.nodup_append]
    refine ⟨h.nd, by simp, ?_⟩
    intro a ha b hb e
    simp at hb
    subst hb
    subst e
    have := (h.bd _ ha).2.2
    simp at this
  · intro q hq
    rcases List.mem_append.mp hq with c | c
    · obtain ⟨a, b, d⟩ := h.bd q c
      exact ⟨a, b, by omega⟩
    · simp at c
      subst c
      exact ⟨hij, hj, by right; exact ⟨rfl, by simp⟩⟩
theorem sn_few {n i j : Nat} {ix : List (Nat × Nat)} (h : Sn n i j ix) (hn : n ≤ 6) : ix.length ≤ 36 := by
  have sub : ∀ q ∈ ix, q ∈ (List.range 6).flatMap fun a => (List.range 6).map fun b => (a, b) := fun q hq => by
    obtain ⟨a, b, _⟩ := h.bd q hq
    simp only [List.mem_flatMap, List.mem_map, List.mem_range]
    exact ⟨q.1, by omega, q.2, by omega, rfl⟩
  have := nodup_le h.nd sub
  have e : ((List.range 6).flatMap fun a => (List.range 6).map fun b => (a, b)).length = 36 := by decide
  omega
/-- the item at a place -/
def it (o : List Int) (i : Nat) : Int := o.getD i 0
def prA (o : List Int) (q : Nat × Nat) : Int × Int := (it o q.1, it o q.2)
def prT (o : List Int) (q : Nat × Nat) : Int × Int := (if it o q.2 < it o q.1 then it o q.2 else it o q.1, if it o q.2 > it o q.1 then it o q.2 else it o q.1)
theorem it_some {o : List Int} {i : Nat} (h : i < o.length) : o[i]? = some (it o i) := by
  unfold it
  rw [List.getD_eq_getElem?_getD, List.getElem?_eq_getElem h]; rfl
theorem it_mem {o : List Int} {i : Nat} (h : i < o.length) : it o i ∈ o := List.mem_of_getElem? (it_some h)
theorem it_inj {o : List Int} (hn : o.Nodup) {i j : Nat} (hi : i < o.length) (hj : j < o.length) (e : it o i = it o j) : i = j := by
  have h1 := it_some hi
  have h2 := it_some hj
  rw [e] at h1
  obtain ⟨_, a⟩ := List.getElem?_eq_some_iff.mp h1
  obtain ⟨_, b⟩ := List.getElem?_eq_some_iff.mp h2
  exact (List.getElem_inj hn).mp (a.trans b.symm)
def PrsN (n : Nat) (ps : List (Int × Int)) : Prop := ps.Nodup ∧ ps.length < 60 ∧ ∀ p ∈ ps, 0 ≤ p.1 ∧ p.1 < (n : Int) ∧ 0 ≤ p.2 ∧ p.2 < (n : Int) ∧ p.1 ≠ p.2
section
variable {n i j : Nat} {o : List Int} {ix : List (Nat × Nat)}
theorem prs_a (ho : o.Perm (things n)) (h : Sn n i j ix) (hn : n ≤ 6) : PrsN n (ix.map (prA o)) := by
  have nd : o.Nodup := ho.nodup_iff.mpr (things_nodup n)
  have ln : o.length = n := by rw [ho.length_eq, things_len]
  refine ⟨?_, by rw [List.length_map]; have := sn_few h hn; omega, ?_⟩
  · show List.Pairwise _ _
    rw [List.pairwise_map]
    refine List.Pairwise.imp_of_mem (fun {a b} ha hb hne e => hne ?_) h.nd
    obtain ⟨a1, a2, _⟩ := h.bd a ha
    obtain ⟨b1, b2, _⟩ := h.bd b hb
    have e1 := congrArg Prod.fst e
    have e2 := congrArg Prod.snd e
    exact Prod.ext (it_inj nd (by omega) (by omega) e1) (it_inj nd (by omega) (by omega) e2)
  · intro p hp
    obtain ⟨q, hq, rfl⟩ := List.mem_map.mp hp
    obtain ⟨q1, q2, _⟩ := h.bd q hq
    have m1 := mem_things.mp (ho.mem_iff.mp (it_mem (o := o) (i := q.1) (by omega)))
    have m2 := mem_things.mp (ho.mem_iff.mp (it_mem (o := o) (i := q.2) (by omega)))
    refine ⟨m1.1, m1.2, m2.1, m2.2, fun e => ?_⟩
    have := it_inj nd (by omega) (by omega) e
    omega
theorem acy_a (ho : o.Perm (things n)) (h : Sn n i j ix) : Acy (ix.map (prA o)) := by
  have nd : o.Nodup := ho.nodup_iff.mpr (things_nodup n)
  have ln : o.length = n := by rw [ho.length_eq, things_len]
  refine ⟨fun x => o.idxOf x, fun p hp => ?_⟩
  obtain ⟨q, hq, rfl⟩ := List.mem_map.mp hp
  obtain ⟨q1, q2, _⟩ := h.bd q hq
  have key : ∀ k, k < o.length → o.idxOf (it o k) = k := fun k hk => by
    have h1 : o.idxOf (it o k) < o.length := List.idxOf_lt_length_of_mem (it_mem hk)
    have h2 := List.getElem_idxOf h1
    have h3 := it_some hk
    obtain ⟨_, h4⟩ := List.getElem?_eq_some_iff.mp h3
    exact (List.getElem_inj nd).mp (h2.trans h4.symm)
  show o.idxOf (it o q.1) < o.idxOf (it o q.2)
  rw [key _ (by omega), key _ (by omega)]
  exact q1
theorem prs_t (ho : o.Perm (things n)) (h : Sn n i j ix) (hn : n ≤ 6) : PrsN n (ix.map (prT o)) ∧ ∀ p ∈ ix.map (prT o), p.1 < p.2 := by
  have nd : o.Nodup := ho.nodup_iff.mpr (things_nodup n)
  have ln : o.length = n := by rw [ho.length_eq, things_len]
  have lt : ∀ p ∈ ix.map (prT o), p.1 < p.2 := by
    intro p hp
    obtain ⟨q, hq, rfl⟩ := List.mem_map.mp hp
    obtain ⟨q1, q2, _⟩ := h.bd q hq
    have ne : it o q.1 ≠ it o q.2 := fun e => by
      have := it_inj nd (by omega) (by omega) e
      omega
    unfold prT
    split <;> split <;> simp <;> omega
  refine ⟨⟨?_, by rw [List.length_map]; have := sn_few h hn; omega, ?_⟩, lt⟩
  · show List.Pairwise _ _
    rw [List.pairwise_map]
    refine List.Pairwise.imp_of_mem (fun {a b} ha hb hne e => hne ?_) h.nd
    obtain ⟨a1, a2, _⟩ := h.bd a ha
    obtain ⟨b1, b2, _⟩ := h.bd b hb
    have e1 : (prT o a).1 = (prT o b).1 := congrArg Prod.fst e
    have e2 : (prT o a).2 = (prT o b).2 := congrArg Prod.snd e
    have both : (it o a.1 = it o b.1 ∧ it o a.2 = it o b.2) ∨ (it o a.1 = it o b.2 ∧ it o a.2 = it o b.1) := by
      simp only [prT] at e1 e2
      split at e1 <;> split at e1 <;> split at e2 <;> split at e2 <;> omega
    rcases both with ⟨c, d⟩ | ⟨c, d⟩
    · exact Prod.ext (it_inj nd (by omega) (by omega) c) (it_inj nd (by omega) (by omega) d)
    · have c' := it_inj nd (by omega) (by omega) c
      have d' := it_inj nd (by omega) (by omega) d
      omega
  · intro p hp
    have l := lt p hp
    obtain ⟨q, hq, rfl⟩ := List.mem_map.mp hp
    obtain ⟨q1, q2, _⟩ := h.bd q hq
    have m1 := mem_things.mp (ho.mem_iff.mp (it_mem (o := o) (i := q.1) (by omega)))
    have m2 := mem_things.mp (ho.mem_iff.mp (it_mem (o := o) (i := q.2) (by omega)))
    have r : 0 ≤ (prT o q).1 ∧ (prT o q).1 < (n : Int) ∧ 0 ≤ (prT o q).2 ∧ (prT o q).2 < (n : Int) := by
      simp only [prT]
      split <;> split <;> omega
    exact ⟨r.1, r.2.1, r.2.2.1, r.2.2.2, by omega⟩
end
end Tk

namespace Tk
/-! built lots: each thing but the last has one arrow to a later one, the ties make a tree -/
def mnx (a b : Int) : Int × Int := (if b < a then b else a, if b > a then b else a)
theorem mnx_lt {a b : Int} (h : a ≠ b) : (mnx a b).1 < (mnx a b).2 := by
  unfold mnx
  by_cases c : b < a
  · simp only [if_pos c, if_neg (show ¬ b > a by omega)]; exact c
  · simp only [if_neg c, if_pos (show b > a by omega)]; omega
theorem mnx_mem {a b : Int} (h : a ≠ b) : mnx a b = (a, b) ∨ mnx a b = (b, a) := by
  unfold mnx
  by_cases c : b < a
  · right; simp only [if_pos c, if_neg (show ¬ b > a by omega)]
  · left; simp only [if_neg c, if_pos (show b > a by omega)]
/-- the arrows -/
def Fwd (o : List Int) (as : List (Int × Int)) (k : Nat) : Prop := as.length = k ∧ ∀ i, i < k → ∃ j, i < j ∧ j < o.length ∧ as[i]? = some (it o i, it o j)
theorem fwd_0 (o : List Int) : Fwd o [] 0 := ⟨rfl, fun _ h => absurd h (by omega)⟩
theorem fwd_put {o : List Int} {as : List (Int × Int)} {k j : Nat} (h : Fwd o as k) (l : k < j) (hj : j < o.length) : Fwd o (as ++ [(it o k, it o j)]) (k + 1) := by
  refine ⟨by simp [h.1], fun i hi => ?_⟩
  by_cases c : i < k
  · obtain ⟨j', a, b, d⟩ := h.2 i c
    exact ⟨j', a, b, by rw [List.getElem?_append_left (by rw [h.1]; exact c)]; exact d⟩
  · have e : i = k := by omega
    subst e
    refine ⟨j, l, hj, ?_⟩
    rw [List.getElem?_append_right (by rw [h.1]; omega), h.1]
    simp
theorem fwd_mem {o : List Int} {as : List (Int × Int)} {k : Nat} (h : Fwd o as k) {p : Int × Int} (hp : p ∈ as) : ∃ i j, i < k ∧ i < j ∧ j < o.length ∧ p = (it o i, it o j) := by
  obtain ⟨i, hi⟩ := List.getElem?_of_mem hp
  have il := (List.getElem?_eq_some_iff.mp hi).1
  rw [h.1] at il
  obtain ⟨j, a, b, d⟩ := h.2 i il
  rw [hi] at d
  exact ⟨i, j, il, a, b, Option.some.inj d⟩
/-- the last one is reached by all -/
theorem fwd_head {o lot : List Int} {as : List (Int × Int)} (h : Fwd o as (o.length - 1)) (hl : ∀ x, x ∈ lot ↔ x ∈ o) (pos : 0 < o.length) : ∀ k i, i + k + 1 = o.length → Reach (upIn as lot) (it o (o.length - 1)) (it o i) := by
  intro k
  induction k using Nat.strongRecOn with
  | ind k ih =>
    intro i hi
    by_cases c : k = 0
    · have : i = o.length - 1 := by omega
      rw [this]; exact .refl
    · obtain ⟨j, l, hj, e⟩ := h.2 i (by omega)
      have r := ih (o.length - 1 - j) (by omega) j (by omega)
      refine .tail r (mem_upIn.mpr ⟨List.mem_of_getElem? e, (hl _).mpr (it_mem (by omega)), (hl _).mpr (it_mem hj)⟩)
/-- the ties: a tree on e -/
def Tre (e : List Int) (ts : List (Int × Int)) (k : Nat) : Prop := ts.length = k ∧ ∀ i, i < k → i + 1 < e.length ∧ ∃ j, j ≤ i ∧ ts[i]? = some (mnx (it e (i + 1)) (it e j))
theorem tre_0 (e : List Int) : Tre e [] 0 := ⟨rfl, fun _ h => absurd h (by omega)⟩
theorem tre_put {e : List Int} {ts : List (Int × Int)} {k j : Nat} (h : Tre e ts k) (l : j ≤ k) (hk : k + 1 < e.length) : Tre e (ts ++ [mnx (it e (k + 1)) (it e j)]) (k + 1) := by
  refine ⟨by simp [h.1], fun i hi => ?_⟩
  by_cases c : i < k
  · obtain ⟨a, j', b, d⟩ := h.2 i c
    exact ⟨a, j', b, by rw [List.getElem?_append_left (by rw [h.1]; exact c)]; exact d⟩
  · have e' : i = k := by omega
    subst e'
    refine ⟨hk, j, l, ?_⟩
    rw [List.getElem?_append_right (by rw [h.1]; omega), h.1]
    simp
theorem tre_mem {e : List Int} {ts : List (Int × Int)} {k : Nat} (h : Tre e ts k) {p : Int × Int} (hp : p ∈ ts) : ∃ i j, i < k ∧ i + 1 < e.length ∧ j ≤ i ∧ ts[i]? = some p ∧ p = mnx (it e (i + 1)) (it e j) := by
  obtain ⟨i, hi⟩ := List.getElem?_of_mem hp
  have il := (List.getElem?_eq_some_iff.mp hi).1
  rw [h.1] at il
  obtain ⟨a, j, b, d⟩ := h.2 i il
  exact ⟨i, j, il, a, b, hi, by rw [hi] at d; exact Option.some.inj d⟩
theorem tre_ne {e : List Int} (nd : e.Nodup) {i j : Nat} (hi : i + 1 < e.length) (hj : j ≤ i) : it e (i + 1) ≠ it e j := fun z => by
  have := it_inj nd hi (by omega) z
  omega
theorem tre_hang {e lot : List Int} {ts : List (Int × Int)} (nd : e.Nodup) (h : Tre e ts (e.length - 1)) (hl : ∀ x, x ∈ lot ↔ x ∈ e) : ∀ k, k < e.length → Reach (tieIn ts lot) (it e 0) (it e k) := by
  intro k
  induction k using Nat.strongRecOn with
  | ind k ih =>
    intro hk
    cases k with
    | zero => exact .refl
    | succ i =>
      obtain ⟨a, j, b, d⟩ := h.2 i (by omega)
      have r := ih j (by omega) (by omega)
      have hm := List.mem_of_getElem? d
      refine .tail r (mem_tieIn.mpr ⟨?_, (hl _).mpr (it_mem (by omega)), (hl _).mpr (it_mem a)⟩)
      rcases mnx_mem (tre_ne nd a b) with z | z
      · rw [z] at hm; exact .inr hm
      · rw [z] at hm; exact .inl hm
/-- less one tie, two colours -/
theorem tre_cut {e : List Int} {ts : List (Int × Int)} {k : Nat} (h : Tre e ts k) (i0 : Nat) : ∀ m, m ≤ k → ∃ c : Nat → Bool, c 0 = false ∧ (i0 < m → c (i0 + 1) = true) ∧ ∀ i, i < m → i ≠ i0 → ∃ j, j ≤ i ∧ ts[i]? = some (mnx (it e (i + 1)) (it e j)) ∧ c (i + 1) = c j := by
  intro m
  induction m with
  | zero => exact fun _ => ⟨fun _ => false, rfl, fun z => absurd z (by omega), fun i hi => absurd hi (by omega)⟩
  | succ m ih =>
    intro hm
    obtain ⟨c, c0, c1, c2⟩ := ih (by omega)
    obtain ⟨_, j, hj, ej⟩ := h.2 m (by omega)
    refine ⟨fun x => if x = m + 1 then (if m = i0 then true else c j) else c x, ?_, ?_, ?_⟩
    · show (if 0 = m + 1 then _ else c 0) = false
      rw [if_neg (by omega)]; exact c0
    · intro l
      show (if i0 + 1 = m + 1 then (if m = i0 then true else c j) else c (i0 + 1)) = true
      by_cases z : i0 = m
      · rw [if_pos (by omega), if_pos z.symm]
      · rw [if_neg (by omega)]; exact c1 (by omega)
    · intro i hi ne
      by_cases z : i = m
      · subst z
        refine ⟨j, hj, ej, ?_⟩
        show (if i + 1 = i + 1 then (if i = i0 then true else c j) else c (i + 1)) = (if j = i + 1 then (if i = i0 then true else c j) else c j)
        rw [if_pos rfl, if_neg ne, if_neg (by omega)]
      · obtain ⟨j', a, b, d⟩ := c2 i (by omega) ne
        refine ⟨j', a, b, ?_⟩
        show (if i + 1 = m + 1 then (if m = i0 then true else c j) else c (i + 1)) = (if j' = m + 1 then (if m = i0 then true else c j) else c j')
        rw [if_neg (by omega), if_neg (by omega)]
        exact d
theorem idx_it {e : List Int} (nd : e.Nodup) {i : Nat} (h : i < e.length) : e.idxOf (it e i) = i := by
  have hm := it_mem h
  have h1 := List.idxOf_lt_length_of_mem hm
  have h2 : it e (e.idxOf (it e i)) = it e i := by
    have a := it_some h1
    have b : e[e.idxOf (it e i)]? = some (it e i) := by
      rw [List.getElem?_eq_getElem h1, List.getElem_idxOf h1]
    rw [a] at b
    exact Option.some.inj b
  exact it_inj nd h1 h h2
/-- less one tie, the lot does not hang together -/
theorem cut_apart {e lot : List Int} {ts fs : List (Int × Int)} (nd : e.Nodup) (h : Tre e ts (e.length - 1)) {i0 : Nat} (hi0 : i0 < e.length - 1) (sub : ∀ q ∈ fs, q ∈ ts ∧ some q ≠ ts[i0]?) : ¬ Reach (tieIn fs lot) (it e 0) (it e (i0 + 1)) := by
  obtain ⟨c, c0, c1, c2⟩ := tre_cut h i0 (e.length - 1) (Nat.le_refl _)
  have keep : ∀ q ∈ fs, c (e.idxOf q.1) = c (e.idxOf q.2) := by
    intro q hq
    obtain ⟨hq1, hq2⟩ := sub q hq
    obtain ⟨i, j, il, il2, jl, hi, _⟩ := tre_mem h hq1
    have ne : i ≠ i0 := fun z => hq2 (by rw [← z, hi])
    obtain ⟨j', a, b, d⟩ := c2 i il ne
    rw [hi] at b
    have b' := Option.some.inj b
    have e1 := idx_it nd il2
    have e2 := idx_it nd (show j' < e.length by omega)
    rcases mnx_mem (tre_ne nd il2 a) with z | z
    · rw [b', z]
      show c (e.idxOf (it e (i + 1))) = c (e.idxOf (it e j'))
      rw [e1, e2]; exact d
    · rw [b', z]
      show c (e.idxOf (it e j')) = c (e.idxOf (it e (i + 1)))
      rw [e1, e2]; exact d.symm
  have go : ∀ {a b : Int}, Reach (tieIn fs lot) a b → c (e.idxOf a) = c (e.idxOf b) := by
    intro a b r
    induction r with
    | refl => rfl
    | tail _ hp ih =>
      obtain ⟨z, _, _⟩ := mem_tieIn.mp hp
      rcases z with z | z
      · exact ih.trans (keep _ z)
      · exact ih.trans (keep _ z).symm
  intro r
  have := go r
  rw [idx_it nd (by omega), idx_it nd (by omega), c0, c1 hi0] at this
  cases this
theorem tre_nodup {e : List Int} {ts : List (Int × Int)} {k : Nat} (nd : e.Nodup) (h : Tre e ts k) : ts.Nodup := by
  show List.Pairwise _ _
  rw [List.pairwise_iff_getElem]
  intro i i' hi hi' lt eq0
  have eq : ts[i]? = ts[i']? := by rw [List.getElem?_eq_getElem hi, List.getElem?_eq_getElem hi', eq0]
  rw [h.1] at hi'
  obtain ⟨a, j, b, d⟩ := h.2 i (by omega)
  obtain ⟨a', j', b', d'⟩ := h.2 i' hi'
  rw [d, d'] at eq
  have eq' := Option.some.inj eq
  have no : ∀ y, y = it e (i + 1) ∨ y = it e j → it e (i' + 1) ≠ y := by
    rintro y (rfl | rfl) z
    · have := it_inj nd a' a z; omega
    · have := it_inj nd a' (by omega) z; omega
  rcases mnx_mem (tre_ne nd a b) with z | z <;> rcases mnx_mem (tre_ne nd a' b') with z' | z' <;> (rw [z, z'] at eq'; obtain ⟨e1, e2⟩ := Prod.mk.inj eq')
  · exact no _ (.inl rfl) e1.symm
  · exact no _ (.inr rfl) e2.symm
  · exact no _ (.inr rfl) e1.symm
  · exact no _ (.inl rfl) e2.symm
/-- without the arrow of one thing, no head -/
theorem fwd_less {o lot : List Int} {as fs : List (Int × Int)} (nd : o.Nodup) (h : Fwd o as (o.length - 1)) (hl : ∀ x, x ∈ lot ↔ x ∈ o) {i0 : Nat} (hi0 : i0 < o.length - 1)
    (sub : ∀ q ∈ fs, q.1 ∈ lot → q.2 ∈ lot → q ∈ as ∧ some q ≠ as[i0]?) : ∀ x ∈ lot, ¬ IsHead fs lot x := by
  intro x hx hd
  -- who has no arrow out is no one's start
  have stuck : ∀ i, i < o.length → (i = i0 ∨ i = o.length - 1) → ∀ {a b : Int}, Reach (upIn fs lot) a b → b = it o i → a = it o i := by
    intro i hi hc a b r e
    cases r with
    | refl => exact e
    | @tail c _ r hp =>
      exfalso
      subst e
      obtain ⟨z, _, _⟩ := mem_upIn.mp hp
      rename_i h1 h2
      obtain ⟨s1, s2⟩ := sub _ z (by assumption) (by assumption)
      obtain ⟨k, hk⟩ := List.getElem?_of_mem s1
      have kl := (List.getElem?_eq_some_iff.mp hk).1
      rw [h.1] at kl
      obtain ⟨j, l1, l2, d⟩ := h.2 k kl
      rw [hk] at d
      have d' := Option.some.inj d
      have ei : i = k := it_inj nd hi (by omega) (Prod.mk.inj d').1
      rcases hc with rfl | rfl
      · exact s2 (by rw [show as[i]? = as[k]? from by rw [ei], hk])
      · omega
  have e1 := stuck i0 (by omega) (.inl rfl) (hd _ ((hl _).mpr (it_mem (by omega)))) rfl
  have e2 := stuck (o.length - 1) (by omega) (.inr rfl) (hd _ ((hl _).mpr (it_mem (by omega)))) rfl
  have := it_inj nd (by omega) (by omega) (e1.symm.trans e2)
  omega
theorem fwd_nodup {o : List Int} {as : List (Int × Int)} {k : Nat} (nd : o.Nodup) (h : Fwd o as k) (hk : k ≤ o.length) : as.Nodup := by
  show List.Pairwise _ _
  rw [List.pairwise_iff_getElem]
  intro i i' hi hi' lt eq0
  have eq : as[i]? = as[i']? := by rw [List.getElem?_eq_getElem hi, List.getElem?_eq_getElem hi', eq0]
  rw [h.1] at hi hi'
  obtain ⟨j, _, _, d⟩ := h.2 i hi
  obtain ⟨j', _, _, d'⟩ := h.2 i' hi'
  rw [d, d'] at eq
  have := it_inj nd (by omega) (by omega) (Prod.mk.inj (Option.some.inj eq)).1
  omega
theorem built_acy {o : List Int} {as fs : List (Int × Int)} {k : Nat} (nd : o.Nodup) (h : Fwd o as k) (hk : k ≤ o.length) (f1 : fs.length ≤ 1) (hf : ∀ q ∈ fs, (q.1 ∉ o ∧ q.2 ∈ o) ∨ (q.1 ∈ o ∧ q.2 ∉ o)) : Acy (as ++ fs) := by
  refine ⟨fun x => if x ∈ o then o.idxOf x + 1 else if (fs.any fun q => decide (q.2 = x)) = true then o.length + 2 else 0, fun p hp => ?_⟩
  have one : ∀ q ∈ fs, ∀ q' ∈ fs, q = q' := by
    intro q hq q' hq'
    cases fs with
    | nil => cases hq
    | cons a t =>
      cases t with
      | nil => rw [List.mem_singleton.mp hq, List.mem_singleton.mp hq']
      | cons b t => simp at f1
  rcases List.mem_append.mp hp with g | g
  · obtain ⟨i, j, a, b, c, rfl⟩ := fwd_mem h g
    show (if it o i ∈ o then _ else _) < (if it o j ∈ o then _ else _)
    rw [if_pos (it_mem (by omega)), if_pos (it_mem c), idx_it nd (by omega), idx_it nd c]
    omega
  · rcases hf p g with ⟨a, b⟩ | ⟨a, b⟩
    · have no : ¬ (fs.any fun q => decide (q.2 = p.1)) = true := by
        intro z
        obtain ⟨q, hq, e⟩ := List.any_eq_true.mp z
        have e' : q.2 = p.1 := by simpa using e
        rw [one q hq p g] at e'
        exact a (e' ▸ b)
      simp only [if_neg a, if_neg no, if_pos b]
      omega
    · have yes : (fs.any fun q => decide (q.2 = p.2)) = true := List.any_eq_true.mpr ⟨p, g, by simp⟩
      have := List.idxOf_lt_length_of_mem a
      simp only [if_pos a, if_neg b, if_pos yes]
      omega
section
variable {n : Nat} {as ts : List (Int × Int)}
theorem reach_out {ps : List (Int × Int)} {a b : Int} (h : Reach ps a b) (ne : a ≠ b) : ∃ c, (c, b) ∈ ps := by
  cases h with
  | refl => exact absurd rfl ne
  | @tail c _ _ hp => exact ⟨c, hp⟩
/-- a barred lot keeps to the things that are tied -/
theorem bar_in {o l : List Int} (h : ∀ q ∈ ts, q.1 ∈ o ∧ q.2 ∈ o) (b : Bar n as ts l) : ∀ z ∈ l, z ∈ o := by
  obtain ⟨x, g⟩ := bar_good b
  have key : ∀ {a c : Int}, Reach (tieIn ts l) a c → a ≠ c → c ∈ o := fun r ne => by
    obtain ⟨d, hd⟩ := reach_out r ne
    obtain ⟨z, _, _⟩ := mem_tieIn.mp hd
    rcases z with z | z
    · exact (h _ z).2
    · exact (h _ z).1
  intro z hz
  by_cases c : x = z
  · subst c
    obtain ⟨y, hy, ne⟩ : ∃ y ∈ l, y ≠ x := by
      refine Classical.byContradiction fun no => ?_
      have all : ∀ y ∈ l, y = x := fun y hy => Classical.byContradiction fun ne => no ⟨y, hy, ne⟩
      have h1 := nodup_le (lt_nd g.lot.1) (m := [x]) fun y hy => by rw [all y hy]; simp
      have := b.two
      simp at h1
      omega
    exact key (tie_sym (g.tie y hy)) ne
  · exact key (g.tie z hz) c
theorem gl_out {o : List Int} (h : ∀ q ∈ ts, q.1 ∈ o ∧ q.2 ∈ o) {x : Int} (hx : x ∈ things n) (no : x ∉ o) : gl n as ts x = [x] := by
  have g := gl_good (as := as) (ts := ts) hx
  by_cases c : 1 < (gl n as ts x).length
  · exact absurd (bar_in h (good_bar g c) x g.mem) no
  · cases e : gl n as ts x with
    | nil => have := g.mem; rw [e] at this; cases this
    | cons a t =>
      cases t with
      | nil => have := g.mem; rw [e] at this; rw [List.mem_singleton.mp this]
      | cons b t => rw [e] at c; simp at c
theorem gl_lotb {o lot : List Int} {x : Int} (h : ∀ q ∈ ts, q.1 ∈ o ∧ q.2 ∈ o) (hl : ∀ y, y ∈ lot ↔ y ∈ o) (g : Good n as ts x lot) : gl n as ts x = lot := by
  refine (gl_eq g fun m gm y hy => ?_).symm
  by_cases c : 1 < m.length
  · exact (hl y).mpr (bar_in h (good_bar gm c) y hy)
  · have : y = x := by
      cases e : m with
      | nil => rw [e] at hy; cases hy
      | cons a t =>
        cases t with
        | nil => have h1 := gm.mem; rw [e] at hy h1; rw [List.mem_singleton.mp hy, List.mem_singleton.mp h1]
        | cons b t => rw [e] at c; simp at c
    rw [this]; exact g.mem
/-- each barred lot lies on one side -/
theorem bar_side {o lot l ns : List Int} {x : Int} (h : ∀ q ∈ ts, q.1 ∈ o ∧ q.2 ∈ o) (hl : ∀ y, y ∈ lot ↔ y ∈ o) (hs : ∀ y, y ∈ ns ↔ Reach (tieIn ts lot) x y) (b : Bar n as ts l) : ∀ y ∈ l, ∀ z ∈ l, y ∈ ns → z ∈ ns := by
  obtain ⟨u, g⟩ := bar_good b
  have s : ∀ z ∈ l, z ∈ lot := fun z hz => (hl z).mpr (bar_in h b z hz)
  intro y hy z hz hn
  rw [hs] at hn ⊢
  exact reach_trans hn (tie_mono s (reach_trans (tie_sym (g.tie y hy)) (g.tie z hz)))
theorem built_good {o e lot : List Int} {fs : List (Int × Int)} (po : e.Perm o) (nd : o.Nodup) (pos : 0 < o.length) (hA : Fwd o as (o.length - 1)) (hT : Tre e ts (o.length - 1)) (lo : Lot n lot) (hl : ∀ x, x ∈ lot ↔ x ∈ o) : Good n (as ++ fs) ts (it o (o.length - 1)) lot := by
  have ndE := po.nodup_iff.mpr nd
  have le := po.length_eq
  have hlE : ∀ x, x ∈ lot ↔ x ∈ e := fun x => (hl x).trans po.mem_iff.symm
  have hT' : Tre e ts (e.length - 1) := by rw [le]; exact hT
  have lastM : it o (o.length - 1) ∈ lot := (hl _).mpr (it_mem (by omega))
  have toE : ∀ y ∈ lot, Reach (tieIn ts lot) (it e 0) y := fun y hy => by
    obtain ⟨i, hi⟩ := List.getElem?_of_mem ((hlE y).mp hy)
    have il := (List.getElem?_eq_some_iff.mp hi).1
    rw [it_some il] at hi
    rw [← Option.some.inj hi]
    exact tre_hang ndE hT' hlE i il
  refine ⟨lo, lastM, fun y hy => ?_, fun y hy => reach_trans (tie_sym (toE _ lastM)) (toE y hy)⟩
  obtain ⟨i, hi⟩ := List.getElem?_of_mem ((hl y).mp hy)
  have il := (List.getElem?_eq_some_iff.mp hi).1
  rw [it_some il] at hi
  rw [← Option.some.inj hi]
  exact up_sub (fun p hp => List.mem_append_left _ hp) (fwd_head hA hl pos (o.length - 1 - i) i (by omega))
theorem built_cut {o e lot : List Int} {fs : List (Int × Int)} (po : e.Perm o) (nd : o.Nodup) (hT : Tre e ts (o.length - 1)) (hl : ∀ x, x ∈ lot ↔ x ∈ o) {q : Int × Int} (hq : q ∈ ts) (sub : ∀ p ∈ fs, p ∈ ts ∧ p ≠ q) : hangB fs lot = false := by
  have ndE := po.nodup_iff.mpr nd
  have le := po.length_eq
  obtain ⟨i, j, a, b, c, d, _⟩ := tre_mem hT hq
  rw [Bool.eq_false_iff]
  intro z
  have e0 : it e 0 ∈ lot := (hl _).mpr (po.mem_iff.mp (it_mem (by omega)))
  refine cut_apart (lot := lot) ndE (by rw [le]; exact hT) (i0 := i) (by omega) (fun p hp => ⟨(sub p hp).1, fun y => (sub p hp).2 ?_⟩) ((hang_iff e0).mp z _ ((hl _).mpr (po.mem_iff.mp (it_mem b))))
  rw [d] at y
  exact Option.some.inj y
theorem built_nohead {o lot : List Int} {fs : List (Int × Int)} (nd : o.Nodup) (hA : Fwd o as (o.length - 1)) (hl : ∀ x, x ∈ lot ↔ x ∈ o) {q : Int × Int} (hq : q ∈ as) (sub : ∀ p ∈ fs, p.1 ∈ o → p.2 ∈ o → p ∈ as ∧ p ≠ q) : headsL fs lot = [] := by
  obtain ⟨i, hi⟩ := List.getElem?_of_mem hq
  have il := (List.getElem?_eq_some_iff.mp hi).1
  rw [hA.1] at il
  have no := fwd_less (fs := fs) nd hA hl il fun p hp h1 h2 => by
    obtain ⟨a, b⟩ := sub p hp ((hl _).mp h1) ((hl _).mp h2)
    exact ⟨a, fun y => b (by rw [hi] at y; exact Option.some.inj y)⟩
  unfold headsL
  rw [List.filter_eq_nil_iff]
  exact fun x hx z => no x hx (headB_iff.mp z)
end
end Tk

namespace Tk
open PySem PySem.Spec PyProof.Rows L2
/-- values of which repr is known: None, bools, ints, lists and tuples of data -/
def ReprOk (v : V) (d : PyData) : Prop := match v with
  | .non => True
  | .bl _ => True
  | .int i => i.natAbs.log2 < 1920
  | .ref _ => RepOk d
  | _ => False
section
variable {X : Cx}
def rRepV (K : PySem.W.Frag) : List V → Hp → VK → Prop := fun xs H Q => ∃ (v : V) (d : PyData), xs = [v] ∧ Dp K H v d ∧ ReprOk v d ∧ Q (.str d.shown) H
theorem call_reprV (hgd : X.A.guards = some []) (hu : X.A.units + 64 < cLine) : CallR X (.builtin "repr") (rRepV X.K) := by
  intro pins s σ H xs us Q I r h
  obtain ⟨v, d, rfl, hd, ok, q⟩ := h
  cases hd with
  | non =>
    cases r with
    | cons r1 r2 =>
      cases r2
      cases r1
      exact PySem.P.repr_of_none ⟨.str "None", H, I.tok _, ⟨_, rfl⟩, q⟩
  | bl b =>
    cases r with
    | cons r1 r2 =>
      cases r2
      cases r1
      exact PySem.P.repr_of_bool ⟨.str (if b then "True" else "False"), H, I.tok _, ⟨_, rfl⟩, q⟩
  | int i =>
    cases r with
    | cons r1 r2 =>
      cases r2
      obtain ⟨t, rfl⟩ := r1
      exact PySem.P.repr_of_int ok ⟨.str (toString i), H, I.tok _, ⟨_, rfl⟩, q⟩
  | str x => exact ok.elim
  | @lst a xs ds h1 h2 => exact call_reprD hgd hu pins s σ H _ us Q I r ⟨a, _, rfl, .lst h1 h2, ok.sh, ok.nd, ok.dp, ok.sz, q⟩
  | @tup a xs ds h1 h2 => exact call_reprD hgd hu pins s σ H _ us Q I r ⟨a, _, rfl, .tup h1 h2, ok.sh, ok.nd, ok.dp, ok.sz, q⟩
end
end Tk

namespace Tk
open PySem PySem.Spec PyProof.Rows L2
/-! ## sorted, of lists of pairs -/
def flatP (ps : List (Int × Int)) : List Int := ps.flatMap fun p => [p.1, p.2]
theorem flatP_cons (p : Int × Int) (ps : List (Int × Int)) : flatP (p :: ps) = p.1 :: p.2 :: flatP ps := rfl
theorem flatP_inj : ∀ {ps qs : List (Int × Int)}, flatP ps = flatP qs → ps = qs
  | [], [], _ => rfl
  | [], q :: qs, h => by rw [flatP_cons] at h; exact nomatch h
  | p :: ps, [], h => by rw [flatP_cons] at h; exact nomatch h
  | p :: ps, q :: qs, h => by
    rw [flatP_cons, flatP_cons] at h
    injection h with h1 h
    injection h with h2 h
    rw [flatP_inj h, Prod.ext h1 h2]
section
open PySem.W
theorem alike_dP (p q : Int × Int) : alike (dP p) (dP q) = true := by simp [dP, alike, alikeAll]
theorem alike_dPsA : ∀ ps qs : List (Int × Int), alikeAll (ps.map dP) (qs.map dP) = true
  | [], _ => by simp [alikeAll]
  | _ :: _, [] => by simp [alikeAll]
  | p :: ps, q :: qs => by
    show alikeAll (dP p :: ps.map dP) (dP q :: qs.map dP) = true
    simp only [alikeAll, alike_dP, alike_dPsA ps qs, Bool.and_self]
theorem eqv_dPq {p q : Int × Int} : PyData.eqv (dP p) (dP q) = decide (p = q) := by
  obtain ⟨u, v⟩ := p
  obtain ⟨x, y⟩ := q
  simp [dP, PyData.eqv, PyData.eqvAll]
  by_cases c1 : u = x <;> by_cases c2 : v = y <;> simp [c1, c2]
theorem rowLt_pairs : ∀ ps qs : List (Int × Int), rowLt (ps.map dP) (qs.map dP) = decide (flatP ps < flatP qs)
  | [], [] => by
    have e : rowLt [] [] = false := lex_irrefl _
    simpa [flatP] using e
  | [], q :: qs => by
    have e : rowLt [] (dP q :: qs.map dP) = true := by
      unfold rowLt
      rw [toks_all_cons]
      simp only [keyToksAll]
      rw [lex_diff (O := itemOrd) (by simp)]
      rfl
    simpa [flatP_cons, flatP] using e
  | p :: ps, [] => by
    have e : rowLt (dP p :: ps.map dP) [] = false := by
      unfold rowLt
      rw [toks_all_cons]
      simp only [keyToksAll]
      rw [lex_diff (O := itemOrd) (by simp)]
      rfl
    simpa [flatP_cons, flatP] using e
  | p :: ps, q :: qs => by
    have e : rowLt (dP p :: ps.map dP) (dP q :: qs.map dP) = if p = q then rowLt (ps.map dP) (qs.map dP) else decide (p.1 < q.1 ∨ (p.1 = q.1 ∧ p.2 < q.2)) := by
      unfold rowLt
      rw [dataLt_cons (alike_dP p q), eqv_dPq]
      have e2 : dataLt (dP p) (dP q) = decide (p.1 < q.1 ∨ (p.1 = q.1 ∧ p.2 < q.2)) := dataLt_ii p.1 p.2 q.1 q.2
      rw [e2]
      by_cases c : p = q <;> simp [c]
    show rowLt (dP p :: ps.map dP) (dP q :: qs.map dP) = _
    rw [e, flatP_cons, flatP_cons]
    by_cases h : p = q
    · rw [if_pos h, rowLt_pairs ps qs, h]
      simp [List.cons_lt_cons_iff]
    · rw [if_neg h]
      obtain ⟨u, v⟩ := p
      obtain ⟨x, y⟩ := q
      simp only [List.cons_lt_cons_iff]
      by_cases c1 : u = x
      · have c2 : v ≠ y := fun c => h (by rw [c1, c])
        simp [c1, c2]
      · simp [c1]
theorem dataLe_prs {β : Type} (x : β → List (Int × Int)) : dataLe false (fun b => .list ((x b).map dP)) = fun p q => decide (flatP (x p) ≤ flatP (x q)) := by
  funext p q
  show (!dataLt (.list ((x q).map dP)) (.list ((x p).map dP))) = _
  rw [dataLt_list]
  show (!rowLt ((x q).map dP) ((x p).map dP)) = _
  rw [rowLt_pairs]
  by_cases h : flatP (x q) < flatP (x p)
  · have h' : ¬ flatP (x p) ≤ flatP (x q) := fun r => List.not_lt.mpr r h
    simp [h, h']
  · have h' : flatP (x p) ≤ flatP (x q) := List.not_lt.mp h
    simp [h, h']
end
/-- two sorted lists of the same lists of pairs -/
theorem prs_one {gs hs : List (List (Int × Int))} (s1 : gs.Pairwise fun a b => flatP a ≤ flatP b) (s2 : hs.Pairwise fun a b => flatP a ≤ flatP b) (pm : gs.Perm hs) : gs = hs :=
  List.Perm.eq_of_pairwise (fun a b _ _ h1 h2 => flatP_inj (List.le_antisymm h1 h2)) s1 s2 pm
/-- a list of lists of pairs -/
def LsQ (K : PySem.W.Frag) (G : Hp) : List V → List (List (Int × Int)) → Prop
  | [], [] => True
  | x :: xs, o :: os => (∃ (r : Addr) (zs : List V), x = .ref r ∧ G r = some (.lst zs) ∧ DpAll K G zs (o.map dP)) ∧ LsQ K G xs os
  | _, _ => False
section
variable {K : PySem.W.Frag} {G G' : Hp}
theorem lq_s (e : Same G G') : ∀ {xs : List V} {os : List (List (Int × Int))}, LsQ K G xs os → LsQ K G' xs os
  | [], [], _ => trivial
  | x :: xs, o :: os, ⟨⟨r, zs, h1, h2, h3⟩, h4⟩ => ⟨⟨r, zs, h1, e _ _ h2, dps_s h3 e⟩, lq_s e h4⟩
  | [], _ :: _, h => h.elim
  | _ :: _, [], h => h.elim
theorem lq_app : ∀ {xs ys : List V} {os ps : List (List (Int × Int))}, LsQ K G xs os → LsQ K G ys ps → LsQ K G (xs ++ ys) (os ++ ps)
  | [], _, [], _, _, h => h
  | x :: xs, _, o :: os, _, ⟨h1, h2⟩, h => ⟨h1, lq_app h2 h⟩
  | [], _, _ :: _, _, h, _ => h.elim
  | _ :: _, _, [], _, h, _ => h.elim
theorem lq_len : ∀ {xs : List V} {os : List (List (Int × Int))}, LsQ K G xs os → xs.length = os.length
  | [], [], _ => rfl
  | x :: xs, o :: os, ⟨_, h⟩ => by simp [lq_len h]
  | [], _ :: _, h => h.elim
  | _ :: _, [], h => h.elim
theorem lq_at : ∀ {xs : List V} {os : List (List (Int × Int))}, LsQ K G xs os → ∀ {i : Nat} {x : V}, xs[i]? = some x → ∃ (o : List (Int × Int)) (r : Addr) (zs : List V), os[i]? = some o ∧ x = .ref r ∧ G r = some (.lst zs) ∧ DpAll K G zs (o.map dP)
  | [], [], _, _, _, h => by simp at h
  | x :: xs, o :: os, ⟨⟨r, zs, h1, h2, h3⟩, h4⟩, i, y, h => by
    cases i with
    | zero =>
      simp at h
      subst h
      exact ⟨o, r, zs, rfl, h1, h2, h3⟩
    | succ i => exact lq_at h4 (i := i) (by simpa using h)
  | [], _ :: _, h, _, _, _ => h.elim
  | _ :: _, [], h, _, _, _ => h.elim
abbrev dLs (ps : List (Int × Int)) : PyData := .list (ps.map dP)
theorem lq_dps : ∀ {xs : List V} {os : List (List (Int × Int))}, LsQ K G xs os → DpAll K G xs (os.map dLs)
  | [], [], _ => .nil
  | x :: xs, o :: os, ⟨⟨r, zs, h1, h2, h3⟩, h4⟩ => by
    rw [h1]
    exact .cons (.lst (sl_of h2) h3) (lq_dps h4)
  | [], _ :: _, h => h.elim
  | _ :: _, [], h => h.elim
theorem lq_zip : ∀ {xs : List V} {os : List (List (Int × Int))}, LsQ K G xs os → xs = (xs.zip os).map Prod.fst ∧ os = (xs.zip os).map Prod.snd ∧ ∀ b ∈ xs.zip os, ∃ (r : Addr) (zs : List V), b.1 = .ref r ∧ G r = some (.lst zs) ∧ DpAll K G zs (b.2.map dP)
  | [], [], _ => ⟨rfl, rfl, fun _ h => nomatch h⟩
  | x :: xs, o :: os, ⟨h1, h3⟩ => by
    obtain ⟨a, b, c⟩ := lq_zip h3
    refine ⟨by simp only [List.zip_cons_cons, List.map_cons]; rw [← a], by simp only [List.zip_cons_cons, List.map_cons]; rw [← b], fun z hz => ?_⟩
    simp only [List.zip_cons_cons] at hz
    rcases List.mem_cons.mp hz with e | e
    · rw [e]; exact h1
    · exact c z e
  | [], _ :: _, h => h.elim
  | _ :: _, [], h => h.elim
theorem lq_of : ∀ {bs : List (V × List (Int × Int))}, (∀ b ∈ bs, ∃ (r : Addr) (zs : List V), b.1 = .ref r ∧ G r = some (.lst zs) ∧ DpAll K G zs (b.2.map dP)) → LsQ K G (bs.map Prod.fst) (bs.map Prod.snd)
  | [], _ => trivial
  | b :: bs, h => ⟨h b (List.mem_cons_self ..), lq_of fun c hc => h c (List.mem_cons_of_mem _ hc)⟩
/-- what changes another list -/
theorem lq_mut {D : Addr} {u : HO} (keep : ∀ {zs : List V} {o : List (Int × Int)}, DpAll K G zs (o.map dP) → DpAll K (upd G D u) zs (o.map dP)) : ∀ {xs : List V} {os : List (List (Int × Int))}, LsQ K G xs os → (∀ x ∈ xs, x ≠ .ref D) → LsQ K (upd G D u) xs os
  | [], [], _, _ => trivial
  | x :: xs, o :: os, ⟨⟨r, zs, h1, h2, h3⟩, h4⟩, n => ⟨⟨r, zs, h1, by
      have : r ≠ D := fun e => n x (List.mem_cons_self ..) (by rw [h1, e])
      rw [upd_ne this]; exact h2, keep h3⟩, lq_mut keep h4 fun y hy => n y (List.mem_cons_of_mem _ hy)⟩
  | [], _ :: _, h, _ => h.elim
  | _ :: _, [], h, _ => h.elim
end
section
open PySem.W
variable {X : Cx}
def rSortedQ (K : PySem.W.Frag) : List V → Hp → VK → Prop := fun vs H Q => ∃ (a : Addr) (xs : List V) (os : List (List (Int × Int))), vs = [V.ref a] ∧ SqL K H a xs ∧ LsQ K H xs os ∧
  ∀ (ys : List V) (os' : List (List (Int × Int))) (p : Addr), os'.Perm os → (os'.Pairwise fun a b => flatP a ≤ flatP b) → LsQ K H ys os' → ys.Perm xs → H p = none → Q (.ref p) (upd H p (.lst ys))
theorem each_valsQ : ∀ {bs : List (V × List (Int × Int))} {us : List Value}, Vals (bs.map Prod.fst) us → EachIs (fun (v : Value) (b : V × List (Int × Int)) => RelV b.1 v) us bs
  | [], _, h => by cases h; exact .nil
  | b :: bs, _, h => by
    cases h with
    | cons h1 h2 => exact .cons h1 (each_valsQ h2)
theorem vals_eachQ : ∀ {bs : List (V × List (Int × Int))} {us : List Value}, EachIs (fun (v : Value) (b : V × List (Int × Int)) => RelV b.1 v) us bs → Vals (bs.map Prod.fst) us
  | _, _, .nil => .nil
  | _, _, .cons h1 h2 => .cons h1 (vals_eachQ h2)
theorem depth_dP (p : Int × Int) : PyData.depth (dP p) ≤ 1 := by simp [dP, PyData.depth, PyData.depthAll]
theorem depth_dPs : ∀ ps : List (Int × Int), PyData.depthAll (ps.map dP) ≤ 1
  | [] => by simp [PyData.depthAll]
  | p :: ps => by
    have h1 := depth_dP p
    have h2 := depth_dPs ps
    show PyData.depthAll (dP p :: ps.map dP) ≤ 1
    simp only [PyData.depthAll]
    omega
theorem cr_sortedQ (hu : X.A.units + 64 < cLine) : CallR X (.builtin "sorted") (rSortedQ X.K) := by
  intro pins s σ H vs us Q I r h
  obtain ⟨a, xs, os, rfl, hs, ls, q⟩ := h
  obtain ⟨its, rv, hl, hz⟩ := I.list hs
  rw [Vals.ref1 r]
  obtain ⟨e1, e2, e3⟩ := lq_zip ls
  generalize xs.zip os = bs at e1 e2 e3
  subst e1
  subst e2
  have each := each_valsQ rv
  have reads : EachIs (fun (v : Value) (b : V × List (Int × Int)) => ∃ as, Reads s.heap v (PyData.list (b.2.map dP)) as) its bs := by
    clear q hs ls hl hz r
    induction each with
    | nil => exact .nil
    | @cons v b vs' bs' h1 h2 ih =>
      refine .cons ?_ (ih (fun c hc => e3 c (List.mem_cons_of_mem _ hc)) (by cases rv with | cons _ r2 => exact r2))
      obtain ⟨r0, zs, er, hr, dz⟩ := e3 b (List.mem_cons_self ..)
      rw [er] at h1
      exact Dp.reads I _ (.ref r0) v (.lst (sl_of hr) dz) h1
  refine sorted_data (enc := fun b : V × List (Int × Int) => PyData.list (b.2.map dP)) (R := fun (v : Value) (b : V × List (Int × Int)) => RelV b.1 v) hl.isList each reads (AllAlike.of fun b b' => by simp only [alike]; exact alike_dPsA _ _) (Sortable.others fun b => ⟨by simp, by simp⟩) (by rw [List.length_map] at hz; exact hz) (fun b hb => ?_) fun out hlen ho => ?_
  · have : PyData.depth (PyData.list (b.2.map dP)) ≤ 2 := by
      rw [PyData.depth]
      have := depth_dPs b.2
      omega
    omega
  · rw [dataLe_prs (fun b : V × List (Int × Int) => b.2)] at ho
    obtain ⟨ep, he'⟩ := PyProof.Rows.sortedAll_at s.heap its out.toArray
    have vo := vals_eachQ ho
    generalize hbs : bs.mergeSort (fun p q => decide (flatP p.2 ≤ flatP q.2)) = bs' at ho vo
    have pm : bs'.Perm bs := by rw [← hbs]; exact List.mergeSort_perm ..
    have srt : bs'.Pairwise (fun p q => decide (flatP p.2 ≤ flatP q.2) = true) := by
      rw [← hbs]
      refine List.pairwise_mergeSort (fun a b c h1 h2 => ?_) (fun a b => ?_) bs
      · simp only [decide_eq_true_eq] at h1 h2 ⊢
        exact List.le_trans h1 h2
      · simp only [Bool.or_eq_true, decide_eq_true_eq]
        exact List.le_total _ _
    refine ⟨.ref _, upd H (s.heap.objs.size + 1) (.lst (bs'.map Prod.fst)), I.laid (t' := s.toks) (fun _ _ => PyProof.Rows.sortedAll_old) (Nat.le_succ _) ⟨by rw [List.length_map, pm.length_eq]; rw [List.length_map] at hz; exact hz, out, ep, vo, he'⟩, rfl, ?_⟩
    refine q _ (bs'.map Prod.snd) _ (pm.map _) ?_ (lq_of fun b hb => e3 b (pm.mem_iff.mp hb)) (pm.map _) (I.hok.fresh (Nat.le_succ _))
    rw [List.pairwise_map]
    exact srt.imp fun h => of_decide_eq_true h
end
end Tk

namespace Tk
open PySem PySem.Spec PyProof.Rows L2
theorem te_eqR {t : TE} {σ : L2.St} {H : Hp} {Q : VK} (x : V) (h : ∀ Q' : VK, Q' x H → t σ H Q') (hq : Q x H) : t σ H Q := h Q hq
/-- a Ratio made of two ints -/
theorem mk_ratio {C : Addr} {G : Hp} {x dx' : Addr} {t b : Int} {R : VK} {E : XK} (b0 : b ≠ 0) (bl : b.natAbs.log2 < 9000) (nx : G x = none) (ndx : G dx' = none) (q : ∀ G' : Hp, Same G G' → RatAt C G' x (lowQ t b) → R .non G') :
    spRInit C [.ref x, .int t, .int b] (upd (upd G dx' (.own x)) x (.ins C dx' [])) R E := by
  have sm : Same G (upd (upd G dx' (.own x)) x (.ins C dx' [])) := fun b o e => by
    rw [upd_ne (ne_of_none e nx), upd_ne (ne_of_none e ndx)]
    exact e
  exact ⟨x, dx', t, b, rfl, upd_same, b0, bl, fun G' keep h => q G' (fun b o e => keep b o (ne_of_none e nx) (sm b o e)) h⟩
/-- Ratios in a list -/
def RatsP (C : Addr) (H : Hp) : List V → List (Int × Int) → Prop
  | [], [] => True
  | x :: xs, q :: qs => (∃ p, x = .ref p ∧ RatAt C H p q) ∧ RatsP C H xs qs
  | _, _ => False
theorem rats_s {C : Addr} {H H' : Hp} (e : Same H H') : ∀ {xs : List V} {qs : List (Int × Int)}, RatsP C H xs qs → RatsP C H' xs qs
  | [], [], _ => trivial
  | _ :: _, _ :: _, ⟨⟨p, h1, h2⟩, h⟩ => ⟨⟨p, h1, rat_s h2 e⟩, rats_s e h⟩
  | [], _ :: _, h => h.elim
  | _ :: _, [], h => h.elim
theorem rats_app {C : Addr} {H : Hp} : ∀ {xs ys : List V} {qs rs : List (Int × Int)}, RatsP C H xs qs → RatsP C H ys rs → RatsP C H (xs ++ ys) (qs ++ rs)
  | [], _, [], _, _, h => h
  | _ :: _, _, _ :: _, _, ⟨h1, h2⟩, h => ⟨h1, rats_app h2 h⟩
  | [], _, _ :: _, _, h, _ => h.elim
  | _ :: _, _, [], _, h, _ => h.elim
theorem rats_at {C : Addr} {H : Hp} : ∀ {xs : List V} {qs : List (Int × Int)}, RatsP C H xs qs → xs.length = qs.length ∧ ∀ (i : Nat) (x : V) (q : Int × Int), xs[i]? = some x → qs[i]? = some q → ∃ p, x = .ref p ∧ RatAt C H p q
  | [], [], _ => ⟨rfl, fun i x q h _ => by simp at h⟩
  | x :: xs, q :: qs, ⟨h1, h⟩ => by
    obtain ⟨l, g⟩ := rats_at h
    refine ⟨by simp [l], fun i y z hy hz => ?_⟩
    cases i with
    | zero =>
      simp at hy hz
      subst hy
      subst hz
      exact h1
    | succ i => exact g i y z (by simpa using hy) (by simpa using hz)
  | [], _ :: _, h => h.elim
  | _ :: _, [], h => h.elim
/-- a list of another place changes -/
theorem rat_but {C l : Addr} {H H' : Hp} {p : Addr} {q : Int × Int} {xs : List V} (h : RatAt C H p q) (hl : H l = some (.lst xs)) (e : SmX l H H') : RatAt C H' p q := by
  obtain ⟨dx, h⟩ := h
  exact ⟨dx, e _ _ (fun z => by rw [z, hl] at h; cases h) h⟩
theorem pair_but {K : PySem.W.Frag} {l : Addr} {H H' : Hp} {p : Addr} {q : Int × Int} {xs : List V} (h : PairAt K H p q) (hl : H l = some (.lst xs)) (e : SmX l H H') : PairAt K H' p q := by
  rcases h with (h | ⟨z, h⟩) | h
  · exact .inl (.inl (e _ _ (fun z => by rw [z, hl] at h; cases h) h))
  · exact .inl (.inr ⟨z, e _ _ (fun z => by rw [z, hl] at h; cases h) h⟩)
  · exact .inr h
theorem rats_but {C l : Addr} {H H' : Hp} {zs : List V} (hl : H l = some (.lst zs)) (e : SmX l H H') : ∀ {xs : List V} {qs : List (Int × Int)}, RatsP C H xs qs → RatsP C H' xs qs
  | [], [], _ => trivial
  | _ :: _, _ :: _, ⟨⟨p, h1, h2⟩, h⟩ => ⟨⟨p, h1, rat_but h2 hl e⟩, rats_but hl e h⟩
  | [], _ :: _, h => h.elim
  | _ :: _, [], h => h.elim
/-- pairs in a list -/
def PrsP (K : PySem.W.Frag) (H : Hp) : List V → List (Int × Int) → Prop
  | [], [] => True
  | x :: xs, q :: qs => (∃ p, x = .ref p ∧ PairAt K H p q) ∧ PrsP K H xs qs
  | _, _ => False
theorem prs_sR {K : PySem.W.Frag} {H H' : Hp} (e : Same H H') : ∀ {xs : List V} {qs : List (Int × Int)}, PrsP K H xs qs → PrsP K H' xs qs
  | [], [], _ => trivial
  | _ :: _, _ :: _, ⟨⟨p, h1, h2⟩, h⟩ => ⟨⟨p, h1, pair_sR h2 e⟩, prs_sR e h⟩
  | [], _ :: _, h => h.elim
  | _ :: _, [], h => h.elim
theorem prs_appR {K : PySem.W.Frag} {H : Hp} : ∀ {xs ys : List V} {qs rs : List (Int × Int)}, PrsP K H xs qs → PrsP K H ys rs → PrsP K H (xs ++ ys) (qs ++ rs)
  | [], _, [], _, _, h => h
  | _ :: _, _, _ :: _, _, ⟨h1, h2⟩, h => ⟨h1, prs_appR h2 h⟩
  | [], _, _ :: _, _, h, _ => h.elim
  | _ :: _, _, [], _, h, _ => h.elim
theorem prs_butR {K : PySem.W.Frag} {l : Addr} {H H' : Hp} {zs : List V} (hl : H l = some (.lst zs)) (e : SmX l H H') : ∀ {xs : List V} {qs : List (Int × Int)}, PrsP K H xs qs → PrsP K H' xs qs
  | [], [], _ => trivial
  | _ :: _, _ :: _, ⟨⟨p, h1, h2⟩, h⟩ => ⟨⟨p, h1, pair_but h2 hl e⟩, prs_butR hl e h⟩
  | [], _ :: _, h => h.elim
  | _ :: _, [], h => h.elim
theorem prs_dps {K : PySem.W.Frag} {H : Hp} : ∀ {xs : List V} {qs : List (Int × Int)}, PrsP K H xs qs → DpAll K H xs (qs.map dP)
  | [], [], _ => .nil
  | _ :: _, _ :: _, ⟨⟨p, h1, h2⟩, h⟩ => by
    rw [h1]
    exact .cons (dP_mk h2) (prs_dps h)
  | [], _ :: _, h => h.elim
  | _ :: _, [], h => h.elim
theorem eqvs_prs : ∀ {ps qs : List (Int × Int)}, PyData.eqvAll (ps.map dP) (qs.map dP) = decide (ps = qs)
  | [], [] => by simp [PyData.eqvAll]
  | [], q :: qs => by simp [PyData.eqvAll]
  | p :: ps, [] => by simp [PyData.eqvAll]
  | p :: ps, q :: qs => by
    show (PyData.eqv (dP p) (dP q) && PyData.eqvAll (ps.map dP) (qs.map dP)) = _
    rw [eqv_dPq, eqvs_prs]
    by_cases c1 : p = q <;> by_cases c2 : ps = qs <;> simp [c1, c2]
theorem eqv_prs {ps qs : List (Int × Int)} : PyData.eqv (.list (ps.map dP)) (.list (qs.map dP)) = decide (ps = qs) := by
  simp only [PyData.eqv]
  exact eqvs_prs
end Tk

namespace Tk
open PySem PySem.Spec PyProof.Rows L2
/-! ## repr of a list that holds an own object -/
/-- the lists under repr hold an own object each -/
def GuardOk (g : List Code) (H : Hp) : Prop := ∀ (id : String) (v : Value) (rest : List Value) (kw : List (Str × Value)), Code.builtin id ⟨v :: rest, kw⟩ ∈ g →
  ∃ (a p : Addr) (xs : List V) (C dx : Addr) (fs : List (Str × V)), v = .ref a ∧ H a = some (.lst xs) ∧ V.ref p ∈ xs ∧ H p = some (.ins C dx fs)
theorem guard_nil (H : Hp) : GuardOk [] H := fun _ _ _ _ h => nomatch h
theorem guard_s {g : List Code} {H H' : Hp} (h : GuardOk g H) (e : Same H H') : GuardOk g H' := fun id v rest kw hm => by
  obtain ⟨a, p, xs, C, dx, fs, h1, h2, h3, h4⟩ := h id v rest kw hm
  exact ⟨a, p, xs, C, dx, fs, h1, e _ _ h2, h3, e _ _ h4⟩
theorem vals_mem {p : Addr} : ∀ {xs : List V} {us : List Value}, Vals xs us → V.ref p ∈ xs → Value.ref p ∈ us
  | _, _, .nil, h => nomatch h
  | _, _, .cons r t, h => by
    rcases List.mem_cons.mp h with e | h
    · subst e
      cases r
      exact List.mem_cons_self ..
    · exact List.mem_cons_of_mem _ (vals_mem t h)
theorem reads_mem {h : Heap} {v : Value} : ∀ {vs : List Value} {ds : List PyData} {as : List Addr}, ReadsAll h vs ds as → v ∈ vs → ∃ d bs, Reads h v d bs
  | _, _, _, .nil, m => nomatch m
  | _, _, _, .cons r t, m => by
    rcases List.mem_cons.mp m with e | m
    · subst e
      exact ⟨_, _, r⟩
    · exact reads_mem t m
theorem guard_clear {X : Cx} {pins : List (Addr × Obj)} {σ : L2.St} {H : Hp} {s : Shared} {g : List Code} {b : Addr} {d : PyData} {as : List Addr} (I : Inv X pins σ H s) (h : GuardOk g H) (r : Reads s.heap (.ref b) d as) : Clear g b := by
  intro id v rest kw hm e
  obtain ⟨a, p, xs, C, dx, fs, rfl, ha, hp, hi⟩ := h id v rest kw hm
  cases e
  obtain ⟨_, its, n, rv, _, ho⟩ := I.lstM ha
  obtain ⟨mA, J, _⟩ := ins_get I.hok hi
  have hoP := J.obj
  have hcP : (PySem.W.instObj C dx).cls = .ref C := rfl
  have m := vals_mem rv hp
  have noP : ∀ d bs, ¬ Reads s.heap (.ref p) d bs := by
    intro d bs r
    cases r with
    | list h1 h2 _ _ => rw [hoP] at h1; cases h1; exact nomatch (hcP.symm.trans h2)
    | tuple h1 h2 _ _ => rw [hoP] at h1; cases h1; exact nomatch (hcP.symm.trans h2)
    | dict h1 h2 _ _ _ => rw [hoP] at h1; cases h1; exact nomatch (hcP.symm.trans h2)
  cases r with
  | list h1 h2 h3 h4 =>
    rw [ho] at h1
    cases h1
    cases h3
    obtain ⟨d, bs, r⟩ := reads_mem h4 (by simpa using m)
    exact noP d bs r
  | tuple h1 h2 _ _ => rw [ho] at h1; cases h1; injection h2 with e; exact absurd e (by decide)
  | dict h1 h2 _ _ _ => rw [ho] at h1; cases h1; injection h2 with e; exact absurd e (by decide)
/-- promises of defs that are called while repr runs -/
structure FnC (P : Program) (w : World) (K : PySem.W.Frag) (mg : Str → Option Value) (base : Heap) (k : Nat) (f : Addr) (fd : FuncData) (ps : List Str) (sp : Sp) : Prop where
  len : ∀ vs H Q E, sp vs H Q E → vs.length = ps.length
  run : ∀ (g : List Code) (A : Around) (outer : List Env) (s : Shared) (H : Hp) (args : Args) (us : List Value) (vs : List V) (Q : VK) (E : XK),
    A.guards = some g → GuardOk g H → Room k A → Env0 P w K mg base A outer s H → BindsTo s fd args (ps.zip us) → Vals vs us → sp vs H Q E →
    codeAny (model P w) A (.call (.ref f) args) (CR CX0 outer P w H s Q E) s
theorem FnC.toG {P : Program} {w : World} {K : PySem.W.Frag} {mg : Str → Option Value} {base : Heap} {k : Nat} {f : Addr} {fd : FuncData} {ps : List Str} {sp : Sp} (F : FnC P w K mg base k f fd ps sp) : FnG P w K mg base k f fd ps sp :=
  ⟨F.len, fun A outer s H args us vs Q E hg => F.run [] A outer s H args us vs Q E hg (guard_nil H)⟩
section
variable {P : Program} {w : World} {K : PySem.W.Frag} {mg : Str → Option Value} {base : Heap}
theorem okC {nm qual : Str} {st : Stmt} {f : Addr} {fd : FuncData} {N ps : List Str} {k : Nat} {sp : Sp} (F : Fun K nm qual st f fd) (S : FnScope N ps (defScope st)) (len : ∀ vs H Q E, sp vs H Q E → vs.length = ps.length)
    (body : ∀ (cdv : Value) (g : List Code) (A : Around) (outer : List Env) (s : Shared) (H : Hp) (vs : List V) (Q : VK) (E : XK), A.guards = some g → GuardOk g H →
      Room k (A.deeper (envOfC qual (defScope st) s.heap.objs.size f cdv)) → sp vs H Q E →
      ∃ t, PSs (cxOf CX0 P w K mg base N qual (defScope st) f cdv A outer s H E).nox (defBody st) t ∧ t { nx := fun _ H' => Q .non H', rt := Q } (start N vs) H) :
    FnC P w K mg base (k + 1) f fd ps sp := by
  obtain ⟨oc, od, kV, doc, pm, an, cdv, ct, osl, rfl, lk, hcd⟩ := F.ex
  constructor
  · exact len
  intro g A outer s H args us vs Q E hgd hgo room en bnd vals hsp
  have nvs := len _ _ _ _ hsp
  have inK : K.In s.heap := en.mod.kin.keeps (fun b o z => (en.bs b o z).1)
  have noLim : s.heap.NoLimit := en.mod.nolimit.keeps (fun b o z => (en.bs b o z).1)
  have places : ∀ y ∈ ps.zip us, (defScope st).names.lookup y.1 = some .local ∨ ((defScope st).names.lookup y.1 = some .cell ∧ ((cellsFrom (s.heap.objs.size + 1) (defScope st).names []).lookup y.1).isSome = true) := by
    rintro ⟨n, v⟩ hy
    cases S.par n (List.of_mem_zip hy).1 with
    | inl l => exact Or.inl l
    | inr c => exact Or.inr ⟨c, PySem.W.cellsFrom_some _ _ _ (Or.inl c)⟩
  apply codeAny_call_function room.depth (inK _ _ lk) rfl S.co S.gen rfl (PySem.W.codeRec_of inK hcd)
  apply bnd
  apply wpAny_newFunctionEnv_cells S.kind places
  intro ev hev st1 ic
  subst hev
  refine ⟨noLim.keeps ic.toInCall.keep, ?_⟩
  apply codeAny_func
  obtain ⟨t, ht0, hq⟩ := body cdv g A outer s H vs Q E hgd hgo (room.deeper _) hsp
  have ht := ht0.nox
  have inv0 : Inv (cxOf CX0 P w K mg base N qual (defScope st) f cdv A outer s H E) [] (start N vs) H st1 := inv_start S room.hd en nvs vals ic
  have done : ∀ {σ' : L2.St} {H' : Hp} {v : V} {u : Value} {s' : Shared}, Inv (cxOf CX0 P w K mg base N qual (defScope st) f cdv A outer s H E) [] σ' H' s' → RelV v u → Q v H' → CE outer P w H s Q u s' := by
    intro σ' H' v u s' J rv q
    exact ⟨v, H', J.os, J.bare, J.base, J.hok, rv, q⟩
  refine wpAny_mono (ht.run [] st1 (start N vs) H _ inv0 hq) ?_ (fun e s' z => z)
  intro fl s' z
  cases fl with
  | next => obtain ⟨σ', H', J, q⟩ := z; exact done (v := V.non) (u := Value.none) J rfl q
  | ret u => obtain ⟨v, σ', H', J, rv, q⟩ := z; exact done J rv q
  | brk => obtain ⟨a1, a2, a3, q⟩ := z; exact q.elim
  | cont => obtain ⟨a1, a2, a3, q⟩ := z; exact q.elim
end
section
variable {X : Cx}
/-- an f-string's part that is a list of data, while repr runs -/
def tFmtC (K : PySem.W.Frag) (g : List Code) (te : TE) : TE := fun σ H Q => te σ H fun x H1 => ∃ (a : Addr) (ds : List PyData), x = .ref a ∧ GuardOk g H1 ∧ Dp K H1 (.ref a) (.list ds) ∧ (PyData.list ds).showable = true ∧ (PyData.list ds).hasDict = false ∧ (PyData.list ds).depth ≤ 50 ∧ (PyData.list ds).shown.length ≤ sizeLine ∧ Q (.str (PyData.list ds).shown) H1
theorem pe_fmtC {e : Expr} {te : TE} {pos : Pos} {g : List Code} (hgd : X.A.guards = some g) (hu : X.A.units + 64 < cLine) (he : PE X e te) : PE X (.FormattedValue e (-1) none pos) (tFmtC X.K g te) := by
  refine ⟨fun pins s σ H Q I h => ?_⟩
  refine wpAny_FormattedValue_plain (thn (he.run pins s σ H _ I h) fun v s1 hv => ?_)
  obtain ⟨x, H1, I1, r1, a, ds, rfl, go, hd, hs, hn, hdp, hz, q⟩ := hv
  cases r1
  obtain ⟨as, rd⟩ := Dp.reads I1 (.list ds) (.ref a) (.ref a) hd rfl
  have fin : ∀ (h' : Heap) (u tk : Tok), (∀ b o, s1.heap.get? b = some o → h'.get? b = some o) → ∃ y t, Value.str (PyData.list ds).shown u = .str y t ∧ EP X pins σ Q (.str (PyData.list ds).shown u) { s1 with heap := h', toks := tk } := fun h' u tk keep =>
    ⟨_, _, rfl, .str (PyData.list ds).shown, H1, I1.kept keep, ⟨u, rfl⟩, q⟩
  cases rd with
  | @list _ o vs n _ as' h1 h2 h3 h4 =>
    have hz' : (listText (PyData.shownAll ds)).length ≤ sizeLine := by simpa only [PyData.shown] using hz
    obtain ⟨bs, hb, hk⟩ := ReprAllK.of_readsAll (prog := X.prog) (w := X.w) h4 (by simpa [PyData.showable] using hs) (fun hx => by simp only [PyData.hasDict] at hn; rw [hn] at hx; cases hx) (fun t ht => Nat.le_trans (listText_mem_le ht) hz')
    have hna : a ∉ bs := not_mem_of_deeper (.list h1 h2 h3 h4) (by simp only [PyData.depth]; omega) hb
    have clr : ∀ b ∈ a :: bs, Clear g b := by
      intro b hm
      rcases List.mem_cons.mp hm with e | hm
      · rw [e]; exact guard_clear I1 go (.list h1 h2 h3 h4)
      · obtain ⟨d', as'', r', _⟩ := hb b hm
        exact guard_clear I1 go r'
    refine wpAny_formatField_slot (T := "list") (fun _ _ => nofun) (by omega) ⟨o, h1, h2⟩ F.slot_list_format F.slot_list_str F.slot_list_repr.toG ?_
    simp only [PyData.depth] at hdp
    simp only [PyData.shown] at fin
    obtain ⟨l⟩ := vs
    cases l with
    | nil =>
      have h4' : ReadsAll s1.heap [] ds _ := h4
      cases h4'
      simp only [PyData.shownAll, listText_nil] at fin
      exact call_list_repr_empty ⟨o, h1, h2⟩ h1 h3 (fin s1.heap _ _ fun _ _ e => e)
    | cons x l =>
      exact call_list_reprK h1 h2 h3 hna (by simpa using hk.length_eq) (fun i y e => hk.item i y (by simpa using e)) hgd clr (by show X.A.units + 1 + 1 + _ < cLine; omega) (fun _ _ e => e) (fun h' u tk keep => fin h' u tk keep) hz'
end
section
variable {prog : Program} {w : World} {A : Around} {E : Value → Shared → Prop} {s : Shared} {K : PySem.W.Frag} {h₀ : Heap} {L x C f : Addr} {ox : Obj} {od : Option Obj} {m : Str → Option Value}
theorem boundBy_own {last : Value → List Value → Sem Value} {name : Str} {Q : Option Value → Shared → Prop} (X : K.In s.heap) (I : PySem.W.InstAt s.heap x ox C od) (hs : PySem.W.findIn K (.ref C) name = some (some (.ref f))) (hf : PySem.W.isFn K (.ref f) = true)
    (h : wpAny (model prog w) A (last (.ref f) [.ref x]) (fun v => Q (some v)) E s) : wpAny (model prog w) A (callSpecialIfBoundBy? last (.ref x) name) Q E s := by
  simp only [callSpecialIfBoundBy?, bindSpecialIfBound?]
  refine wpAny_holding (wpAny_bind (wpAny_bind (wpAny_bind (I.type.here ((PySem.W.looks_findIn X hs).here ?_)))))
  refine wpAny_bind (wpAny_askSetting (wpAny_ite ?_))
  have fin : wpAny (model prog w) A (last (.ref f) [.ref x] >>= fun v => pure (some v)) Q E s := wpAny_bind (wpAny_mono h (fun v s' h' => wpAny_pure h') fun _ _ h' => h')
  split
  · exact wpAny_bind ((PySem.W.bind_fn X _ (beq_iff_eq.mp hf)).here (wpAny_pure (by exact fin)))
  · exact wpAny_tryCatch (wpAny_bind ((PySem.W.bind_fn X _ (beq_iff_eq.mp hf)).here (wpAny_pure (by exact fin))))
theorem under_own {b : Nat} {Q : Str → Shared → Prop} (hb : b ≤ sizeLine) (hu : A.units < cLine) (X : K.In s.heap) (I : PySem.W.InstAt s.heap x ox C od) (hs : PySem.W.findIn K (.ref C) "__repr__" = some (some (.ref f))) (hf : PySem.W.isFn K (.ref f) = true)
    (h : wpAny (model prog w) A (call (.ref f) [.ref x]) (fun v s' => ∃ t u, v = .str t u ∧ Q t s') E s) : wpAny (model prog w) A (pyReprUnder b (.ref x)) Q E s := by
  refine wpAny_pyReprUnder_ref hb ?_
  unfold pyReprObjUnder pyReprObjBy
  refine wpAny_bind (wpAny_cRoomFor hu ?_)
  refine wpAny_bind (wpAny_bind (I.type.here ((PySem.W.looks_findIn X hs).here ?_)))
  show wpAny _ _ (if (some (Value.ref f)).isNone = true then _ else _) _ _ _
  rw [if_neg (by simp)]
  refine wpAny_bind (m := callSpecialIfBoundBy? _ (.ref x) (Str.ofString "__repr__")) (boundBy_own X I hs hf ?_)
  refine wpAny_mono h (fun v s' hv => ?_) fun _ _ e => e
  obtain ⟨t, u, rfl, q⟩ := hv
  refine wpAny_bind (wpAny_isInstance (typeIs_str _ _ _) isSubtype_str_str ?_)
  first
    | exact wpAny_pure ⟨_, _, rfl, q⟩
    | (rw [if_pos rfl]; exact wpAny_pure ⟨_, _, rfl, q⟩)
end
theorem room_loop {k : Nat} {A : Around} {args : Args} (r : Room (k + 1) A) : Room k (A.under (.builtin "list.__repr__.loop" args)) := by
  have e1 : (A.under (.builtin "list.__repr__.loop" args)).units = A.units + 1 := units_under_list_loop A args
  have e2 : (A.under (.builtin "list.__repr__.loop" args)).depth ≤ A.depth + 1 := by
    show A.depth + (Code.builtin "list.__repr__.loop" args).weight ≤ A.depth + 1
    have : (Code.builtin "list.__repr__.loop" args).weight ≤ 1 := by
      simp [Code.weight, Code.isCreation, Code.isGuard, Code.isCaller, Code.frames, Code.isFrame, guardIds]
    omega
  exact ⟨r.hd, by have := r.dp; omega, by have := r.un; omega⟩
section
variable {X : Cx}
theorem run_ownC {k : Nat} {f : Addr} {fd : FuncData} {ps : List Str} {sp : Sp} {g : List Code} {pins : List (Addr × Obj)} {σ : L2.St} {H : Hp} {s : Shared} {A : Around} {us : List Value} {vs : List V} {Q : VK} (F : FnC X.prog X.w X.K X.mg X.base k f fd ps sp) (hgd : A.guards = some g) (hgo : GuardOk g H) (hr : Room k A) (hfr : A.frames = X.A.frames) (hb : Binds X.K fd ps []) (I : Inv X pins σ H s) (r : Vals vs us) (q : sp vs H Q fun _ _ _ => False) :
    wpAny (model X.prog X.w) A (call (.ref f) us) (EP X pins σ Q) X.xe s := by
  have e0 : Env0 X.prog X.w X.K X.mg X.base A X.stack s H := by
    have e := I.env0
    exact ⟨by rw [hfr]; exact e.frames, e.mod, e.bs, e.bsz, e.funs, e.frf, e.hok, e.bare⟩
  have hl : us.length = ps.length := by rw [← r.length]; exact F.len _ _ _ _ q
  refine wpAny_call (codeAny_mono (F.run g A X.stack s H ⟨us, []⟩ us vs _ _ hgd hgo hr e0 (by
    have := hb s us I.kIn (by simpa using hl)
    simpa using this) r q) fun r s' hq => ?_)
  cases r with
  | error e => exact False.elim hq
  | ok fl =>
    cases fl with
    | ret w' => exact I.after hq
    | next => exact False.elim hq
    | brk => exact False.elim hq
    | cont => exact False.elim hq
end
end Tk

namespace Tk
open PySem PySem.Spec PyProof.Rows L2
/-- repr of a list of an own object and data -/
def rRep2 (K : PySem.W.Frag) (C : Addr) (sp : Sp) : List V → Hp → VK → Prop := fun xs H Q => ∃ (a p : Addr) (y : V) (d : PyData) (dx : Addr) (fs : List (Str × V)) (t : Str), xs = [.ref a] ∧ H a = some (.lst [.ref p, y]) ∧ H p = some (.ins C dx fs) ∧ Dp K H y d ∧ d.showable = true ∧ d.hasDict = false ∧ d.depth ≤ 50 ∧
  t.length + d.shown.length + 100 ≤ sizeLine ∧ (∀ (H0 : Hp) (R : VK), Same H H0 → (∀ H', Same H0 H' → R (.str t) H') → sp [.ref p] H0 R fun _ _ _ => False) ∧ ∀ H', Same H H' → Q (.str (listText [t, d.shown])) H'
section
variable {X : Cx}
theorem call_repr2 {k : Nat} {C f : Addr} {fd : FuncData} {ps : List Str} {sp : Sp} (h1 : PySem.W.findIn X.K (.ref C) "__repr__" = some (some (.ref f))) (h2 : PySem.W.isFn X.K (.ref f) = true) (F : FnC X.prog X.w X.K X.mg X.base k f fd ps sp) (hgd : X.A.guards = some []) (hr : Room (k + 2) X.A) (hb : Binds X.K fd ps []) :
    CallR X (.builtin "repr") (rRep2 X.K C sp) := by
  intro pins s σ H xs us Q I r hq
  obtain ⟨a, p, y, d, dx, fs, t, rfl, ha, hp, hd, hs, hn, hdp, hz, run, q⟩ := hq
  obtain rfl : us = [Value.ref a] := Vals.ref1 r
  obtain ⟨_, its, n, rv, _, ho⟩ := I.lstM ha
  obtain ⟨u, rfl, ru⟩ : ∃ u, its = [Value.ref p, u] ∧ RelV y u := by
    cases rv with
    | cons r1 r2 =>
      cases r1
      cases r2 with
      | cons r3 r4 =>
        cases r4
        exact ⟨_, rfl, r3⟩
  have hun := hr.un
  have hzt : (listText [t, d.shown]).length ≤ sizeLine := by
    have e1 : (listText [t, d.shown]).length = t.length + d.shown.length + 4 := by
      show (((((Str.ofString "[" ++ Str.ofString "") ++ t) ++ Str.ofString ", ") ++ d.shown) ++ Str.ofString "]").length = _
      rw [strLen_append, strLen_append, strLen_append, strLen_append, strLen_append]
      have l1 : (Str.ofString "[").length = 1 := by decide +kernel
      have l2 : (Str.ofString "").length = 0 := by decide +kernel
      have l3 : (Str.ofString ", ").length = 2 := by decide +kernel
      have l4 : (Str.ofString "]").length = 1 := by decide +kernel
      omega
    omega
  refine call_repr_slot (T := "list") (idr := "list.__repr__") (by omega) ⟨_, ho, rfl⟩ PySem.F.slot_list_repr.toG ?_
  refine wpAny_call (codeAny_call_builtin PySem.F.slot_list_repr.plain PySem.F.entry_list_repr (PySem.F.slot_list_repr.check _ _ _ _ _ _ _ _ ⟨_, ho, rfl⟩ (PySem.F.args_list_repr_1 _) ?_))
  refine wpAny_list_repr_head (A := X.A.in1.in1) (g := []) (b := 0) hgd (fun _ _ _ h => nomatch h) ho rfl ?_
  refine wpAny_bind (m := newList []) (wpAny_newObj_type ?_)
  refine wpAny_pure ⟨PySem.F.quiet_list_repr_loop _, ?_⟩
  have hP : H s.heap.objs.size = none := I.fresh
  have J0 : Inv X pins σ (upd H s.heap.objs.size (.lst [])) { s with heap := s.heap.push { cls := .type "list", data := .seq ([] : List Value).toArray } } := I.lnew (its := []) .nil (by decide)
  have ho0 := Heap.get?_push_of_some { cls := .type "list", data := .seq ([] : List Value).toArray } ho
  have s0 : Same H (upd H s.heap.objs.size (.lst [])) := same_new hP
  have hP0 : (upd H s.heap.objs.size (.lst [])) s.heap.objs.size = some (.lst []) := upd_same
  generalize s.heap.objs.size = P at hP J0 s0 hP0
  -- the object
  refine codeAny_builtin PySem.F.entry_list_repr_loop ?_
  show wpAny _ _ (Builtin.«list.__repr__.loop» ⟨[.ref a, .int 0 0, .ref P, .int 0 0], []⟩) _ _ _
  rw [repr_loop_tree]
  refine wpAny_bind (wpAny_listItems ho0 rfl ?_)
  show wpAny _ _ (do
      let s ← holding [Value.ref p] (pyReprUnder ((0 : Int).toNat + 1) (Value.ref p))
      let signs := (0 : Int).toNat + (s.length + 2)
      let r ← mkStr s
      Builtin.List.listUpdate (.ref P) (·.push r)
      again (.builtin "list.__repr__.loop" ⟨[.ref a, rawInt (0 + 1), .ref P, rawInt signs], []⟩)) _ _ _
  obtain ⟨mA, O, _⟩ := ins_get J0.hok (s0 _ _ hp)
  obtain ⟨od, O, _⟩ := O.look
  have go0 : GuardOk [Code.builtin "list.__repr__.loop" ⟨[.ref a, .int 0 0, .ref P, .int 0 0], []⟩] (upd H P (.lst [])) := fun id v rest kw hm => by
    cases List.mem_singleton.mp hm
    exact ⟨a, p, _, C, dx, fs, rfl, s0 _ _ ha, List.mem_cons_self .., s0 _ _ hp⟩
  have g0 : (X.A.in1.under (.builtin "list.__repr__.loop" ⟨[.ref a, .int 0 0, .ref P, .int 0 0], []⟩)).guards = some [Code.builtin "list.__repr__.loop" ⟨[.ref a, .int 0 0, .ref P, .int 0 0], []⟩] := guards_under_guard (isGuard_list_loop _) hgd
  have room0 : Room k (X.A.in1.under (.builtin "list.__repr__.loop" ⟨[.ref a, .int 0 0, .ref P, .int 0 0], []⟩)) := room_loop (r := (hr.in1 : Room (k + 1) X.A.in1))
  refine wpAny_bind (wpAny_holding (under_own (by show 1 ≤ sizeLine; omega) room0.units0 J0.kIn O h1 h2 ?_))
  refine wpAny_mono (run_ownC (vs := [V.ref p]) (us := [Value.ref p]) F g0 go0 room0 rfl hb J0 (.cons rfl .nil) (run _ (fun v H1 => v = .str t ∧ Same (upd H P (.lst [])) H1) s0 fun H1 e => ⟨rfl, e⟩)) (fun v s1 hv => ?_) fun _ _ e => ?_
  · obtain ⟨z, H1, J1, rz, rfl, e1⟩ := hv
    obtain ⟨tk0, rfl⟩ := rz
    refine ⟨t, tk0, rfl, ?_⟩
    refine wpAny_bind (wpAny_mkStr ?_ (by omega))
    refine wpAny_bind ?_
    show wpAny _ _ (updateSeq P _) _ _ _
    obtain ⟨_, itsP, nP, rvP, _, hoP⟩ := J1.lstM (e1 _ _ hP0)
    cases rvP
    refine wpAny_updateSeq hoP rfl (wpAny_pure ⟨PySem.F.quiet_list_repr_loop _, ?_⟩) (by simp)
    have J2 := J1.lset (its' := [.str t s1.toks]) (ys := [.str t]) (t' := s1.toks + 1) (f := (·.push (.str t s1.toks))) (e1 _ _ hP0) hoP (by simp) (.cons ⟨_, rfl⟩ .nil) (szle (by show 1 ≤ 100000; decide))
    have s2 : Same H (upd H1 P (.lst [.str t])) := same_mut (s0.trans e1) hP
    have hP2 : (upd H1 P (.lst [.str t])) P = some (.lst [.str t]) := upd_same
    show codeAny _ _ (.builtin "list.__repr__.loop" ⟨[.ref a, .int 1 0, .ref P, .int (((0 : Int).toNat + (t.length + 2) : Nat) : Int) 0], []⟩) _ { s1 with heap := s1.heap.update P (Obj.mapSeq (·.push (.str t s1.toks))), toks := s1.toks + 1 }
    have eN : (0 : Int).toNat + (t.length + 2) = t.length + 2 := by simp
    rw [eN]
    generalize ({ s1 with heap := s1.heap.update P (Obj.mapSeq (·.push (.str t s1.toks))), toks := s1.toks + 1 } : Shared) = t1 at J2
    generalize upd H1 P (.lst [.str t]) = H2 at J2 s2 hP2
    -- the data
    obtain ⟨_, itsA, nA, rvA, _, hoA⟩ := J2.lstM (s2 _ _ ha)
    obtain ⟨u, rfl, ru⟩ : ∃ u, itsA = [Value.ref p, u] ∧ RelV y u := by
      cases rvA with
      | cons r1 r2 =>
        cases r1
        cases r2 with
        | cons r3 r4 =>
          cases r4
          exact ⟨_, rfl, r3⟩
    refine codeAny_builtin PySem.F.entry_list_repr_loop ?_
    show wpAny _ _ (Builtin.«list.__repr__.loop» ⟨[.ref a, .int 1 0, .ref P, .int ((t.length + 2 : Nat) : Int) 0], []⟩) _ _ _
    rw [repr_loop_tree]
    refine wpAny_bind (wpAny_listItems hoA rfl ?_)
    show wpAny _ _ (do
      let s ← holding [u] (pyReprUnder ((((t.length + 2 : Nat) : Int)).toNat + 1) u)
      let signs := (((t.length + 2 : Nat) : Int)).toNat + (s.length + 2)
      let r ← mkStr s
      Builtin.List.listUpdate (.ref P) (·.push r)
      again (.builtin "list.__repr__.loop" ⟨[.ref a, rawInt (1 + 1), .ref P, rawInt signs], []⟩)) _ _ _
    rw [Int.toNat_natCast]
    have go1 : GuardOk [Code.builtin "list.__repr__.loop" ⟨[.ref a, .int 1 0, .ref P, .int ((t.length + 2 : Nat) : Int) 0], []⟩] H2 := fun id v rest kw hm => by
      cases List.mem_singleton.mp hm
      exact ⟨a, p, _, C, dx, fs, rfl, s2 _ _ ha, List.mem_cons_self .., s2 _ _ hp⟩
    have g1 : (X.A.in1.under (.builtin "list.__repr__.loop" ⟨[.ref a, .int 1 0, .ref P, .int ((t.length + 2 : Nat) : Int) 0], []⟩)).guards = some [Code.builtin "list.__repr__.loop" ⟨[.ref a, .int 1 0, .ref P, .int ((t.length + 2 : Nat) : Int) 0], []⟩] := guards_under_guard (isGuard_list_loop _) hgd
    have room1 : Room k (X.A.in1.under (.builtin "list.__repr__.loop" ⟨[.ref a, .int 1 0, .ref P, .int ((t.length + 2 : Nat) : Int) 0], []⟩)) := room_loop (r := (hr.in1 : Room (k + 1) X.A.in1))
    obtain ⟨as, rd⟩ := Dp.reads J2 d y u (dp_s hd s2) ru
    obtain ⟨bs, hbs, hk⟩ := ReprK.of_reads (prog := X.prog) (w := X.w) rd hs (PyData.noDict_hsm hn) (by omega)
    refine wpAny_bind (wpAny_holding (hk (t.length + 2 + 1) (by omega) _ _ _ _ _ g1 (fun b hm => ?_) (by have := room1.un; omega) (fun _ _ e => e) fun h' tk keep => ?_))
    · obtain ⟨d', as', r', _⟩ := hbs b hm
      exact guard_clear J2 go1 r'
    have J3 : Inv X pins σ H2 { t1 with heap := h', toks := tk } := J2.kept keep
    refine wpAny_bind (wpAny_mkStr ?_ (by omega))
    refine wpAny_bind ?_
    show wpAny _ _ (updateSeq P _) _ _ _
    obtain ⟨_, itsP, nP, rvP, _, hoP⟩ := J3.lstM hP2
    obtain ⟨t0, rfl⟩ : ∃ t0, itsP = [.str t t0] := by
      cases rvP with
      | cons r1 r2 =>
        cases r2
        obtain ⟨t0, rfl⟩ := r1
        exact ⟨t0, rfl⟩
    refine wpAny_updateSeq hoP rfl (wpAny_pure ⟨PySem.F.quiet_list_repr_loop _, ?_⟩) (szle (by show 1 ≤ 100000; decide))
    have J4 := J3.lset (its' := [.str t t0, .str d.shown tk]) (ys := [.str t, .str d.shown]) (t' := tk + 1) (f := (·.push (.str d.shown tk))) hP2 hoP (by simp) (.cons ⟨_, rfl⟩ (.cons ⟨_, rfl⟩ .nil)) (szle (by show 2 ≤ 100000; decide))
    have s4 : Same H (upd H2 P (.lst [.str t, .str d.shown])) := same_mut s2 hP
    have hP4 : (upd H2 P (.lst [.str t, .str d.shown])) P = some (.lst [.str t, .str d.shown]) := upd_same
    show codeAny _ _ (.builtin "list.__repr__.loop" ⟨[.ref a, .int 2 0, .ref P, .int ((t.length + 2 + (d.shown.length + 2) : Nat) : Int) 0], []⟩) _ { t1 with heap := h'.update P (Obj.mapSeq (·.push (.str d.shown tk))), toks := tk + 1 }
    generalize ({ t1 with heap := h'.update P (Obj.mapSeq (·.push (.str d.shown tk))), toks := tk + 1 } : Shared) = t2 at J4
    generalize upd H2 P (.lst [.str t, .str d.shown]) = H4 at J4 s4 hP4
    -- the end
    obtain ⟨_, itsA, nA, rvA, _, hoA⟩ := J4.lstM (s4 _ _ ha)
    obtain ⟨u4, rfl, ru4⟩ : ∃ u, itsA = [Value.ref p, u] ∧ RelV y u := by
      cases rvA with
      | cons r1 r2 =>
        cases r1
        cases r2 with
        | cons r3 r4 =>
          cases r4
          exact ⟨_, rfl, r3⟩
    obtain ⟨_, itsP, nP, rvP, _, hoP⟩ := J4.lstM hP4
    obtain ⟨t0, t1', rfl⟩ : ∃ t0 t1, itsP = [.str t t0, .str d.shown t1] := by
      cases rvP with
      | cons r1 r2 =>
        obtain ⟨t0, rfl⟩ := r1
        cases r2 with
        | cons r3 r4 =>
          cases r4
          obtain ⟨t1, rfl⟩ := r3
          exact ⟨t0, t1, rfl⟩
    refine codeAny_builtin PySem.F.entry_list_repr_loop ?_
    show wpAny _ _ (Builtin.«list.__repr__.loop» ⟨[.ref a, .int 2 0, .ref P, .int ((t.length + 2 + (d.shown.length + 2) : Nat) : Int) 0], []⟩) _ _ _
    rw [repr_loop_tree]
    refine wpAny_bind (wpAny_listItems hoA rfl ?_)
    show wpAny _ _ (reprEnd (.ref P)) _ _ _
    unfold reprEnd
    refine wpAny_bind (wpAny_listItems hoP rfl ?_)
    have eL : ([.str t t0, .str d.shown t1'] : List Value).toArray.toList = strValues [(t, t0), (d.shown, t1')] := rfl
    rw [eL, repr_fold]
    refine wpAny_bind (wpAny_pure ?_)
    refine wpAny_bind (wpAny_mkStr (wpAny_pure ?_) hzt)
    exact ⟨_, _, rfl, .str (listText [t, d.shown]), H4, J4.tok _, ⟨_, rfl⟩, q H4 s4⟩
  · exact e
end
end Tk

namespace Tk
open PySem PySem.Spec PyProof.Rows L2
/-! ## repr of lists and tuples, one in another, that hold own objects -/
mutual
/-- v shows as t; lists and tuples lie n deep -/
inductive Tx (R : Hp → Addr → Str → Prop) (H : Hp) : V → Str → Nat → Prop
  | int (i : Int) (h : (PyData.int i).showable = true) : Tx R H (.int i) (PyData.int i).shown 0
  | bl (b : Bool) : Tx R H (.bl b) (PyData.bool b).shown 0
  | non : Tx R H .non PyData.none.shown 0
  | own {p : Addr} {t : Str} (h : R H p t) : Tx R H (.ref p) t 0
  | lst {a : Addr} {xs : List V} {ts : List Str} {n : Nat} (h : H a = some (.lst xs)) (f : xs.length ≤ 1000) (g : TxA R H xs ts n) : Tx R H (.ref a) (listText ts) (n + 1)
  | tup {a : Addr} {xs : List V} {ts : List Str} {n : Nat} (h : H a = some (.tup xs)) (f : xs.length ≤ 1000) (g : TxA R H xs ts n) : Tx R H (.ref a) (tupleText ts) (n + 1)
inductive TxA (R : Hp → Addr → Str → Prop) (H : Hp) : List V → List Str → Nat → Prop
  | nil : TxA R H [] [] 0
  | cons {x : V} {t : Str} {m : Nat} {xs : List V} {ts : List Str} {n : Nat} (h : Tx R H x t m) (g : TxA R H xs ts n) : TxA R H (x :: xs) (t :: ts) (max m n)
end
/-- what R says of the objects of the class at C, whose __repr__ keeps the promise sp -/
structure Shows (C : Addr) (R : Hp → Addr → Str → Prop) (sp : Sp) : Prop where
  st : ∀ {H H' : Hp} {p : Addr} {t : Str}, R H p t → Same H H' → R H' p t
  ins : ∀ {H : Hp} {p : Addr} {t : Str}, R H p t → ∃ (dx : Addr) (fs : List (Str × V)), H p = some (.ins C dx fs)
  run : ∀ {H : Hp} {p : Addr} {t : Str} {Q : VK}, R H p t → (∀ H', Same H H' → Q (.str t) H') → sp [.ref p] H Q fun _ _ _ => False
section
variable {C : Addr} {R : Hp → Addr → Str → Prop} {sp : Sp}
theorem txa_len {H : Hp} : ∀ {xs : List V} {ts : List Str} {n : Nat}, TxA R H xs ts n → xs.length = ts.length
  | [], _, _, h => by cases h; rfl
  | x :: xs, _, _, h => by
    cases h with
    | cons h g => rw [List.length_cons, List.length_cons, txa_len g]
theorem txa_at {H : Hp} : ∀ {xs : List V} {ts : List Str} {n : Nat}, TxA R H xs ts n → ∀ (i : Nat) (x : V), xs[i]? = some x → ∃ t m, ts[i]? = some t ∧ Tx R H x t m ∧ m ≤ n
  | [], _, _, h, i, x, e => by simp at e
  | y :: xs, _, _, h, i, x, e => by
    cases h with
    | cons h g =>
      cases i with
      | zero =>
        simp at e
        subst e
        exact ⟨_, _, rfl, h, Nat.le_max_left _ _⟩
      | succ i =>
        obtain ⟨t, m, e1, e2, e3⟩ := txa_at g i x (by simpa using e)
        exact ⟨t, m, by simpa using e1, e2, Nat.le_trans e3 (Nat.le_max_right _ _)⟩
theorem txa_s' {H H' : Hp} {n : Nat} (ih : ∀ m, m ≤ n → ∀ v t, Tx R H v t m → Tx R H' v t m) : ∀ {xs : List V} {ts : List Str} {k : Nat}, k ≤ n → TxA R H xs ts k → TxA R H' xs ts k
  | [], _, _, _, h => by cases h; exact .nil
  | x :: xs, _, _, hk, h => by
    cases h with
    | cons h g => exact .cons (ih _ (Nat.le_trans (Nat.le_max_left _ _) hk) _ _ h) (txa_s' ih (Nat.le_trans (Nat.le_max_right _ _) hk) g)
theorem tx_s (Z : Shows C R sp) {H H' : Hp} (e : Same H H') : ∀ (n : Nat) (v : V) (t : Str), Tx R H v t n → Tx R H' v t n := by
  intro n
  induction n using Nat.strongRecOn with
  | ind n ih =>
    intro v t h
    cases h with
    | int i h => exact .int i h
    | bl b => exact .bl b
    | non => exact .non
    | own h => exact .own (Z.st h e)
    | lst h f g => exact .lst (e _ _ h) f (txa_s' (fun m hm => ih m (Nat.lt_succ_of_le hm)) (Nat.le_refl _) g)
    | tup h f g => exact .tup (e _ _ h) f (txa_s' (fun m hm => ih m (Nat.lt_succ_of_le hm)) (Nat.le_refl _) g)
theorem txa_s (Z : Shows C R sp) {H H' : Hp} (e : Same H H') {xs : List V} {ts : List Str} {n : Nat} (h : TxA R H xs ts n) : TxA R H' xs ts n := txa_s' (fun m _ => tx_s Z e m) (Nat.le_refl _) h
theorem txa_uq {H : Hp} {n : Nat} (ih : ∀ m, m ≤ n → ∀ v t, Tx R H v t m → ∀ t' m', Tx R H v t' m' → m = m') : ∀ {xs : List V} {ts ts' : List Str} {k k' : Nat}, k ≤ n → TxA R H xs ts k → TxA R H xs ts' k' → k = k'
  | [], _, _, _, _, _, h, h' => by cases h; cases h'; rfl
  | x :: xs, _, _, _, _, hk, h, h' => by
    cases h with
    | cons h g =>
      cases h' with
      | cons h' g' => rw [ih _ (Nat.le_trans (Nat.le_max_left _ _) hk) _ _ h _ _ h', txa_uq ih (Nat.le_trans (Nat.le_max_right _ _) hk) g g']
theorem tx_uq (Z : Shows C R sp) {H : Hp} : ∀ (n : Nat) (v : V) (t : Str), Tx R H v t n → ∀ (t' : Str) (m : Nat), Tx R H v t' m → n = m := by
  intro n
  induction n using Nat.strongRecOn with
  | ind n ih =>
    intro v t h t' m h'
    cases h with
    | int i h => cases h'; rfl
    | bl b => cases h'; rfl
    | non => cases h'; rfl
    | own h =>
      obtain ⟨dx, fs, e⟩ := Z.ins h
      cases h' with
      | own _ => rfl
      | lst h' _ _ => rw [e] at h'; cases h'
      | tup h' _ _ => rw [e] at h'; cases h'
    | lst h _ g =>
      cases h' with
      | own h' => obtain ⟨dx, fs, e⟩ := Z.ins h'; rw [e] at h; cases h
      | lst h' _ g' =>
        rw [h] at h'
        cases h'
        rw [txa_uq (fun m hm => ih m (Nat.lt_succ_of_le hm)) (Nat.le_refl _) g g']
      | tup h' _ _ => rw [h] at h'; cases h'
    | tup h _ g =>
      cases h' with
      | own h' => obtain ⟨dx, fs, e⟩ := Z.ins h'; rw [e] at h; cases h
      | tup h' _ g' =>
        rw [h] at h'
        cases h'
        rw [txa_uq (fun m hm => ih m (Nat.lt_succ_of_le hm)) (Nat.le_refl _) g g']
      | lst h' _ _ => rw [h] at h'; cases h'
end
/-- the lists and tuples under repr lie deeper than n -/
def GuardT (R : Hp → Addr → Str → Prop) (H : Hp) (n : Nat) (g : List Code) : Prop := ∀ (id : String) (v : Value) (rest : List Value) (kw : List (Str × Value)), Code.builtin id ⟨v :: rest, kw⟩ ∈ g → ∃ (a : Addr) (t : Str) (m : Nat), v = .ref a ∧ Tx R H (.ref a) t m ∧ n < m
/-- the repr of v under another one's: t -/
def ItemR (X : Cx) (pins : List (Addr × Obj)) (σ : L2.St) (R : Hp → Addr → Str → Prop) (kk : Nat) (H0 : Hp) (n : Nat) (v : V) (t : Str) : Prop :=
  ∀ (base : Nat) (A : Around) (g : List Code) (H : Hp) (s : Shared) (u : Value) (Q : Str → Shared → Prop) (E : Value → Shared → Prop), (∀ e s, X.xe e s → E e s) → base + t.length ≤ sizeLine → A.guards = some g → GuardT R H0 n g → Room (kk + n) A → A.frames = X.A.frames → Same H0 H → Inv X pins σ H s → RelV v u →
    (∀ H' s', Same H H' → Inv X pins σ H' s' → Q t s') → wpAny (model X.prog X.w) A (pyReprUnder base u) Q E s
section
variable {X : Cx} {pins : List (Addr × Obj)} {σ : L2.St} {R : Hp → Addr → Str → Prop}
theorem vals_at {x : V} : ∀ {xs : List V} {us : List Value} {i : Nat}, Vals xs us → xs[i]? = some x → ∃ u, us[i]? = some u ∧ RelV x u
  | _, _, i, .nil, h => by simp at h
  | _, _, 0, .cons r _, h => by
    simp at h
    subst h
    exact ⟨_, rfl, r⟩
  | _, _, i + 1, .cons _ t, h => by
    obtain ⟨u, e, r⟩ := vals_at (i := i) t (by simpa using h)
    exact ⟨u, by simpa using e, r⟩
theorem strs_of {H : Hp} {ts : List Str} : ∀ {us : List Value}, Vals (ts.map V.str) us → ∃ l : List (Str × Tok), us = strValues l ∧ l.map (·.1) = ts := by
  induction ts with
  | nil => intro us h; cases h; exact ⟨[], rfl, rfl⟩
  | cons t ts ih =>
    intro us h
    cases h with
    | cons r1 r2 =>
      obtain ⟨l, rfl, e⟩ := ih r2
      obtain ⟨tk, rfl⟩ := r1
      exact ⟨(t, tk) :: l, rfl, by simp [e]⟩
theorem loop_R {kk n : Nat} {H0 Hs : Hp} {a P : Addr} {xs : List V} {ts : List Str} {A : Around} {g : List Code} {base : Nat} {Rr : Result → Shared → Prop} (hlen : xs.length = ts.length) (hsz : base + (listText ts).length ≤ sizeLine) (few : xs.length ≤ 100000)
    (hT : ∀ (i : Nat) (x : V), xs[i]? = some x → ∃ t m, ts[i]? = some t ∧ m ≤ n ∧ ItemR X pins σ R kk H0 m x t) (hat : ∃ t, Tx R H0 (.ref a) t (n + 1)) (hg : A.guards = some g) (hG : GuardT R H0 (n + 1) g) (hr : Room (kk + n + 1) A) (hf : A.frames = X.A.frames) (ha : H0 a = some (.lst xs)) (h0s : Same H0 Hs) (hP0 : Hs P = none)
    (hE : ∀ e s', X.xe e s' → Rr (.error e) s') (hR : ∀ (H' : Hp) (s' : Shared) (u : Tok), Same Hs H' → Inv X pins σ H' s' → Rr (.ok (.ret (.str (listText ts) u))) s') :
    ∀ (k i : Nat) (s : Shared) (H : Hp), ts.length - i = k → i ≤ ts.length → Same Hs H → H P = some (.lst ((ts.take i).map V.str)) → Inv X pins σ H s →
    codeAny (model X.prog X.w) A (.builtin "list.__repr__.loop" ⟨[.ref a, rawInt i, .ref P, rawInt ((base + piled (ts.take i) : Nat) : Int)], []⟩) Rr s := by
  have hp3 := piled_le_listText ts
  intro k
  induction k with
  | zero =>
    intro i s H hk hi sH hP I
    have hin : i = ts.length := by omega
    obtain ⟨_, itsA, nA, rvA, _, hoA⟩ := I.lstM ((h0s.trans sH) _ _ ha)
    obtain ⟨_, itsP, nP, rvP, _, hoP⟩ := I.lstM hP
    refine codeAny_builtin PySem.F.entry_list_repr_loop ?_
    show wpAny _ _ (Builtin.«list.__repr__.loop» ⟨[.ref a, .int i 0, .ref P, .int ((base + piled (ts.take i) : Nat) : Int) 0], []⟩) _ _ _
    rw [repr_loop_tree]
    refine wpAny_bind (wpAny_listItems hoA rfl ?_)
    have hnone : itsA.toArray[(i : Int).toNat]? = none := by
      have := rvA.length
      simp
      omega
    simp only [hnone]
    unfold reprEnd
    refine wpAny_bind (wpAny_listItems hoP rfl ?_)
    obtain ⟨l, e1, e2⟩ := strs_of (H := H) rvP
    rw [show itsP.toArray.toList = strValues l by simp [e1], repr_fold]
    refine wpAny_bind (wpAny_pure ?_)
    rw [show l.map (·.1) = ts by rw [e2, hin, List.take_length]]
    exact wpAny_bind (wpAny_mkStr (wpAny_pure (hR H _ _ sH (I.tok _))) (by show (listText ts).length ≤ sizeLine; omega))
  | succ k ih =>
    intro i s H hk hi sH hP I
    have hlt : i < ts.length := by omega
    obtain ⟨x, hx⟩ : ∃ x, xs[i]? = some x := ⟨xs[i]'(by omega), by simp [show i < xs.length by omega]⟩
    obtain ⟨t, m, ht, hm, hrep⟩ := hT i x hx
    have hp1 := piled_take_succ ht
    have hp2 := piled_take_le ts (i + 1)
    obtain ⟨_, itsA, nA, rvA, _, hoA⟩ := I.lstM ((h0s.trans sH) _ _ ha)
    refine codeAny_builtin PySem.F.entry_list_repr_loop ?_
    show wpAny _ _ (Builtin.«list.__repr__.loop» ⟨[.ref a, .int i 0, .ref P, .int ((base + piled (ts.take i) : Nat) : Int) 0], []⟩) _ _ _
    rw [repr_loop_tree]
    refine wpAny_bind (wpAny_listItems hoA rfl ?_)
    obtain ⟨u, hu, ru⟩ : ∃ u, itsA[i]? = some u ∧ RelV x u := vals_at rvA hx
    have hsome : itsA.toArray[(i : Int).toNat]? = some u := by simp [hu]
    simp only [hsome]
    rw [Int.toNat_natCast]
    have room0 : Room (kk + m) (A.under (.builtin "list.__repr__.loop" ⟨[.ref a, .int i 0, .ref P, .int ((base + piled (ts.take i) : Nat) : Int) 0], []⟩)) := (room_loop hr).mono (by omega)
    obtain ⟨ta, hta⟩ := hat
    have go : GuardT R H0 m (Code.builtin "list.__repr__.loop" ⟨[.ref a, .int i 0, .ref P, .int ((base + piled (ts.take i) : Nat) : Int) 0], []⟩ :: g) := fun id v rest kw hmem => by
      rcases List.mem_cons.mp hmem with e | hmem
      · cases e
        exact ⟨a, ta, n + 1, rfl, hta, by omega⟩
      · obtain ⟨b, tb, mb, e1, e2, e3⟩ := hG id v rest kw hmem
        exact ⟨b, tb, mb, e1, e2, by omega⟩
    refine wpAny_bind (wpAny_holding (hrep (base + piled (ts.take i) + 1) _ _ H s u _ _ hE (by omega) (guards_under_guard (isGuard_list_loop _) hg) go room0 hf (h0s.trans sH) I ru fun H1 s1 e1 I1 => ?_))
    refine wpAny_bind (wpAny_mkStr ?_ (by omega))
    refine wpAny_bind ?_
    show wpAny _ _ (updateSeq P _) _ _ _
    obtain ⟨_, itsP, nP, rvP, _, hoP⟩ := I1.lstM (e1 _ _ hP)
    have lP : itsP.length = i := by
      rw [← rvP.length, List.length_map, List.length_take]
      omega
    refine wpAny_updateSeq hoP rfl (wpAny_pure ⟨PySem.F.quiet_list_repr_loop _, ?_⟩) (by
      have : itsP.toArray.size ≤ 100000 := by simp; omega
      exact szle this)
    have J2 := I1.lset (its' := itsP ++ [.str t s1.toks]) (ys := (ts.take i).map V.str ++ [.str t]) (t' := s1.toks + 1) (f := (·.push (.str t s1.toks))) (e1 _ _ hP) hoP (by simp) (rvP.append (.cons (show RelV (.str t) (.str t s1.toks) from ⟨_, rfl⟩) .nil)) (szle (by simp; omega))
    have s2 : Same Hs (upd H1 P (.lst ((ts.take i).map V.str ++ [.str t]))) := same_mut (sH.trans e1) hP0
    have e3 : ((i : Int) + 1) = ((i + 1 : Nat) : Int) := by omega
    have e4 : base + piled (ts.take i) + (t.length + 2) = base + piled (ts.take (i + 1)) := by omega
    rw [e3, e4]
    refine ih (i + 1) _ _ (by omega) (by omega) s2 ?_ J2
    rw [take_at ht, List.map_append]
    exact upd_same
theorem clear_T {C : Addr} {sp : Sp} (Z : Shows C R sp) {H0 : Hp} {a : Addr} {t : Str} {n : Nat} {g : List Code} (h : Tx R H0 (.ref a) t n) (hG : GuardT R H0 n g) : Clear g a := fun id v rest kw hm e => by
  obtain ⟨b, tb, m, e1, e2, e3⟩ := hG id v rest kw hm
  rw [e1] at e
  cases e
  have := tx_uq Z _ _ _ h _ _ e2
  omega
theorem item_lst {C : Addr} {sp : Sp} (Z : Shows C R sp) {kk n : Nat} {H0 : Hp} {a : Addr} {xs : List V} {ts : List Str} (ha : H0 a = some (.lst xs)) (few : xs.length ≤ 1000) (g0 : TxA R H0 xs ts n)
    (hT : ∀ (i : Nat) (x : V), xs[i]? = some x → ∃ t m, ts[i]? = some t ∧ m ≤ n ∧ ItemR X pins σ R kk H0 m x t) : ItemR X pins σ R kk H0 (n + 1) (.ref a) (listText ts) := by
  intro base A g H s u Q E hE hb hg hG hr hf sH I ru hQ
  obtain rfl : u = Value.ref a := ru
  obtain ⟨z, its, nn, rv, _, ho⟩ := I.lstM (sH _ _ ha)
  have hx : Tx R H0 (.ref a) (listText ts) (n + 1) := .lst ha few g0
  cases rv with
  | nil =>
    cases g0
    refine ReprK.listEmpty (as := []) (h₀ := s.heap) (d := 0) ho rfl rfl base hb A g E s Q hg (fun _ h => nomatch h) (by have := hr.units0; omega) (fun _ _ e => e) fun h' tk keep => ?_
    exact hQ H _ (fun _ _ e => e) (I.kept keep)
  | @cons x0 u0 xs' us' r0 r' =>
    refine wpAny_pyReprUnder_ref (by omega) (wpAny_pyReprObjUnder_twin (twin := "list.__repr__.under") ⟨_, ho, rfl⟩ PySem.F.slot_list_repr.toG rfl hr.units0 ?_)
    refine call_twin_plain PySem.F.plain_list_repr_under PySem.F.entry_list_repr_under PySem.F.check_list_repr_under ⟨_, ho, rfl⟩ PySem.F.slot_list_repr.toG (PySem.F.args_list_repr_1 _) ?_
    refine wpAny_list_repr_head (A := A.in1) hg (fun v rest kw hm => listSameRef_of_ne (clear_T Z hx hG _ _ _ _ hm)) ho rfl ?_
    refine wpAny_bind (m := newList []) (wpAny_newObj_type ?_)
    refine wpAny_pure ⟨PySem.F.quiet_list_repr_loop _, ?_⟩
    have hP : H s.heap.objs.size = none := I.fresh
    have J0 : Inv X pins σ (upd H s.heap.objs.size (.lst [])) { s with heap := s.heap.push { cls := .type "list", data := .seq ([] : List Value).toArray } } := I.lnew (its := []) .nil (by decide)
    refine loop_R (n := n) (H0 := H0) (base := base) (txa_len g0) hb (by omega) hT ⟨_, hx⟩ hg hG hr hf ha (Hs := H) sH hP hE (fun H' s' u e J => ⟨⟨_, _, rfl⟩, _, _, rfl, hQ _ _ e J⟩) _ 0 _ _ rfl (Nat.zero_le _) (same_new hP) upd_same J0
theorem fold_R {kk n : Nat} {H0 : Hp} {A : Around} {g : List Code} {E : Value → Shared → Prop} (hE : ∀ e s, X.xe e s → E e s) (hg : A.guards = some g) (hG : GuardT R H0 n g) (hr : Room (kk + n) A) (hf : A.frames = X.A.frames) :
    ∀ (xs : List V) (ts : List Str) (us : List Value) (acc : Array Str) (c : Nat) (s : Shared) (H : Hp) (Q : (Array Str × Nat) → Shared → Prop), xs.length = ts.length → Vals xs us →
    (∀ (i : Nat) (x : V), xs[i]? = some x → ∃ t m, ts[i]? = some t ∧ m ≤ n ∧ ItemR X pins σ R kk H0 m x t) → c + piled ts ≤ sizeLine → Same H0 H → Inv X pins σ H s →
    (∀ H' s', Same H H' → Inv X pins σ H' s' → Q ⟨acc ++ ts.toArray, c + piled ts⟩ s') → wpAny (model X.prog X.w) A (forIn us (⟨acc, c⟩ : (Array Str × Nat)) tupBody) Q E s := by
  intro xs
  induction xs with
  | nil =>
    intro ts us acc c s H Q hl rv hT hc sH I hQ
    cases rv
    cases ts with
    | nil =>
      have h0 := hQ H s (fun _ _ e => e) I
      simp only [List.forIn_nil]
      exact wpAny_pure (by simpa [piled] using h0)
    | cons _ _ => simp at hl
  | cons x xs ih =>
    intro ts us acc c s H Q hl rv hT hc sH I hQ
    cases ts with
    | nil => simp at hl
    | cons t ts =>
      cases rv with
      | cons r0 rv =>
        rw [piled_cons] at hc
        obtain ⟨t', m, e1, hm, hrep⟩ := hT 0 x rfl
        cases (show t = t' by simpa using e1)
        rw [List.forIn_cons]
        refine wpAny_bind ?_
        show wpAny _ _ (pyReprUnder (c + 1) _ >>= _) _ _ _
        refine wpAny_bind (hrep (c + 1) A g H s _ _ E hE (by omega) hg (fun id v rest kw hmem => ?_) (hr.mono (by omega)) hf sH I r0 fun H1 s1 e2 I1 => wpAny_pure ?_)
        · obtain ⟨b, tb, mb, q1, q2, q3⟩ := hG id v rest kw hmem
          exact ⟨b, tb, mb, q1, q2, by omega⟩
        refine ih ts _ (acc.push t) (c + (t.length + 2)) s1 H1 Q (by simpa using hl) rv (fun i y hy => ?_) (by omega) (sH.trans e2) I1 fun H2 s2 e3 I2 => ?_
        · obtain ⟨t2, m2, q1, q2⟩ := hT (i + 1) y (by simpa using hy)
          exact ⟨t2, m2, by simpa using q1, q2⟩
        · have h1 := hQ H2 s2 (e2.trans e3) I2
          have e : c + piled (t :: ts) = c + (t.length + 2) + piled ts := by rw [piled_cons]; omega
          rw [e] at h1
          simpa using h1
theorem room_tup {k : Nat} {A : Around} {args : Args} (r : Room (k + 1) A) : Room k (A.under (.builtin "tuple.__repr__.under" args)) := by
  have e1 : (A.under (.builtin "tuple.__repr__.under" args)).units = A.units + 1 := by
    first | rfl | simp [Around.under, Code.cUnits, Code.frames, Code.isFrame]
  have e2 : (A.under (.builtin "tuple.__repr__.under" args)).depth ≤ A.depth + 1 := by
    show A.depth + (Code.builtin "tuple.__repr__.under" args).weight ≤ A.depth + 1
    have : (Code.builtin "tuple.__repr__.under" args).weight ≤ 1 := by
      simp [Code.weight, Code.isCreation, Code.isGuard, Code.isCaller, Code.frames, Code.isFrame, guardIds]
    omega
  exact ⟨r.hd, by have := r.dp; omega, by have := r.un; omega⟩
theorem tup_own {kk n : Nat} {H0 H : Hp} {a : Addr} {xs : List V} {ts : List Str} {A : Around} {g : List Code} {s : Shared} {Rr : Result → Shared → Prop} {base : Nat} {id : String} {rest : List Value}
    (hr' : Room (kk + n) (A.under (.builtin id ⟨.ref a :: rest, []⟩))) (hcg : (Code.builtin id ⟨.ref a :: rest, []⟩).isGuard = true) (hx : Tx R H0 (.ref a) (tupleText ts) (n + 1)) (clr : Clear g a) (hlen : xs.length = ts.length)
    (hT : ∀ (i : Nat) (x : V), xs[i]? = some x → ∃ t m, ts[i]? = some t ∧ m ≤ n ∧ ItemR X pins σ R kk H0 m x t) (hg : A.guards = some g) (hG : GuardT R H0 (n + 1) g) (hf : (A.under (.builtin id ⟨.ref a :: rest, []⟩)).frames = X.A.frames) (sH : Same H0 H) (ha : H0 a = some (.tup xs)) (I : Inv X pins σ H s)
    (hE : ∀ e s', X.xe e s' → Rr (.error e) s') (hR : ∀ (H' : Hp) (s' : Shared) (u : Tok), Same H H' → Inv X pins σ H' s' → Rr (.ok (.ret (.str (tupleText ts) u))) s') (hsz : base + (tupleText ts).length ≤ sizeLine) :
    wpOwn (model X.prog X.w) A (.builtin id ⟨.ref a :: rest, []⟩) (Builtin.tupleReprAt base ⟨[.ref a], []⟩) (fun fin s' => match fin with | .done f => Rr (.ok f) s' | .again c' => c'.quiet = true ∧ codeAny (model X.prog X.w) A c' Rr s') (fun e s' => Rr (.error e) s') s := by
  obtain ⟨its, rv, it, _⟩ := I.tuple (st_of (sH _ _ ha))
  have hp := piled_le_tupleText ts
  have li : its.length = ts.length := by rw [← rv.length]; exact hlen
  rw [tuple_repr_tree, tupleReprUnderWay_eq]
  refine wpOwn_bind (wpOwn_stackTailAny hg (tupGuardF_off _) (tupGuardF_pos _) ?_)
  rw [show (g.any fun c => tupGuardF (.ref a) (c, default)) = false from List.any_eq_false.mpr fun c hc => by rw [tupGuardF_of_clear clr c hc]; exact Bool.false_ne_true]
  refine wpOwn_of_wpAny ?_
  show wpAny _ _ (tupleReprRest base (.ref a)) _ _ s
  unfold tupleReprRest Builtin.Tuple.tupleItemsOf
  obtain ⟨o, ho, hc, nn, hd⟩ := it
  refine wpAny_bind (wpAny_bind (wpAny_seqItems ho hd (wpAny_pure ?_)))
  rw [← Array.forIn_toList]
  have go : GuardT R H0 n (Code.builtin id ⟨.ref a :: rest, []⟩ :: g) := fun id' v rest' kw hmem => by
    rcases List.mem_cons.mp hmem with e | hmem
    · cases e
      exact ⟨a, _, n + 1, rfl, hx, by omega⟩
    · obtain ⟨b, tb, mb, e1, e2, e3⟩ := hG id' v rest' kw hmem
      exact ⟨b, tb, mb, e1, e2, by omega⟩
  refine wpAny_bind (fold_R (H0 := H0) hE (guards_under_guard hcg hg) go hr' hf xs ts _ _ _ s H _ hlen (by simpa using rv) hT (by omega) sH I fun H1 s1 e1 I1 => ?_)
  have sz0 : (tupleText ts).length ≤ sizeLine := by omega
  refine wpAny_bind (wpAny_mkStr (wpAny_pure ?_) (by simpa [tupleText, li] using sz0))
  have h1 := hR H1 { s1 with toks := s1.toks + 1 } s1.toks e1 (I1.tok _)
  simpa [tupleText, li] using h1
theorem item_tup {C : Addr} {sp : Sp} (Z : Shows C R sp) {kk n : Nat} {H0 : Hp} {a : Addr} {xs : List V} {ts : List Str} (ha : H0 a = some (.tup xs)) (few : xs.length ≤ 1000) (g0 : TxA R H0 xs ts n)
    (hT : ∀ (i : Nat) (x : V), xs[i]? = some x → ∃ t m, ts[i]? = some t ∧ m ≤ n ∧ ItemR X pins σ R kk H0 m x t) : ItemR X pins σ R kk H0 (n + 1) (.ref a) (tupleText ts) := by
  intro base A g H s u Q E hE hb hg hG hr hf sH I ru hQ
  obtain rfl : u = Value.ref a := ru
  have hx : Tx R H0 (.ref a) (tupleText ts) (n + 1) := .tup ha few g0
  obtain ⟨its, rv, ⟨o, ho, hc, nn, hd⟩, _⟩ := I.tuple (st_of (sH _ _ ha))
  refine wpAny_pyReprUnder_ref (by omega) (wpAny_pyReprObjUnder_twin (twin := "tuple.__repr__.under") ⟨o, ho, hc⟩ PySem.F.slot_tuple_repr rfl hr.units0 ?_)
  refine call_twin_own (PySem.F.quiet_tuple_repr_under _) PySem.F.entry_tuple_repr_under PySem.F.check_tuple_repr_under ⟨o, ho, hc⟩ PySem.F.slot_tuple_repr (PySem.F.args_tuple_repr_1 _) ?_
  exact tup_own (n := n) (room_tup hr) (isGuard_tuple_repr_under _) hx (clear_T Z hx hG) (txa_len g0) hT hg hG hf sH ha I hE (fun H' s' u e J => ⟨⟨_, _, rfl⟩, _, _, rfl, hQ _ _ e J⟩) hb
theorem item_own {C f : Addr} {fd : FuncData} {ps : List Str} {sp : Sp} (Z : Shows C R sp) {kk k n : Nat} {H0 : Hp} {p : Addr} {t : Str} (h1 : PySem.W.findIn X.K (.ref C) "__repr__" = some (some (.ref f))) (h2 : PySem.W.isFn X.K (.ref f) = true) (F : FnOk X.prog X.w X.K X.mg X.base CX0 k f fd ps sp) (hk : k ≤ kk) (hb : Binds X.K fd ps [])
    (h : R H0 p t) : ItemR X pins σ R kk H0 n (.ref p) t := by
  intro base A g H s u Q E hE hbs hg hG hr hf sH I ru hQ
  obtain rfl : u = Value.ref p := ru
  have h' := Z.st h sH
  obtain ⟨dx, fs, hi⟩ := Z.ins h'
  obtain ⟨mA, O, _⟩ := ins_get I.hok hi
  obtain ⟨od, O, _⟩ := O.look
  refine under_own (by omega) hr.units0 I.kIn O h1 h2 ?_
  have e0 : Env0 X.prog X.w X.K X.mg X.base A X.stack s H := by
    have e := I.env0
    exact ⟨by rw [hf]; exact e.frames, e.mod, e.bs, e.bsz, e.funs, e.frf, e.hok, e.bare⟩
  have q0 := Z.run h' (Q := fun v H1 => v = .str t ∧ Same H H1) fun H1 e => ⟨rfl, e⟩
  have hl : 1 = ps.length := F.len _ _ _ _ q0
  refine wpAny_call (codeAny_mono (F.run A X.stack s H ⟨[.ref p], []⟩ [.ref p] [.ref p] _ _ (hr.mono (by omega)) e0 (by
    have := hb s [.ref p] I.kIn (by simpa using hl)
    simpa using this) (.cons rfl .nil) q0) fun r s' hq => ?_)
  cases r with
  | error e => exact False.elim hq
  | ok fl =>
    cases fl with
    | ret w' =>
      obtain ⟨v, H', J, rv, ev, e1⟩ := I.after hq
      subst ev
      obtain ⟨tk, rfl⟩ := rv
      exact ⟨t, tk, rfl, hQ _ _ e1 J⟩
    | next => exact False.elim hq
    | brk => exact False.elim hq
    | cont => exact False.elim hq
/-- what __repr__ of the class at C gives -/
structure OwnRep (X : Cx) (C : Addr) (R : Hp → Addr → Str → Prop) (sp : Sp) (k : Nat) (f : Addr) (fd : FuncData) (ps : List Str) : Prop where
  shows : Shows C R sp
  at_ : PySem.W.findIn X.K (.ref C) "__repr__" = some (some (.ref f))
  fn : PySem.W.isFn X.K (.ref f) = true
  ok : FnOk X.prog X.w X.K X.mg X.base CX0 k f fd ps sp
  bs : Binds X.K fd ps []
theorem item_sc {kk n : Nat} {H0 : Hp} {v : V} {t : Str} (h : ∀ u, RelV v u → ReprIs X.prog X.w u t) : ItemR X pins σ R kk H0 n v t := by
  intro base A g H s u Q E hE hbs hg hG hr hf sH I ru hQ
  exact h u ru base hbs A E s Q fun tk => hQ H _ (fun _ _ e => e) (I.tok _)
theorem item_R {C f : Addr} {fd : FuncData} {ps : List Str} {sp : Sp} {k : Nat} (O : OwnRep X C R sp k f fd ps) {H0 : Hp} : ∀ (n : Nat) (v : V) (t : Str), Tx R H0 v t n → ItemR X pins σ R k H0 n v t := by
  intro n
  induction n using Nat.strongRecOn with
  | ind n ih =>
    intro v t h
    cases h with
    | int i h =>
      refine item_sc fun u ru => ?_
      obtain ⟨tk, rfl⟩ := ru
      have := ReprIs.int (prog := X.prog) (w := X.w) tk (by simpa [PyData.showable] using h)
      simpa only [PyData.shown] using this
    | bl b =>
      refine item_sc fun u ru => ?_
      obtain rfl : u = Value.bool b := ru
      have := ReprIs.bool (prog := X.prog) (w := X.w) b
      simpa only [PyData.shown] using this
    | non =>
      refine item_sc fun u ru => ?_
      obtain rfl : u = Value.none := ru
      have := ReprIs.none (prog := X.prog) (w := X.w)
      simpa only [PyData.shown] using this
    | own h => exact item_own O.shows O.at_ O.fn O.ok (Nat.le_refl _) O.bs h
    | lst h f g =>
      refine item_lst O.shows h f g (fun i x hx => ?_)
      obtain ⟨t, m, e1, e2, e3⟩ := txa_at g i x hx
      exact ⟨t, m, e1, e3, ih m (Nat.lt_succ_of_le e3) x t e2⟩
    | tup h f g =>
      refine item_tup O.shows h f g (fun i x hx => ?_)
      obtain ⟨t, m, e1, e2, e3⟩ := txa_at g i x hx
      exact ⟨t, m, e1, e3, ih m (Nat.lt_succ_of_le e3) x t e2⟩
/-- repr of a list that is not empty -/
def rRepT (R : Hp → Addr → Str → Prop) (N : Nat) : List V → Hp → VK → Prop := fun xs H Q => ∃ (a : Addr) (y : V) (ys : List V) (ts : List Str) (n : Nat), xs = [.ref a] ∧ H a = some (.lst (y :: ys)) ∧ (y :: ys).length ≤ 1000 ∧ TxA R H (y :: ys) ts n ∧ n ≤ N ∧ (listText ts).length ≤ sizeLine ∧
  ∀ H', Same H H' → Q (.str (listText ts)) H'
theorem call_reprT {C f : Addr} {fd : FuncData} {ps : List Str} {sp : Sp} {k N : Nat} (O : OwnRep X C R sp k f fd ps) (hgd : X.A.guards = some []) (hr : Room (k + N + 2) X.A) : CallR X (.builtin "repr") (rRepT R N) := by
  intro pins s σ H xs us Q I r hq
  obtain ⟨a, y, ys, ts, n, rfl, ha, few, g0, hn, hz, q⟩ := hq
  obtain rfl : us = [Value.ref a] := Vals.ref1 r
  obtain ⟨_, its, nn, rv, _, ho⟩ := I.lstM ha
  have hun := hr.un
  have hx : Tx R H (.ref a) (listText ts) (n + 1) := .lst ha few g0
  cases rv with
  | @cons x0 u0 xs' us' r0 r' =>
    refine call_repr_slot (T := "list") (idr := "list.__repr__") (by omega) ⟨_, ho, rfl⟩ PySem.F.slot_list_repr.toG ?_
    refine wpAny_call (codeAny_call_builtin PySem.F.slot_list_repr.plain PySem.F.entry_list_repr (PySem.F.slot_list_repr.check _ _ _ _ _ _ _ _ ⟨_, ho, rfl⟩ (PySem.F.args_list_repr_1 _) ?_))
    refine wpAny_list_repr_head (A := X.A.in1.in1) (g := []) (b := 0) hgd (fun _ _ _ h => nomatch h) ho rfl ?_
    refine wpAny_bind (m := newList []) (wpAny_newObj_type ?_)
    refine wpAny_pure ⟨PySem.F.quiet_list_repr_loop _, ?_⟩
    have hP : H s.heap.objs.size = none := I.fresh
    have J0 : Inv X pins σ (upd H s.heap.objs.size (.lst [])) { s with heap := s.heap.push { cls := .type "list", data := .seq ([] : List Value).toArray } } := I.lnew (its := []) .nil (by decide)
    refine loop_R (X := X) (pins := pins) (σ := σ) (R := R) (A := X.A.in1) (a := a) (P := s.heap.objs.size) (xs := y :: ys) (ts := ts) (kk := k) (n := n) (H0 := H) (Hs := H) (base := 0) (txa_len g0) (by omega) (by omega) (fun i x hx => ?_) ⟨_, hx⟩ (g := []) hgd (fun _ _ _ _ h => nomatch h) (hr.in1.mono (by omega)) rfl ha (fun _ _ e => e) hP ?_ ?_ _ 0 _ _ rfl (Nat.zero_le _) (same_new hP) upd_same J0
    · obtain ⟨t, m, e1, e2, e3⟩ := txa_at g0 i x hx
      exact ⟨t, m, e1, e3, item_R O m x t e2⟩
    · exact fun _ _ e => e
    · exact fun H' s' u e J => ⟨_, _, rfl, ⟨.str (listText ts), H', J, ⟨_, rfl⟩, q H' e⟩⟩
end
end Tk

namespace Tk
open PySem PySem.Spec PyProof.Rows L2
/-! ## == of lists, one in another, that hold own objects -/
mutual
/-- x == y is c; lists lie n deep -/
inductive Eq2 (D : Hp → Addr → Addr → Bool → Prop) (H : Hp) : V → V → Bool → Nat → Prop
  | own {p q : Addr} {c : Bool} (h : D H p q c) : Eq2 D H (.ref p) (.ref q) c 0
  | dif {a b : Addr} {xs ys : List V} (h1 : H a = some (.lst xs)) (h2 : H b = some (.lst ys)) (n : xs.length ≠ ys.length) : Eq2 D H (.ref a) (.ref b) false 1
  | lst {a b : Addr} {xs ys : List V} {c : Bool} {n : Nat} (h1 : H a = some (.lst xs)) (h2 : H b = some (.lst ys)) (g : Eq2A D H xs ys c n) : Eq2 D H (.ref a) (.ref b) c (n + 1)
inductive Eq2A (D : Hp → Addr → Addr → Bool → Prop) (H : Hp) : List V → List V → Bool → Nat → Prop
  | nil : Eq2A D H [] [] true 0
  | cons {x y : V} {c : Bool} {m : Nat} {xs ys : List V} {d : Bool} {n : Nat} (h : Eq2 D H x y c m) (g : Eq2A D H xs ys d n) : Eq2A D H (x :: xs) (y :: ys) (c && d) (max m n)
end
/-- what __eq__ of the class at C gives -/
structure OwnEq (X : Cx) (C : Addr) (D : Hp → Addr → Addr → Bool → Prop) (sp : Sp) (k : Nat) (f : Addr) (fd : FuncData) (ps : List Str) : Prop where
  st : ∀ {H H' : Hp} {p q : Addr} {c : Bool}, D H p q c → Same H H' → D H' p q c
  ins : ∀ {H : Hp} {p q : Addr} {c : Bool}, D H p q c → (∃ (dx : Addr) (fs : List (Str × V)), H p = some (.ins C dx fs)) ∧ ∃ (dx : Addr) (fs : List (Str × V)), H q = some (.ins C dx fs)
  rf : ∀ {H : Hp} {p : Addr} {c : Bool}, D H p p c → c = true
  run : ∀ {H : Hp} {p q : Addr} {c : Bool} {Q : VK}, D H p q c → (∀ H', Same H H' → Q (.bl c) H') → sp [.ref p, .ref q] H Q fun _ _ _ => False
  at_ : PySem.W.findIn X.K (.ref C) "__eq__" = some (some (.ref f))
  fn : PySem.W.isFn X.K (.ref f) = true
  ok : FnOk X.prog X.w X.K X.mg X.base CX0 k f fd ps sp
  bs : Binds X.K fd ps []
section
variable {X : Cx} {pins : List (Addr × Obj)} {σ : L2.St} {C f : Addr} {D : Hp → Addr → Addr → Bool → Prop} {sp : Sp} {k : Nat} {fd : FuncData} {ps : List Str}
theorem e2a_len {H : Hp} : ∀ {xs ys : List V} {c : Bool} {n : Nat}, Eq2A D H xs ys c n → xs.length = ys.length
  | [], _, _, _, h => by cases h; rfl
  | x :: xs, _, _, _, h => by
    cases h with
    | cons h g => rw [List.length_cons, List.length_cons, e2a_len g]
theorem e2a_rf' {H : Hp} {n : Nat} (ih : ∀ m, m ≤ n → ∀ v c, Eq2 D H v v c m → c = true) : ∀ {xs : List V} {c : Bool} {k : Nat}, k ≤ n → Eq2A D H xs xs c k → c = true
  | [], _, _, _, h => by cases h; rfl
  | x :: xs, _, _, hk, h => by
    cases h with
    | cons h g => rw [ih _ (Nat.le_trans (Nat.le_max_left _ _) hk) _ _ h, e2a_rf' ih (Nat.le_trans (Nat.le_max_right _ _) hk) g]; rfl
theorem e2_rf (O : OwnEq X C D sp k f fd ps) {H : Hp} : ∀ (n : Nat) (v : V) (c : Bool), Eq2 D H v v c n → c = true := by
  intro n
  induction n using Nat.strongRecOn with
  | ind n ih =>
    intro v c h
    cases h with
    | own h => exact O.rf h
    | dif h1 h2 hn => rw [h1] at h2; cases h2; exact absurd rfl hn
    | lst h1 h2 g =>
      rw [h1] at h2
      cases h2
      exact e2a_rf' (fun m hm => ih m (Nat.lt_succ_of_le hm)) (Nat.le_refl _) g
/-- x == y within another one's: c -/
def EqR (X : Cx) (pins : List (Addr × Obj)) (σ : L2.St) (kk : Nat) (H0 : Hp) (n : Nat) (x y : V) (c : Bool) : Prop :=
  ∀ (A : Around) (H : Hp) (s : Shared) (u v : Value) (Q : Bool → Shared → Prop) (E : Value → Shared → Prop), (∀ e s, X.xe e s → E e s) → Room (kk + n) A → A.frames = X.A.frames → Same H0 H → Inv X pins σ H s → RelV x u → RelV y v →
    (∀ H' s', Same H H' → Inv X pins σ H' s' → Q c s') → wpAny (model X.prog X.w) A (eqBool u v) Q E s
def RcR (X : Cx) (pins : List (Addr × Obj)) (σ : L2.St) (kk : Nat) (H0 : Hp) (n : Nat) (a b : Addr) (c : Bool) : Prop :=
  ∀ (A : Around) (H : Hp) (s : Shared) (Q : Value → Shared → Prop) (E : Value → Shared → Prop), (∀ e s, X.xe e s → E e s) → Room (kk + n) A → A.frames = X.A.frames → Same H0 H → Inv X pins σ H s →
    (∀ H' s', Same H H' → Inv X pins σ H' s' → Q (.bool c) s') → wpAny (model X.prog X.w) A (richCompare .Eq (.ref a) (.ref b)) Q E s
theorem eq_of_rc {kk n : Nat} {H0 : Hp} {a b : Addr} {c : Bool} (hs : a = b → c = true) (h : RcR X pins σ kk H0 n a b c) : EqR X pins σ kk H0 n (.ref a) (.ref b) c := by
  intro A H s u v Q E hE hr hf sH I ru rv hQ
  obtain rfl : u = Value.ref a := ru
  obtain rfl : v = Value.ref b := rv
  unfold eqBool
  refine wpAny_holding ?_
  refine wpAny_ite_split (fun hab => ?_) (fun _ => ?_)
  · have e : a = b := by have := eq_of_beq hab; injection this
    have := hQ H s (fun _ _ e => e) I
    rw [hs e] at this
    exact wpAny_bind (wpAny_rule (wpAny_pure this))
  · exact wpAny_bind (h A H s _ E hE hr hf sH I fun H' s' e J => wpAny_truthy_bool (hQ H' s' e J))
theorem rc_own (O : OwnEq X C D sp k f fd ps) {n : Nat} {H0 : Hp} {p q : Addr} {c : Bool} (h : D H0 p q c) : RcR X pins σ k H0 n p q c := by
  intro A H s Q E hE hr hf sH I hQ
  have h' := O.st h sH
  obtain ⟨⟨dx, fs, hi⟩, dy, gs, hj⟩ := O.ins h'
  obtain ⟨mA, J, _⟩ := ins_get I.hok hi
  obtain ⟨mB, J', _⟩ := ins_get I.hok hj
  obtain ⟨od, J, _⟩ := J.look
  obtain ⟨od', J', _⟩ := J'.look
  obtain ⟨m, hF⟩ := I.fr
  refine PySem.W.cmp_K (op := .Eq) (tb := .ref C) hr.units0 hF I.ok.mod.kin J J'.type (by simp [PySem.W.notFirst]) O.at_ O.fn ?_
  have e0 : Env0 X.prog X.w X.K X.mg X.base A X.stack s H := by
    have e := I.env0
    exact ⟨by rw [hf]; exact e.frames, e.mod, e.bs, e.bsz, e.funs, e.frf, e.hok, e.bare⟩
  have q0 := O.run h' (Q := fun v H1 => v = .bl c ∧ Same H H1) fun H1 e => ⟨rfl, e⟩
  have hl : 2 = ps.length := O.ok.len _ _ _ _ q0
  refine wpAny_call (codeAny_mono (O.ok.run A X.stack s H ⟨[.ref p, .ref q], []⟩ [.ref p, .ref q] [.ref p, .ref q] _ _ (hr.mono (by omega)) e0 (by
    have := O.bs s [.ref p, .ref q] I.kIn (by simpa using hl)
    simpa using this) (.cons rfl (.cons rfl .nil)) q0) fun r s' hq => ?_)
  cases r with
  | error e => exact False.elim hq
  | ok fl =>
    cases fl with
    | ret w' =>
      obtain ⟨v, H', J, rv, ev, e1⟩ := I.after hq
      subst ev
      cases rv
      exact hQ _ _ e1 J
    | next => exact False.elim hq
    | brk => exact False.elim hq
    | cont => exact False.elim hq
open AutoSeq1 (wpAny_loadPart') in
open MeetsSeq MeetsSeq2 MeetsSeq3 SeqRoads2 in
theorem eqloop_R {kk n : Nat} {H0 : Hp} {l b : Addr} {xs ys : List V} {neg : Bool} {A : Around} {Rr : Result → Shared → Prop} (hl0 : H0 l = some (.lst xs)) (hb0 : H0 b = some (.lst ys)) (hsz : xs.length = ys.length) (cs : Nat → Bool)
    (hT : ∀ (i : Nat) (x y : V), xs[i]? = some x → ys[i]? = some y → ∃ m, m ≤ n ∧ EqR X pins σ kk H0 m x y (cs i)) (hr : Room (kk + n + 1) A) (hf : A.frames = X.A.frames)
    (hE : ∀ e s', X.xe e s' → Rr (.error e) s') :
    ∀ (j i : Nat) (s : Shared) (H : Hp), xs.length - i = j → Same H0 H → Inv X pins σ H s → (∀ H' s', Same H H' → Inv X pins σ H' s' → Rr (.ok (.ret (.bool (((List.range xs.length).drop i).all cs != neg)))) s') →
    wpAny (model X.prog X.w) A.in1 (Builtin.«list.__eq__.loop» ⟨[.ref l, .ref b, rawInt i, rawInt (if neg then 3 else 2)], []⟩) (fun fin s' => match fin with | .done f => Rr (.ok f) s' | .again c' => c'.quiet = true ∧ codeAny (model X.prog X.w) A c' Rr s') (fun e s' => Rr (.error e) s') s := by
  intro j
  induction j with
  | zero =>
    intro i s H hk sH I hR
    obtain ⟨_, its, n1, rv, _, ho⟩ := I.lstM (sH _ _ hl0)
    obtain ⟨_, its2, n2, rv2, _, ho2⟩ := I.lstM (sH _ _ hb0)
    have la := rv.length
    have lb := rv2.length
    have h := hR H s (fun _ _ e => e) I
    obtain ⟨hp, g, d, tk, os⟩ := s
    have hd : (List.range xs.length).drop i = [] := by simp; omega
    rw [hd] at h
    have hi1 : its.toArray[((i : Nat) : Int).toNat]? = none := by simp; omega
    have hi2 : its2.toArray[((i : Nat) : Int).toNat]? = none := by simp; omega
    cases neg with
    | false =>
      wp_walk using wpAny_loadPart' ho, wpAny_loadPart' ho2
      rw [hi1, hi2]
      wp_walk using wpAny_loadPart' ho, wpAny_loadPart' ho2
      show Rr (.ok (.ret (.bool (its.toArray.size == its2.toArray.size)))) _
      rw [show (its.toArray.size == its2.toArray.size) = true by simp; omega]
      simpa using h
    | true =>
      wp_walk using wpAny_loadPart' ho, wpAny_loadPart' ho2
      rw [hi1, hi2]
      wp_walk using wpAny_loadPart' ho, wpAny_loadPart' ho2
      show Rr (.ok (.ret (.bool (its.toArray.size != its2.toArray.size)))) _
      rw [show (its.toArray.size != its2.toArray.size) = false by simp; omega]
      simpa using h
  | succ j ih =>
    intro i s H hk sH I hR
    have hlt : i < xs.length := by omega
    obtain ⟨x, hx⟩ : ∃ x, xs[i]? = some x := ⟨xs[i]'hlt, by simp [hlt]⟩
    obtain ⟨y, hy⟩ : ∃ y, ys[i]? = some y := ⟨ys[i]'(by omega), by simp [show i < ys.length by omega]⟩
    obtain ⟨m, hm, he⟩ := hT i x y hx hy
    obtain ⟨_, its, n1, rv, _, ho⟩ := I.lstM (sH _ _ hl0)
    obtain ⟨_, its2, n2, rv2, _, ho2⟩ := I.lstM (sH _ _ hb0)
    obtain ⟨u, hu, ru⟩ := vals_at rv hx
    obtain ⟨v, hv, rv'⟩ := vals_at rv2 hy
    have hi1 : its.toArray[((i : Nat) : Int).toNat]? = some u := by simp [hu]
    have hi2 : its2.toArray[((i : Nat) : Int).toNat]? = some v := by simp [hv]
    have hd : (List.range xs.length).drop i = i :: (List.range xs.length).drop (i + 1) := by simp [List.drop_eq_getElem_cons, hlt]
    have hc : ((i : Int) + 1) = ((i + 1 : Nat) : Int) := by push_cast; rfl
    rw [hd, List.all_cons] at hR
    have room1 : Room (kk + m) A.in1 := Room.in1 (hr.mono (by omega))
    obtain ⟨hp, g, d, tk, os⟩ := s
    cases neg with
    | false =>
      wp_walk using wpAny_loadPart' ho, wpAny_loadPart' ho2
      rw [hi1, hi2]
      refine wpAny_bind (he A.in1 H _ u v _ _ hE room1 hf sH I ru rv' fun H1 s1 e1 I1 => ?_)
      obtain ⟨_, jts, m1, rw1, _, po⟩ := I1.lstM ((sH.trans e1) _ _ hl0)
      obtain ⟨_, jts2, m2, rw2, _, po2⟩ := I1.lstM ((sH.trans e1) _ _ hb0)
      obtain ⟨u1, hu1, _⟩ := vals_at rw1 hx
      obtain ⟨v1, hv1, _⟩ := vals_at rw2 hy
      have hj1 : jts.toArray[((i : Nat) : Int).toNat]? = some u1 := by simp [hu1]
      have hj2 : jts2.toArray[((i : Nat) : Int).toNat]? = some v1 := by simp [hv1]
      have hR' := hR H1 s1 e1 I1
      have hR2 : ∀ H2 s2, Same H1 H2 → Inv X pins σ H2 s2 → _ := fun H2 s2 e2 I2 => hR H2 s2 (e1.trans e2) I2
      obtain ⟨hp1, g1, d1, tk1, os1⟩ := s1
      cases hb' : cs i with
      | true =>
        wp_walk
        rw [hc]
        refine ⟨plainId_quiet plain_eq_loop _, codeAny_builtin entry_eq_loop ?_⟩
        rw [Around.under_plainId plain_eq_loop _]
        refine ih (i + 1) _ H1 (by omega) (sH.trans e1) I1 (fun H2 s2 e2 I2 => ?_)
        have h := hR2 H2 s2 e2 I2
        rw [hb'] at h
        simpa using h
      | false =>
        rw [hb'] at hR'
        wp_walk using wpAny_loadPart' po, wpAny_loadPart' po2
        rw [hj1, hj2]
        wp_walk
        simpa using hR'
    | true =>
      wp_walk using wpAny_loadPart' ho, wpAny_loadPart' ho2
      rw [hi1, hi2]
      refine wpAny_bind (he A.in1 H _ u v _ _ hE room1 hf sH I ru rv' fun H1 s1 e1 I1 => ?_)
      obtain ⟨_, jts, m1, rw1, _, po⟩ := I1.lstM ((sH.trans e1) _ _ hl0)
      obtain ⟨_, jts2, m2, rw2, _, po2⟩ := I1.lstM ((sH.trans e1) _ _ hb0)
      obtain ⟨u1, hu1, _⟩ := vals_at rw1 hx
      obtain ⟨v1, hv1, _⟩ := vals_at rw2 hy
      have hj1 : jts.toArray[((i : Nat) : Int).toNat]? = some u1 := by simp [hu1]
      have hj2 : jts2.toArray[((i : Nat) : Int).toNat]? = some v1 := by simp [hv1]
      have hR' := hR H1 s1 e1 I1
      have hR2 : ∀ H2 s2, Same H1 H2 → Inv X pins σ H2 s2 → _ := fun H2 s2 e2 I2 => hR H2 s2 (e1.trans e2) I2
      obtain ⟨hp1, g1, d1, tk1, os1⟩ := s1
      cases hb' : cs i with
      | true =>
        wp_walk
        rw [hc]
        refine ⟨plainId_quiet plain_eq_loop _, codeAny_builtin entry_eq_loop ?_⟩
        rw [Around.under_plainId plain_eq_loop _]
        refine ih (i + 1) _ H1 (by omega) (sH.trans e1) I1 (fun H2 s2 e2 I2 => ?_)
        have h := hR2 H2 s2 e2 I2
        rw [hb'] at h
        simpa using h
      | false =>
        rw [hb'] at hR'
        wp_walk using wpAny_loadPart' po, wpAny_loadPart' po2
        rw [hj1, hj2]
        wp_walk
        simpa using hR'
theorem e2a_at {H : Hp} : ∀ {xs ys : List V} {c : Bool} {n : Nat}, Eq2A D H xs ys c n → ∃ cs : List Bool, cs.length = xs.length ∧ c = cs.all id ∧ ∀ (i : Nat) (x y : V), xs[i]? = some x → ys[i]? = some y → ∃ m, m ≤ n ∧ Eq2 D H x y (cs[i]?.getD false) m
  | [], _, _, _, h => by
    cases h
    exact ⟨[], rfl, rfl, fun i x y h => by simp at h⟩
  | x :: xs, _, _, _, h => by
    cases h with
    | @cons _ y c m _ ys d n h g =>
      obtain ⟨cs, e1, e2, e3⟩ := e2a_at g
      refine ⟨c :: cs, by simp [e1], by rw [e2]; rfl, fun i u v hu hv => ?_⟩
      cases i with
      | zero =>
        simp at hu hv
        subst hu
        subst hv
        exact ⟨m, Nat.le_max_left _ _, h⟩
      | succ i =>
        obtain ⟨m', q1, q2⟩ := e3 i u v (by simpa using hu) (by simpa using hv)
        exact ⟨m', Nat.le_trans q1 (Nat.le_max_right _ _), by simpa using q2⟩
theorem all_cs : ∀ cs : List Bool, (List.range cs.length).all (fun i => cs[i]?.getD false) = cs.all id := by
  intro cs
  rw [Bool.eq_iff_iff]
  simp only [List.all_eq_true, List.mem_range]
  constructor
  · intro h x hx
    obtain ⟨i, hi, e⟩ := List.getElem_of_mem hx
    have := h i hi
    simp [hi, e] at this
    exact this
  · intro h i hi
    simp [hi]
    exact h _ (List.getElem_mem hi)
open AutoSeq1 (wpAny_loadPart') in
open MeetsSeq MeetsSeq2 MeetsSeq3 SeqRoads2 in
theorem rc_lst {kk n : Nat} {H0 : Hp} {a b : Addr} {xs ys : List V} (ha : H0 a = some (.lst xs)) (hb : H0 b = some (.lst ys)) (hsz : xs.length = ys.length) (cs : Nat → Bool)
    (hT : ∀ (i : Nat) (x y : V), xs[i]? = some x → ys[i]? = some y → ∃ m, m ≤ n ∧ EqR X pins σ kk H0 m x y (cs i)) : RcR X pins σ kk H0 (n + 1) a b ((List.range xs.length).all cs) := by
  intro A H s Q E hE hr hf sH I hQ
  obtain ⟨_, its, n1, rv, _, ho⟩ := I.lstM (sH _ _ ha)
  obtain ⟨_, its2, n2, rv2, _, ho2⟩ := I.lstM (sH _ _ hb)
  have la := rv.length
  have lb := rv2.length
  refine wpAny_richCompare_same_room (op := .Eq) ⟨_, ho, rfl⟩ ⟨_, ho2, rfl⟩ PySem.F.slot_list_eq (wpAny_call (codeAny_call_builtin PySem.F.slot_list_eq.plain PySem.F.entry_list_eq (PySem.F.slot_list_eq.check _ _ _ _ _ _ _ _ ⟨_, ho, rfl⟩ (PySem.F.args_list_eq_2 _ _) ?_))) hr.units0
  have f3 := AutoSeq1.sub_list_list
  have hne : ¬ (its.toArray.size != its2.toArray.size) = true := by simp; omega
  obtain ⟨hp, g, d, tk, os⟩ := s
  wp_walk using wpAny_loadPart' ho, wpAny_loadPart' ho2
  rw [if_neg hne]
  wp_walk
  refine ⟨plainId_quiet plain_eq_loop _, codeAny_builtin entry_eq_loop ?_⟩
  rw [Around.under_plainId plain_eq_loop _]
  refine eqloop_R (n := n) (neg := false) (Rr := fun r s' => match r with | .ok (.ret v) => v ≠ .notImplemented ∧ Q v s' | .ok _ => False | .error e => E e s') ha hb hsz cs hT hr hf hE _ 0 _ H rfl sH I (fun H' s' e J => ?_)
  rw [List.drop_zero, Bool.bne_false]
  exact ⟨(fun x => nomatch x), hQ H' s' e J⟩
open AutoSeq1 (wpAny_loadPart') in
open MeetsSeq MeetsSeq2 MeetsSeq3 SeqRoads2 in
theorem rc_dif {kk n : Nat} {H0 : Hp} {a b : Addr} {xs ys : List V} (ha : H0 a = some (.lst xs)) (hb : H0 b = some (.lst ys)) (hsz : xs.length ≠ ys.length) : RcR X pins σ kk H0 (n + 1) a b false := by
  intro A H s Q E hE hr hf sH I hQ
  obtain ⟨_, its, n1, rv, _, ho⟩ := I.lstM (sH _ _ ha)
  obtain ⟨_, its2, n2, rv2, _, ho2⟩ := I.lstM (sH _ _ hb)
  have la := rv.length
  have lb := rv2.length
  exact SeqAt.RcAt.lists_lengths (items := its.toArray) (items2 := its2.toArray) ⟨_, ho, rfl, _, rfl⟩ ⟨_, ho2, rfl, _, rfl⟩ (by simp; omega) hr.units0 X.prog X.w E Q (hQ H s (fun _ _ e => e) I)
theorem eq_R (O : OwnEq X C D sp k f fd ps) {H0 : Hp} : ∀ (n : Nat) (x y : V) (c : Bool), Eq2 D H0 x y c n → EqR X pins σ k H0 n x y c := by
  intro n
  induction n using Nat.strongRecOn with
  | ind n ih =>
    intro x y c h
    cases h with
    | own h => exact eq_of_rc (fun e => by subst e; exact O.rf h) (rc_own O h)
    | dif h1 h2 hn => exact eq_of_rc (fun e => by subst e; rw [h1] at h2; cases h2; exact absurd rfl hn) (rc_dif (n := 0) h1 h2 hn)
    | lst h1 h2 g =>
      obtain ⟨cs, e1, e2, e3⟩ := e2a_at g
      refine eq_of_rc (fun e => by subst e; exact e2_rf O _ _ _ (.lst h1 h2 g)) ?_
      have := rc_lst (X := X) (pins := pins) (σ := σ) (kk := k) h1 h2 (e2a_len g) (fun i => cs[i]?.getD false) (fun i u v hu hv => by
        obtain ⟨m, q1, q2⟩ := e3 i u v hu hv
        exact ⟨m, q1, ih m (Nat.lt_succ_of_le q1) u v _ q2⟩)
      rw [← e1, all_cs, ← e2] at this
      exact this
/-- x == y of two lists -/
def rEqT (D : Hp → Addr → Addr → Bool → Prop) (N : Nat) : R2 := fun x y H Q => ∃ (a b : Addr) (c : Bool) (n : Nat), x = .ref a ∧ y = .ref b ∧ Eq2 D H (.ref a) (.ref b) c n ∧ n ≤ N ∧ ∀ H', Same H H' → Q (.bl c) H'
theorem op_eqT (O : OwnEq X C D sp k f fd ps) {N : Nat} (hr : Room (k + N) X.A) : OpR X (compareOp .Eq) (rEqT D N) := by
  intro pins s σ H x y v u Q I rx ry hq
  obtain ⟨a, b, c, n, rfl, rfl, h, hn, q⟩ := hq
  cases rx
  cases ry
  show wpAny (model X.prog X.w) X.A (richCompare .Eq (.ref a) (.ref b)) (EP X pins σ Q) X.xe s
  have fin : ∀ H' s', Same H H' → Inv X pins σ H' s' → EP X pins σ Q (.bool c) s' := fun H' s' e J => ⟨.bl c, H', J, rfl, q H' e⟩
  have hr' : Room (k + n) X.A := hr.mono (by omega)
  cases h with
  | own h => exact rc_own (n := 0) O h X.A H s _ _ (fun _ _ e => e) hr' rfl (fun _ _ e => e) I fin
  | dif h1 h2 hd => exact rc_dif (n := 0) h1 h2 hd X.A H s _ _ (fun _ _ e => e) hr' rfl (fun _ _ e => e) I fin
  | lst h1 h2 g =>
    obtain ⟨cs, e1, e2, e3⟩ := e2a_at g
    have := rc_lst (X := X) (pins := pins) (σ := σ) (kk := k) h1 h2 (e2a_len g) (fun i => cs[i]?.getD false) (fun i u v hu hv => by
      obtain ⟨m, q1, q2⟩ := e3 i u v hu hv
      exact ⟨m, q1, eq_R O m u v _ q2⟩)
    rw [← e1, all_cs, ← e2] at this
    exact this X.A H s _ _ (fun _ _ e => e) hr' rfl (fun _ _ e => e) I fin
end
end Tk

namespace Tk
open PySem PySem.Spec PyProof.Rows L2
section
variable {X : Cx} {pins : List (Addr × Obj)} {σ : L2.St} {C f : Addr} {D : Hp → Addr → Addr → Bool → Prop} {sp : Sp} {k : Nat} {fd : FuncData} {ps : List Str}
open AutoSeq1 (wpAny_loadPart') in
open MeetsSeq MeetsSeq2 MeetsSeq3 SeqRoads2 in
theorem ne_lst {kk n : Nat} {H0 : Hp} {a b : Addr} {xs ys : List V} (ha : H0 a = some (.lst xs)) (hb : H0 b = some (.lst ys)) (hsz : xs.length = ys.length) (cs : Nat → Bool)
    (hT : ∀ (i : Nat) (x y : V), xs[i]? = some x → ys[i]? = some y → ∃ m, m ≤ n ∧ EqR X pins σ kk H0 m x y (cs i)) {A : Around} {H : Hp} {s : Shared} {Q : Value → Shared → Prop} {E : Value → Shared → Prop} (hE : ∀ e s, X.xe e s → E e s) (hr : Room (kk + (n + 1)) A)
    (hf : A.frames = X.A.frames) (sH : Same H0 H) (I : Inv X pins σ H s) (hQ : ∀ H' s', Same H H' → Inv X pins σ H' s' → Q (.bool (!(List.range xs.length).all cs)) s') : wpAny (model X.prog X.w) A (richCompare .NotEq (.ref a) (.ref b)) Q E s := by
  obtain ⟨_, its, n1, rv, _, ho⟩ := I.lstM (sH _ _ ha)
  obtain ⟨_, its2, n2, rv2, _, ho2⟩ := I.lstM (sH _ _ hb)
  have la := rv.length
  have lb := rv2.length
  refine wpAny_richCompare_same_room (op := .NotEq) ⟨_, ho, rfl⟩ ⟨_, ho2, rfl⟩ PySem.F.slot_list_ne (wpAny_call (codeAny_call_builtin PySem.F.slot_list_ne.plain PySem.F.entry_list_ne (PySem.F.slot_list_ne.check _ _ _ _ _ _ _ _ ⟨_, ho, rfl⟩ (PySem.F.args_list_ne_2 _ _) ?_))) hr.units0
  have f3 := AutoSeq1.sub_list_list
  have hne : ¬ (its.toArray.size != its2.toArray.size) = true := by simp; omega
  obtain ⟨hp, g, d, tk, os⟩ := s
  wp_walk using wpAny_loadPart' ho, wpAny_loadPart' ho2
  rw [if_neg hne]
  wp_walk
  refine ⟨plainId_quiet plain_eq_loop _, codeAny_builtin entry_eq_loop ?_⟩
  rw [Around.under_plainId plain_eq_loop _]
  refine eqloop_R (n := n) (neg := true) (Rr := fun r s' => match r with | .ok (.ret v) => v ≠ .notImplemented ∧ Q v s' | .ok _ => False | .error e => E e s') ha hb hsz cs hT hr hf hE _ 0 _ H rfl sH I (fun H' s' e J => ?_)
  rw [List.drop_zero, Bool.bne_true]
  exact ⟨(fun x => nomatch x), hQ H' s' e J⟩
open AutoSeq1 (wpAny_loadPart') in
open MeetsSeq MeetsSeq2 MeetsSeq3 SeqRoads2 in
theorem ne_dif {kk : Nat} {H0 : Hp} {a b : Addr} {xs ys : List V} (ha : H0 a = some (.lst xs)) (hb : H0 b = some (.lst ys)) (hsz : xs.length ≠ ys.length) {A : Around} {H : Hp} {s : Shared} {Q : Value → Shared → Prop} {E : Value → Shared → Prop} (hr : Room kk A)
    (sH : Same H0 H) (I : Inv X pins σ H s) (hQ : ∀ H' s', Same H H' → Inv X pins σ H' s' → Q (.bool true) s') : wpAny (model X.prog X.w) A (richCompare .NotEq (.ref a) (.ref b)) Q E s := by
  obtain ⟨_, its, n1, rv, _, ho⟩ := I.lstM (sH _ _ ha)
  obtain ⟨_, its2, n2, rv2, _, ho2⟩ := I.lstM (sH _ _ hb)
  have la := rv.length
  have lb := rv2.length
  refine wpAny_richCompare_same_room (op := .NotEq) ⟨_, ho, rfl⟩ ⟨_, ho2, rfl⟩ PySem.F.slot_list_ne (wpAny_call (codeAny_call_builtin PySem.F.slot_list_ne.plain PySem.F.entry_list_ne (PySem.F.slot_list_ne.check _ _ _ _ _ _ _ _ ⟨_, ho, rfl⟩ (PySem.F.args_list_ne_2 _ _) ?_))) hr.units0
  have f3 := AutoSeq1.sub_list_list
  have hne : (its.toArray.size != its2.toArray.size) = true := by simp; omega
  have h := hQ H s (fun _ _ e => e) I
  obtain ⟨hp, g, d, tk, os⟩ := s
  wp_walk using wpAny_loadPart' ho, wpAny_loadPart' ho2
  rw [if_pos hne]
  wp_walk
  exact ⟨(fun x => nomatch x), h⟩
/-- x != y of two lists -/
def rNeT (D : Hp → Addr → Addr → Bool → Prop) (N : Nat) : R2 := fun x y H Q => ∃ (a b : Addr) (xs ys : List V) (c : Bool) (n : Nat), x = .ref a ∧ y = .ref b ∧ H a = some (.lst xs) ∧ H b = some (.lst ys) ∧ Eq2 D H (.ref a) (.ref b) c n ∧ n ≤ N ∧ ∀ H', Same H H' → Q (.bl (!c)) H'
theorem op_neT (O : OwnEq X C D sp k f fd ps) {N : Nat} (hr : Room (k + N) X.A) : OpR X (compareOp .NotEq) (rNeT D N) := by
  intro pins s σ H x y v u Q I rx ry hq
  obtain ⟨a, b, xs, ys, c, n, rfl, rfl, ha, hb, h, hn, q⟩ := hq
  cases rx
  cases ry
  show wpAny (model X.prog X.w) X.A (richCompare .NotEq (.ref a) (.ref b)) (EP X pins σ Q) X.xe s
  have fin : ∀ H' s', Same H H' → Inv X pins σ H' s' → EP X pins σ Q (.bool (!c)) s' := fun H' s' e J => ⟨.bl (!c), H', J, rfl, q H' e⟩
  have hr' : Room (k + n) X.A := hr.mono (by omega)
  cases h with
  | own h =>
    obtain ⟨⟨dx, fs, e⟩, _⟩ := O.ins h
    rw [ha] at e
    cases e
  | dif h1 h2 hd => exact ne_dif h1 h2 hd hr' (fun _ _ e => e) I fin
  | lst h1 h2 g =>
    obtain ⟨cs, e1, e2, e3⟩ := e2a_at g
    have e4 : (List.range cs.length).all (fun i => cs[i]?.getD false) = c := (all_cs cs).trans e2.symm
    refine ne_lst (kk := k) h1 h2 (e2a_len g) (fun i => cs[i]?.getD false) (fun i u v hu hv => ?_) (fun _ _ e => e) hr' rfl (fun _ _ e => e) I (fun H' s' e J => ?_)
    · obtain ⟨m, q1, q2⟩ := e3 i u v hu hv
      exact ⟨m, q1, eq_R O m u v _ q2⟩
    · rw [← e1, e4]
      exact fin H' s' e J
end
end Tk

namespace Tk
open PySem PySem.Spec PyProof.Rows L2
abbrev sAreNum : Stmt := top 17
abbrev sIsTab : Stmt := top 32
abbrev sChkTab : Stmt := top 33
abbrev sTold0 : Stmt := top 21
/-! ## rows and tables of numbers -/
/-- a Ratio shows as its text -/
def ShowQ (C : Addr) (H : Hp) (p : Addr) (t : Str) : Prop := ∃ q, RatAt C H p q ∧ Tiny q ∧ t = rpQ q
theorem showQ {C : Addr} : Shows C (ShowQ C) (spRShow C rpQ) where
  st := fun ⟨q, h, t, e⟩ s => ⟨q, rat_s h s, t, e⟩
  ins := fun ⟨q, ⟨dx, h⟩, _⟩ => ⟨dx, _, h⟩
  run := fun {H p t Q} ⟨q, h, t1, e⟩ r => ⟨p, q, rfl, h, t1, by rw [← e]; exact r H fun _ _ e => e⟩
/-- two Ratios are alike or not -/
def LikeQ (C : Addr) (H : Hp) (p r : Addr) (c : Bool) : Prop := ∃ x y, RatAt C H p x ∧ RatAt C H r y ∧ c = decide (x = y)
theorem rat_uq {C : Addr} {H : Hp} {p : Addr} {x y : Int × Int} (h : RatAt C H p x) (g : RatAt C H p y) : x = y := by
  obtain ⟨dx, h⟩ := h
  obtain ⟨dy, g⟩ := g
  rw [h] at g
  injection g with g
  injection g with _ _ g
  have e1 := rf_top x.1 x.2
  have e2 := rf_bot x.1 x.2
  rw [g, rf_top] at e1
  rw [g, rf_bot] at e2
  injection e1 with e1
  injection e1 with e1
  injection e2 with e2
  injection e2 with e2
  exact Prod.ext e1.symm e2.symm
theorem likeQ {X : Cx} {C f : Addr} {k : Nat} {fd : FuncData} {ps : List Str} (h1 : PySem.W.findIn X.K (.ref C) "__eq__" = some (some (.ref f))) (h2 : PySem.W.isFn X.K (.ref f) = true) (F : FnOk X.prog X.w X.K X.mg X.base CX0 k f fd ps (spREq C)) (b : Binds X.K fd ps []) :
    OwnEq X C (LikeQ C) (spREq C) k f fd ps where
  st := fun ⟨x, y, h, g, e⟩ s => ⟨x, y, rat_s h s, rat_s g s, e⟩
  ins := fun ⟨x, y, ⟨dx, h⟩, ⟨dy, g⟩, _⟩ => ⟨⟨dx, _, h⟩, dy, _, g⟩
  rf := fun ⟨x, y, h, g, e⟩ => by rw [e]; exact decide_eq_true (rat_uq h g)
  run := fun {H p q c Q} ⟨x, y, h, g, e⟩ r => ⟨p, q, x, y, rfl, h, g, by rw [← e]; exact r H fun _ _ e => e⟩
  at_ := h1
  fn := h2
  ok := F
  bs := b
theorem or_ok {P : Program} {w : World} {K : PySem.W.Frag} {mg : Str → Option Value} {base : Heap} {k : Nat} {f : Addr} {fd : FuncData} {ps : List Str} {sp1 sp2 : Sp} (F1 : FnOk P w K mg base CX0 k f fd ps sp1) (F2 : FnOk P w K mg base CX0 k f fd ps sp2) :
    FnOk P w K mg base CX0 k f fd ps (fun vs H Q E => sp1 vs H Q E ∨ sp2 vs H Q E) :=
  ⟨fun vs H Q E h => h.elim (F1.len vs H Q E) (F2.len vs H Q E), fun A outer s H args us vs Q E hr e0 b r h => h.elim (F1.run A outer s H args us vs Q E hr e0 b r) (F2.run A outer s H args us vs Q E hr e0 b r)⟩
/-- numbers in a list -/
def NumsP (C : Addr) (H : Hp) : List V → List (Int × Int) → Prop
  | [], [] => True
  | x :: xs, q :: qs => NumAt C H x q ∧ NumsP C H xs qs
  | _, _ => False
theorem nums_s {C : Addr} {H H' : Hp} (e : Same H H') : ∀ {xs : List V} {qs : List (Int × Int)}, NumsP C H xs qs → NumsP C H' xs qs
  | [], [], _ => trivial
  | _ :: _, _ :: _, ⟨h1, h⟩ => ⟨num_s h1 e, nums_s e h⟩
  | [], _ :: _, h => h.elim
  | _ :: _, [], h => h.elim
theorem nums_at {C : Addr} {H : Hp} : ∀ {xs : List V} {qs : List (Int × Int)}, NumsP C H xs qs → xs.length = qs.length ∧ ∀ (i : Nat) (x : V), xs[i]? = some x → ∃ q, qs[i]? = some q ∧ NumAt C H x q
  | [], [], _ => ⟨rfl, fun i x h => by simp at h⟩
  | x :: xs, q :: qs, ⟨h1, h⟩ => by
    obtain ⟨l, g⟩ := nums_at h
    refine ⟨by simp [l], fun i y hy => ?_⟩
    cases i with
    | zero =>
      simp at hy
      subst hy
      exact ⟨q, rfl, h1⟩
    | succ i => exact g i y (by simpa using hy)
  | [], _ :: _, h => h.elim
  | _ :: _, [], h => h.elim
/-- a row: a list or tuple of numbers -/
def RowAt (K : PySem.W.Frag) (C : Addr) (H : Hp) (v : V) (qs : List (Int × Int)) : Prop := ∃ a xs, v = .ref a ∧ SqA K H a xs ∧ NumsP C H xs qs
theorem row_s {K : PySem.W.Frag} {C : Addr} {H H' : Hp} {v : V} {qs : List (Int × Int)} (h : RowAt K C H v qs) (e : Same H H') : RowAt K C H' v qs := by
  obtain ⟨a, xs, h1, h2, h3⟩ := h
  exact ⟨a, xs, h1, h2.elim (fun h => .inl (same_l e h)) (fun h => .inr (same_t e h)), nums_s e h3⟩
def RowsP (K : PySem.W.Frag) (C : Addr) (H : Hp) : List V → List (List (Int × Int)) → Prop
  | [], [] => True
  | x :: xs, q :: qs => RowAt K C H x q ∧ RowsP K C H xs qs
  | _, _ => False
theorem rows_s {K : PySem.W.Frag} {C : Addr} {H H' : Hp} (e : Same H H') : ∀ {xs : List V} {qs : List (List (Int × Int))}, RowsP K C H xs qs → RowsP K C H' xs qs
  | [], [], _ => trivial
  | _ :: _, _ :: _, ⟨h1, h⟩ => ⟨row_s h1 e, rows_s e h⟩
  | [], _ :: _, h => h.elim
  | _ :: _, [], h => h.elim
theorem rows_at {K : PySem.W.Frag} {C : Addr} {H : Hp} : ∀ {xs : List V} {qs : List (List (Int × Int))}, RowsP K C H xs qs → xs.length = qs.length ∧ ∀ (i : Nat) (x : V), xs[i]? = some x → ∃ q, qs[i]? = some q ∧ RowAt K C H x q
  | [], [], _ => ⟨rfl, fun i x h => by simp at h⟩
  | x :: xs, q :: qs, ⟨h1, h⟩ => by
    obtain ⟨l, g⟩ := rows_at h
    refine ⟨by simp [l], fun i y hy => ?_⟩
    cases i with
    | zero =>
      simp at hy
      subst hy
      exact ⟨q, rfl, h1⟩
    | succ i => exact g i y (by simpa using hy)
  | [], _ :: _, h => h.elim
  | _ :: _, [], h => h.elim
/-- a table of n rows -/
def TabAt (K : PySem.W.Frag) (C : Addr) (H : Hp) (v : V) (n : Nat) (qss : List (List (Int × Int))) : Prop := n ≤ 6 ∧ qss.length = n ∧ (∀ qs ∈ qss, qs.length = n) ∧ ∃ a xs, v = .ref a ∧ SqA K H a xs ∧ RowsP K C H xs qss
theorem tab_s {K : PySem.W.Frag} {C : Addr} {H H' : Hp} {v : V} {n : Nat} {qss : List (List (Int × Int))} (h : TabAt K C H v n qss) (e : Same H H') : TabAt K C H' v n qss := by
  obtain ⟨h1, h2, h3, a, xs, h4, h5, h6⟩ := h
  exact ⟨h1, h2, h3, a, xs, h4, h5.elim (fun h => .inl (same_l e h)) (fun h => .inr (same_t e h)), rows_s e h6⟩
end Tk

namespace Tk
open PySem PySem.Spec PyProof.Rows L2
def spIsNumN (C : Addr) : Sp := fun vs H Q _ => ∃ (v : V) (q : Int × Int), vs = [v] ∧ NumAt C H v q ∧ Q (.bl true) H
def spAreNumT (K : PySem.W.Frag) (C : Addr) : Sp := fun vs H Q _ => ∃ (v : V) (qs : List (Int × Int)), vs = [v] ∧ RowAt K C H v qs ∧ qs.length ≤ 6 ∧ ∀ H', Same H H' → Q (.bl true) H'
def spIsTabT (K : PySem.W.Frag) (C : Addr) : Sp := fun vs H Q _ => ∃ (v : V) (n : Nat) (qss : List (List (Int × Int))), vs = [v] ∧ TabAt K C H v n qss ∧ ∀ H', Same H H' → Q (.bl true) H'
def spChkTab (K : PySem.W.Frag) (C : Addr) : Sp := fun vs H Q _ => ∃ (v : V) (n : Nat) (qss : List (List (Int × Int))), vs = [v] ∧ TabAt K C H v n qss ∧ ∀ H', Same H H' → Q .non H'
section
variable {P : Program} {w : World} {K : PySem.W.Frag} {mg : Str → Option Value} {base : Heap}
theorem imp_ok {k : Nat} {f : Addr} {fd : FuncData} {ps : List Str} {sp sp' : Sp} (F : FnOk P w K mg base CX0 k f fd ps sp) (h : ∀ vs H Q E, sp' vs H Q E → sp vs H Q E) : FnOk P w K mg base CX0 k f fd ps sp' :=
  ⟨fun vs H Q E z => F.len vs H Q E (h _ _ _ _ z), fun A outer s H args us vs Q E hr e0 b r z => F.run A outer s H args us vs Q E hr e0 b r (h _ _ _ _ z)⟩
theorem ok_isNumN {f f1 fI C : Addr} {fd fd1 dI : FuncData} (F : Fun K "is_number" "is_number" sIsNum f fd) (M : RtM K mg C fI dI) (D1 : Df K mg "is_integer" sIsInt ["value"] f1 fd1) (B : Bl mg) : FnOk P w K mg base CX0 2 f fd ["value"] (spIsNumN C) :=
  imp_ok (or_ok (ok_isNumR F M D1 B) (ok_isNumV F M D1 B)) fun vs H Q E ⟨v, q, e, h, r⟩ => by
    rcases h with ⟨p, rfl, h⟩ | ⟨i, rfl, rfl⟩
    · exact .inl ⟨p, q, e, h, r⟩
    · exact .inr ⟨.int i, some i, _, e, .int i, .base (.int i), M.kI, r⟩
abbrev nAreNum : List Str := ["value", "number"]
theorem sc_areNum : FnScope nAreNum ["value"] (defScope sAreNum) := ⟨rfl, rfl, rfl, by decide +kernel, rfl, by decide +kernel, by decide +kernel⟩
theorem ok_areNumT {f f1 f2 f5 fI C : Addr} {fd fd1 fd2 fd5 dI : FuncData} (F : Fun K "are_numbers" "are_numbers" sAreNum f fd) (M : RtM K mg C fI dI) (D1 : Df K mg "is_integer" sIsInt ["value"] f1 fd1) (D2 : Df K mg "is_number" sIsNum ["value"] f2 fd2) (D5 : Df K mg "is_list" sIsLst ["value"] f5 fd5) (B : Bl mg) :
    FnOk P w K mg base CX0 3 f fd ["value"] (spAreNumT K C) := by
  have G2 : FnOk P w K mg base CX0 2 f2 fd2 ["value"] (spIsNumN C) := ok_isNumN D2.F M D1 B
  have G5 : FnOk P w K mg base CX0 1 f5 fd5 ["value"] (spIsLst K) := ok_isLst D5.F B
  refine F.ok sc_areNum (fun vs H Q E h => ?_) (fun cdv A outer s H vs Q E hr h => ?_)
  · obtain ⟨v, qs, rfl, _⟩ := h
    rfl
  · obtain ⟨v, qs, rfl, ⟨a, xs, rfl, ha, hn⟩, few, q⟩ := h
    refine ⟨_, pss_one (ps_ret (pe_and (pe_call G5 (hr.mono (by decide)) rfl D5.g D5.F.kp D5.b .nil pass0 (pa_cons (pv 0) pa_nil)) (pe_one (pe_callB (cr_all rfl) (by rfl) B.all PyProof.Rows.boot_all (pa_cons
      (pe_lc (own := [("number", 1)]) (g := gName 1) (tt := tYes) (te := tCall (spIsNumN C) [] E0 (tCons (tVar 1) tNil)) rfl sc_areNum.nd (pi_sq (pv 0)) (blkOk_by (N := nAreNum) (sc := defScope sAreNum) (by decide +kernel))
        (fun _ _ _ _ _ => pg_name (i := 1) sc_areNum.nd rfl (Or.inl rfl)) (fun _ _ _ _ _ => pts_nil) (fun _ _ _ _ _ => pe_call G2 hr rfl D2.g D2.F.kp D2.b .nil pass0 (pa_cons (pv 1) pa_nil))) pa_nil))))), ?_⟩
    refine ⟨_, rfl, .ref a, some xs, rfl, .sq ha, fun H1 s1 => ⟨true, rfl, iteT ?_⟩⟩
    have h1 := same_a s1 ha
    have n1 := nums_s s1 hn
    refine ⟨_, rfl, a, xs, rfl, h1, fun it hit D hD => ?_⟩
    refine lc_sq hit (LcP H1 D fun k => List.replicate k (V.bl true)) (lcp_0 hD rfl) (fun k H2 _ p => p.1) ?_ ?_
    · intro k x H2 hx p
      obtain ⟨z, hz, hnum⟩ := (nums_at n1).2 k x hx
      have hk := lt_of_at hz
      refine ⟨rfl, _, rfl, x, z, rfl, num_s hnum p.1, ?_⟩
      exact lcp_put hD p (by rw [List.replicate_succ']) (by rw [List.length_replicate]; omega)
    · intro H2 p
      refine ⟨D, List.replicate xs.length true, rfl, sl_of (by rw [p.2, List.map_replicate]), ?_⟩
      rw [show (List.replicate xs.length true).all id = true by simp]
      exact q H2 (s1.trans p.1)
def lenR (K : PySem.W.Frag) : List V → Hp → VK → Prop := fun xs H Q => ∃ p ys, xs = [V.ref p] ∧ (SqL K H p ys ∨ SqT K H p ys) ∧ Q (.int ys.length) H
abbrev teTabRow (K : PySem.W.Frag) (C : Addr) : TE := tAndV (tCall (spAreNumT K C) [] E0 (tCons (tVar 1) tNil)) (tOp rEq (tCB (lenR K) (tCons (tVar 1) tNil)) (tCB (lenR K) (tCons (tVar 0) tNil)))
abbrev nIsTab : List Str := ["value", "row"]
theorem sc_isTab : FnScope nIsTab ["value"] (defScope sIsTab) := ⟨rfl, rfl, rfl, by decide +kernel, rfl, by decide +kernel, by decide +kernel⟩
theorem ok_isTabT {f f1 f2 f3 f5 f7 fI C : Addr} {fd fd1 fd2 fd3 fd5 fd7 dI : FuncData} (F : Fun K "is_table" "is_table" sIsTab f fd) (M : RtM K mg C fI dI) (D1 : Df K mg "is_integer" sIsInt ["value"] f1 fd1) (D2 : Df K mg "is_number" sIsNum ["value"] f2 fd2) (D3 : Df K mg "are_numbers" sAreNum ["value"] f3 fd3)
    (D5 : Df K mg "is_list" sIsLst ["value"] f5 fd5) (D7 : Df K mg "is_size" sIsSize ["value"] f7 fd7) (G7 : FnOk P w K mg base CX0 3 f7 fd7 ["value"] spIsSize) (B : Bl mg) : FnOk P w K mg base CX0 4 f fd ["value"] (spIsTabT K C) := by
  have G3 : FnOk P w K mg base CX0 3 f3 fd3 ["value"] (spAreNumT K C) := ok_areNumT D3.F M D1 D2 D5 B
  have G5 : FnOk P w K mg base CX0 1 f5 fd5 ["value"] (spIsLst K) := ok_isLst D5.F B
  refine F.ok sc_isTab (fun vs H Q E h => ?_) (fun cdv A outer s H vs Q E hr h => ?_)
  · obtain ⟨v, n, qss, rfl, _⟩ := h
    rfl
  · obtain ⟨v, n, qss, rfl, ⟨n6, ln, lr, a, xs, rfl, ha, hR⟩, q⟩ := h
    refine ⟨_, pss_cons (ps_if (PW.pt (pw_or (pt_not (pt_val (pe_call G5 (hr.mono (by decide)) rfl D5.g D5.F.kp D5.b .nil pass0 (pa_cons (pv 0) pa_nil))))
        (pw_or1 (pt_not (pt_val (pe_call G7 hr rfl D7.g D7.F.kp D7.b .nil pass0 (pa_cons (pe_callB call_len_seq (by rfl) B.len PySem.boot_len (pa_cons (pv 0) pa_nil)) pa_nil))))))) (pss_one (ps_ret pe_bl)) pss_nil)
      (pss_one (ps_ret (pe_callB (cr_all rfl) (by rfl) B.all PyProof.Rows.boot_all (pa_cons
        (pe_lc (own := [("row", 1)]) (g := gName 1) (tt := tYes) (te := teTabRow K C) rfl sc_isTab.nd (pi_sq (pv 0)) (blkOk_by (N := nIsTab) (sc := defScope sIsTab) (by decide +kernel))
          (fun _ _ _ _ _ => pg_name (i := 1) sc_isTab.nd rfl (Or.inl rfl)) (fun _ _ _ _ _ => pts_nil) (fun _ _ _ _ _ => pe_and (pe_call G3 hr rfl D3.g D3.F.kp D3.b .nil pass0 (pa_cons (pv 1) pa_nil)) (pe_one (pe_cmpR op_eq (pe_callB call_len_seq (by rfl) B.len PySem.boot_len (pa_cons (pv 1) pa_nil)) (pe_callB call_len_seq (by rfl) B.len PySem.boot_len (pa_cons (pv 0) pa_nil)) (nomark _))))) pa_nil)))), ?_⟩
    refine ⟨_, rfl, .ref a, some xs, rfl, .sq ha, fun H1 s1 => ⟨true, rfl, ?_⟩⟩
    have h1 := same_a s1 ha
    have R1 := rows_s s1 hR
    have lx : xs.length = n := by rw [(rows_at R1).1]; exact ln
    refine ⟨_, rfl, a, xs, rfl, h1, _, rfl, ?_⟩
    rw [show (decide ((0 : Int) ≤ (xs.length : Int)) && decide ((xs.length : Int) ≤ 6)) = true by rw [lx]; simp; omega]
    refine ⟨_, rfl, iteF ?_⟩
    refine ⟨_, rfl, a, xs, rfl, h1, fun it hit D hD => ?_⟩
    refine lc_sq hit (LcP H1 D fun k => List.replicate k (V.bl true)) (lcp_0 hD rfl) (fun k H2 _ p => p.1) ?_ ?_
    · intro k x H2 hx p
      obtain ⟨z, hz, hrow⟩ := (rows_at R1).2 k x hx
      have hk := lt_of_at hx
      have lz := lr z (List.mem_of_getElem? hz)
      refine ⟨rfl, _, rfl, x, z, rfl, row_s hrow p.1, by omega, fun H3 s3 => ⟨true, rfl, iteT ?_⟩⟩
      have p3 : LcP H1 D (fun k => List.replicate k (V.bl true)) k H3 := ⟨p.1.trans s3, s3 _ _ p.2⟩
      obtain ⟨b, ys, rfl, hb, hn⟩ := row_s hrow (p.1.trans s3)
      refine ⟨_, rfl, b, ys, rfl, hb, _, rfl, a, xs, rfl, same_a p3.1 h1, rfl, ?_⟩
      rw [show decide (V.int (ys.length : Int) = V.int (xs.length : Int)) = true from decide_eq_true (by rw [(nums_at hn).1, lz, lx])]
      exact lcp_put hD p3 (by rw [List.replicate_succ']) (by rw [List.length_replicate]; omega)
    · intro H2 p
      refine ⟨D, List.replicate xs.length true, rfl, sl_of (by rw [p.2, List.map_replicate]), ?_⟩
      rw [show (List.replicate xs.length true).all id = true by simp]
      exact q H2 (s1.trans p.1)
theorem sc_chkTab : FnScope ["table"] ["table"] (defScope sChkTab) := ⟨rfl, rfl, rfl, by decide +kernel, rfl, by decide +kernel, by decide +kernel⟩
theorem ok_chkTab {f f1 C : Addr} {fd fd1 : FuncData} (F : Fun K "check_table" "check_table" sChkTab f fd) (D1 : Df K mg "is_table" sIsTab ["value"] f1 fd1) (G1 : FnOk P w K mg base CX0 4 f1 fd1 ["value"] (spIsTabT K C)) : FnOk P w K mg base CX0 5 f fd ["table"] (spChkTab K C) := by
  refine F.ok sc_chkTab (fun vs H Q E h => ?_) (fun cdv A outer s H vs Q E hr h => ?_)
  · obtain ⟨v, n, qss, rfl, _⟩ := h
    rfl
  · obtain ⟨v, n, qss, rfl, ht, q⟩ := h
    refine ⟨_, pss_one (ps_if (pt_not (pt_val (pe_call G1 hr rfl D1.g D1.F.kp D1.b .nil pass0 (pa_cons (pv 0) pa_nil)))) pss_never pss_nil), ?_⟩
    exact ⟨_, rfl, v, n, qss, rfl, ht, fun H' s' => ⟨_, rfl, iteF (q H' s')⟩⟩
end
end Tk

namespace Tk
open PySem PySem.Spec PyProof.Rows L2
abbrev sLedQ : Stmt := top 20
/-! ## tables of Ratios in new lists -/
/-- rows that are lists of Ratios, none of them at L -/
def RtRows (L C : Addr) (H : Hp) : List V → List (List (Int × Int)) → Prop
  | [], [] => True
  | x :: xs, q :: qs => (∃ a ys, x = .ref a ∧ a ≠ L ∧ H a = some (.lst ys) ∧ RatsP C H ys q) ∧ RtRows L C H xs qs
  | _, _ => False
theorem rt_s {L C : Addr} {H H' : Hp} (e : Same H H') : ∀ {xs : List V} {qs : List (List (Int × Int))}, RtRows L C H xs qs → RtRows L C H' xs qs
  | [], [], _ => trivial
  | _ :: _, _ :: _, ⟨⟨a, ys, h1, h2, h3, h4⟩, h⟩ => ⟨⟨a, ys, h1, h2, e _ _ h3, rats_s e h4⟩, rt_s e h⟩
  | [], _ :: _, h => h.elim
  | _ :: _, [], h => h.elim
theorem rt_but {L C : Addr} {H : Hp} {zs : List V} {o : HO} (hl : H L = some (.lst zs)) : ∀ {xs : List V} {qs : List (List (Int × Int))}, RtRows L C H xs qs → RtRows L C (upd H L o) xs qs
  | [], [], _ => trivial
  | _ :: _, _ :: _, ⟨⟨a, ys, h1, h2, h3, h4⟩, h⟩ => ⟨⟨a, ys, h1, h2, by rw [upd_ne h2]; exact h3, rats_but hl smx_upd h4⟩, rt_but hl h⟩
  | [], _ :: _, h => h.elim
  | _ :: _, [], h => h.elim
theorem rt_app {L C : Addr} {H : Hp} : ∀ {xs ys : List V} {qs rs : List (List (Int × Int))}, RtRows L C H xs qs → RtRows L C H ys rs → RtRows L C H (xs ++ ys) (qs ++ rs)
  | [], _, [], _, _, h => h
  | _ :: _, _, _ :: _, _, ⟨h1, h2⟩, h => ⟨h1, rt_app h2 h⟩
  | [], _, _ :: _, _, h, _ => h.elim
  | _ :: _, _, [], _, h, _ => h.elim
theorem rt_len {L C : Addr} {H : Hp} : ∀ {xs : List V} {qs : List (List (Int × Int))}, RtRows L C H xs qs → xs.length = qs.length
  | [], [], _ => rfl
  | _ :: _, _ :: _, ⟨_, h⟩ => by rw [List.length_cons, List.length_cons, rt_len h]
  | [], _ :: _, h => h.elim
  | _ :: _, [], h => h.elim
/-- a table of Ratios: a list of lists -/
def RtTab (C : Addr) (H : Hp) (r : Addr) (qss : List (List (Int × Int))) : Prop := ∃ xs, H r = some (.lst xs) ∧ RtRows r C H xs qss
theorem rtt_s {C : Addr} {H H' : Hp} {r : Addr} {qss : List (List (Int × Int))} (h : RtTab C H r qss) (e : Same H H') : RtTab C H' r qss := let ⟨xs, h1, h2⟩ := h; ⟨xs, e _ _ h1, rt_s e h2⟩
theorem nums_of {C : Addr} {H : Hp} : ∀ {xs : List V} {qs : List (Int × Int)}, RatsP C H xs qs → NumsP C H xs qs
  | [], [], _ => trivial
  | _ :: _, _ :: _, ⟨⟨p, h1, h2⟩, h⟩ => ⟨.inl ⟨p, h1, h2⟩, nums_of h⟩
  | [], _ :: _, h => h.elim
  | _ :: _, [], h => h.elim
theorem rows_of {K : PySem.W.Frag} {L C : Addr} {H : Hp} : ∀ {xs : List V} {qs : List (List (Int × Int))}, RtRows L C H xs qs → RowsP K C H xs qs
  | [], [], _ => trivial
  | _ :: _, _ :: _, ⟨⟨a, ys, h1, _, h3, h4⟩, h⟩ => ⟨⟨a, ys, h1, .inl (sl_of h3), nums_of h4⟩, rows_of h⟩
  | [], _ :: _, h => h.elim
  | _ :: _, [], h => h.elim
theorem tab_of {K : PySem.W.Frag} {C : Addr} {H : Hp} {r : Addr} {n : Nat} {qss : List (List (Int × Int))} (h : RtTab C H r qss) (n6 : n ≤ 6) (ln : qss.length = n) (lr : ∀ qs ∈ qss, qs.length = n) : TabAt K C H (.ref r) n qss :=
  let ⟨xs, h1, h2⟩ := h
  ⟨n6, ln, lr, r, xs, rfl, .inl (sl_of h1), rows_of h2⟩
/-- lists that are new since H -/
def NewL (H : Hp) (xs : List V) : Prop := ∀ x ∈ xs, ∃ a, x = .ref a ∧ H a = none
theorem newl_nil {H : Hp} : NewL H [] := fun x h => nomatch h
theorem newl_put {H : Hp} {xs : List V} {a : Addr} (h : NewL H xs) (ha : H a = none) : NewL H (xs ++ [.ref a]) := fun x hx => by
  rcases List.mem_append.mp hx with z | z
  · exact h x z
  · exact ⟨a, List.mem_singleton.mp z, ha⟩
theorem newl_le {H H1 : Hp} {xs : List V} (h : NewL H1 xs) (e : Same H H1) : NewL H xs := fun x hx => let ⟨a, h1, h2⟩ := h x hx; ⟨a, h1, e.free h2⟩
def NewIn (H H' : Hp) (r : Addr) : Prop := ∃ xs, H' r = some (.lst xs) ∧ NewL H xs
/-- a new table of Ratios, its rows new as well -/
def NewTab (C : Addr) (H : Hp) (Q : VK) (qss : List (List (Int × Int))) : Prop := ∀ (H' : Hp) (r : Addr), Same H H' → H r = none → RtTab C H' r qss → NewIn H H' r → Q (.ref r) H'
def spToldQ (K : PySem.W.Frag) (C : Addr) : Sp := fun vs H Q _ => ∃ (v : V) (n : Nat) (qss : List (List (Int × Int))), vs = [v] ∧ TabAt K C H v n qss ∧ NewTab C H Q qss
section
variable {P : Program} {w : World} {K : PySem.W.Frag} {mg : Str → Option Value} {base : Heap}
abbrev nToldQ : List Str := ["rows", "row", "number"]
theorem sc_toldQ : FnScope nToldQ ["rows"] (defScope sTold0) := ⟨rfl, rfl, rfl, by decide +kernel, rfl, by decide +kernel, by decide +kernel⟩
abbrev scToldQ : Scope := { kind := .function, names := [(".0", .local), ("row", .local)], isGenerator := false, isCoroutine := false }
abbrev teAsR (C : Addr) (i : Nat) : TE := tCall (spAsR C) [] E0 (tCons (tVar i) tNil)
theorem ok_toldQ {f f1 f2 fI C : Addr} {fd fd1 fd2 dI : FuncData} (F : Fun K "told" "told" sTold0 f fd) (M : RtM K mg C fI dI) (D1 : Df K mg "is_integer" sIsInt ["value"] f1 fd1) (D2 : Df K mg "as_ratio" sAsRat ["number"] f2 fd2) (B : Bl mg) : FnOk P w K mg base CX0 5 f fd ["rows"] (spToldQ K C) := by
  have G2 : FnOk P w K mg base CX0 4 f2 fd2 ["number"] (spAsR C) := ok_asr D2.F M D1 B
  refine F.ok sc_toldQ (fun vs H Q E h => ?_) (fun cdv A outer s H vs Q E hr h => ?_)
  · obtain ⟨v, n, qss, rfl, _⟩ := h
    rfl
  · obtain ⟨v, n, qss, rfl, ⟨n6, ln, lr, a, xs, rfl, ha, hR⟩, q⟩ := h
    refine ⟨_, pss_one (ps_ret (pe_lc (own := [("row", 1)]) (g := gName 1) (tt := tYes) (te := tLc (iSq K (tVar 1)) (gName 2) tYes (teAsR C 2) [2]) rfl sc_toldQ.nd (pi_sq (pv 0)) (blkOk_by (N := nToldQ) (sc := defScope sTold0) (by decide +kernel))
      (fun _ _ _ _ _ => pg_name (i := 1) sc_toldQ.nd rfl (Or.inl rfl)) (fun _ _ _ _ _ => pts_nil)
      (fun _ _ _ _ _ => pe_lc (own := [("number", 2)]) (g := gName 2) (tt := tYes) (te := teAsR C 2) rfl sc_toldQ.nd (pi_sq (pv 1)) (blkOk_by (N := nToldQ) (sc := scToldQ) (by decide +kernel))
        (fun _ _ _ _ _ => pg_name (i := 2) sc_toldQ.nd rfl (Or.inl rfl)) (fun _ _ _ _ _ => pts_nil) (fun _ _ _ _ _ => pe_call G2 hr rfl D2.g D2.F.kp D2.b .nil pass0 (pa_cons (pv 2) pa_nil))))), ?_⟩
    refine ⟨_, rfl, a, xs, rfl, ha, fun it hit D hD => ?_⟩
    refine lc_sq hit (fun k G => Same H G ∧ ∃ acc, G D = some (.lst acc) ∧ RtRows D C G acc (qss.take k) ∧ NewL H acc) ⟨same_new hD, [], upd_same, by simp [RtRows], newl_nil⟩ (fun k G _ p => p.1) ?_ ?_
    · rintro k x G hx ⟨sG, acc, hacc, hP, hN⟩
      obtain ⟨z, hz, hrow⟩ := (rows_at hR).2 k x hx
      have lz := lr z (List.mem_of_getElem? hz)
      obtain ⟨b, ys, rfl, hb, hn⟩ := row_s hrow sG
      have fewk := rt_len hP
      have : (qss.take k).length ≤ 6 := by rw [List.length_take]; omega
      refine ⟨rfl, _, rfl, b, ys, rfl, hb, fun it2 hit2 D2 hD2 => ?_⟩
      have nDD : D2 ≠ D := fun e => by rw [e, hacc] at hD2; cases hD2
      refine lc_sq hit2 (fun j G2 => Same G G2 ∧ ∃ ac, G2 D2 = some (.lst ac) ∧ RatsP C G2 ac (z.take j)) ⟨same_new hD2, [], upd_same, by simp [RatsP]⟩ (fun j G2 _ p => p.1) ?_ ?_
      · rintro j y G2 hy ⟨s2, ac, hac, hQ⟩
        obtain ⟨w', hw, hnum⟩ := (nums_at hn).2 j y hy
        have fewj := (rats_at hQ).1
        have : (z.take j).length ≤ 6 := by rw [List.length_take]; omega
        refine ⟨rfl, _, rfl, y, w', rfl, num_s hnum s2, fun G3 p s3 hp => ?_⟩
        refine ⟨ac, s3 _ _ hac, szlt (by omega), same_mut (s2.trans s3) hD2, ac ++ [.ref p], upd_same, ?_⟩
        rw [take_at hw]
        exact rats_but (s3 _ _ hac) smx_upd (rats_app (rats_s s3 hQ) ⟨⟨p, rfl, hp⟩, trivial⟩)
      · rintro G2 ⟨s2, ac, hac, hQ⟩
        rw [show z.take ys.length = z by rw [(nums_at hn).1, List.take_length]] at hQ
        refine ⟨acc, s2 _ _ hacc, szlt (by omega), same_mut (sG.trans s2) hD, acc ++ [.ref D2], upd_same, ?_, newl_put hN (sG.free hD2)⟩
        rw [take_at hz]
        exact rt_but (s2 _ _ hacc) (rt_app (rt_s s2 hP) ⟨⟨D2, ac, rfl, nDD, hac, hQ⟩, trivial⟩)
    · rintro G ⟨sG, acc, hacc, hP, hN⟩
      rw [show qss.take xs.length = qss by rw [(rows_at hR).1, List.take_length]] at hP
      exact q G D sG hD ⟨acc, hacc, hP⟩ ⟨acc, hacc, hN⟩
end
end Tk

namespace ZmX
open PySem PySem.Spec PyProof.Rows L2
/-! ## zip of two, each a list or a tuple -/
/-- read as a tuple (t) or as a list -/
def SqB (t : Bool) (K : PySem.W.Frag) (H : Hp) (a : Addr) (xs : List V) : Prop := if t = true then SqT K H a xs else SqL K H a xs
def ItB (t : Bool) (h : Heap) (it l : Addr) (i : Nat) : Prop := if t = true then h.IsTupleIter it l i else h.IsListIter it l i
def SeB (t : Bool) (h : Heap) (l : Addr) (xs : Array Value) : Prop := if t = true then h.IsTuple l xs else h.IsList l xs
theorem drawB {prog : Program} {w : World} {A : Around} (hh : A.handled = none) (t : Bool) (it l : Addr) (hne : l ≠ it) (items : Array Value) :
    Draws prog w A it [it, l] items.size (fun i v => items[i]? = some v) (fun i h => ItB t h it l i ∧ SeB t h l items) := by
  cases t
  · exact Draws.list hh it l hne items
  · exact Draws.tuple hh it l hne items
theorem itB_obj {t : Bool} {h : Heap} {it l : Addr} {i : Nat} (s : ItB t h it l i) : ∃ o, h.get? it = some o ∧ ∀ v, o.data ≠ .cell v := by
  cases t <;> obtain ⟨o, e, _, d⟩ := s <;> exact ⟨o, e, fun v q => by rw [d] at q; cases q⟩
theorem itB_at {t : Bool} {h h' : Heap} {it l : Addr} {i : Nat} (s : ItB t h it l i) (k : ∀ o, h.get? it = some o → h'.get? it = some o) : ItB t h' it l i := by
  cases t
  · exact Heap.IsListIter.at s k
  · exact Heap.IsTupleIter.at s k
section
variable {X : Cx} {pins : List (Addr × Obj)} {σ : L2.St} {H : Hp} {s : Shared}
theorem seB_of {t : Bool} {a : Addr} {xs : List V} (I : Inv X pins σ H s) (h : SqB t X.K H a xs) : ∃ its : List Value, Vals xs its ∧ SeB t s.heap a its.toArray ∧ a < s.heap.objs.size := by
  cases t
  · obtain ⟨its, rv, p, _⟩ := I.list h
    exact ⟨its, rv, p.isList, p.lt⟩
  · obtain ⟨its, rv, p, _⟩ := I.tuple h
    obtain ⟨o, ho, _⟩ := id p
    exact ⟨its, rv, p, Heap.lt_size ho⟩
theorem sqB_inj {t : Bool} {a : Addr} {xs ys : List V} (I : Inv X pins σ H s) (h : SqB t X.K H a xs) (g : SqB t X.K H a ys) : xs = ys := by
  cases t
  · exact I.list_inj h g
  · exact I.tuple_inj h g
end
/-- the two as they stand at each turn, the items in new pairs -/
def ItzB (t u : Bool) (K : PySem.W.Frag) (a b : Addr) : It :=
  ⟨fun i H => ∃ (xs ys : List V) (x y : V), SqB t K H a xs ∧ SqB u K H b ys ∧ xs[i]? = some x ∧ ys[i]? = some y,
    fun i H v H' => ∃ T x y, v = .ref T ∧ H T = none ∧ H' = upd H T (.tup [x, y]) ∧ (∀ xs, SqB t K H a xs → xs[i]? = some x) ∧ ∀ ys, SqB u K H b ys → ys[i]? = some y,
    fun i H => ∃ xs ys : List V, SqB t K H a xs ∧ SqB u K H b ys ∧ i ≤ xs.length ∧ i ≤ ys.length ∧ (xs.length = i ∨ ys.length = i)⟩
theorem sepB {z TI TO i1 i2 a b : Addr} (D : ZipApart z TI TO i1 i2 a b) : ZipSep2 z TI TO i1 i2 [i1, a] [i2, b] where
  TIz := D.TIz
  TOz := D.TOz
  TITO := D.TITO
  TIi1 := D.TIi1
  mem1 := by simp
  zf1 := by simp; exact ⟨D.i1z.symm, D.l1z.symm⟩
  Tf1 := by simp; exact ⟨D.TOi1, D.l1TO.symm⟩
  TIi2 := D.TIi2
  mem2 := by simp
  zf2 := by simp; exact ⟨D.i2z.symm, D.l2z.symm⟩
  Tf2 := by simp; exact ⟨D.TOi2, D.l2TO.symm⟩
  sep1_2 := by simp; exact ⟨D.i12, D.l2i1.symm⟩
  sep2_1 := by simp; exact ⟨D.i12.symm, D.l1i2.symm⟩
theorem turn_zipB {P : Program} {w : World} {K : PySem.W.Frag} {elts : List Expr} {kk : Nat} {tpos : Pos} {t u : Bool} {a b z TI TO i1 i2 : Addr} (D : ZipApart z TI TO i1 i2 a b) :
    Turn P w K (.Tuple elts kk tpos) (ItzB t u K a b) [z, TI, TO, i1, i2] z (fun i h => IsZip h z TI TO .none ∧ IsPair h TI (.ref i1) (.ref i2) ∧ (∃ x y, IsPair h TO x y) ∧ ItB t h i1 a i ∧ ItB u h i2 b i) where
  mem := by simp
  obj := fun i h st c hc => by
    obtain ⟨hz, hTI, ⟨x, y, hTO⟩, h1, h2⟩ := st
    simp at hc
    rcases hc with rfl | rfl | rfl | rfl | rfl
    · exact ⟨_, hz, fun v q => nomatch q⟩
    · exact ⟨_, hTI, fun v q => nomatch q⟩
    · exact ⟨_, hTO, fun v q => nomatch q⟩
    · exact itB_obj h1
    · exact itB_obj h2
  keep := fun i h h' st k => by
    obtain ⟨hz, hTI, ⟨x, y, hTO⟩, h1, h2⟩ := st
    exact ⟨k z (by simp) _ hz, k TI (by simp) _ hTI, ⟨x, y, k TO (by simp) _ hTO⟩, itB_at h1 (k i1 (by simp)), itB_at h2 (k i2 (by simp))⟩
  item := by
    intro X hP hw hK hc i pins s σ H E I hf st hg
    subst hP hw hK
    obtain ⟨hz, hTI, ⟨x0, y0, hTO⟩, h1, h2⟩ := st
    obtain ⟨xs, ys, x, y, hqx, hqy, hx, hy⟩ := hg
    obtain ⟨its, rv, p, _⟩ := seB_of I hqx
    obtain ⟨its2, rv2, p2, _⟩ := seB_of I hqy
    obtain ⟨v1, hv1, r1⟩ := rv.get hx
    obtain ⟨v2, hv2, r2⟩ := rv2.get hy
    have n1 : i < its.length := by
      have := List.getElem?_eq_some_iff.mp hv1
      exact this.1
    have n2 : i < its2.length := by
      have := List.getElem?_eq_some_iff.mp hv2
      exact this.1
    have hzl : z < s.heap.objs.size := Heap.lt_size hz
    refine wpAny_pyNext_zipD2_item (sepB D) (drawB (show X.A.in1.handled = none from I.ok.hd hc) t i1 a D.l1i1 its.toArray) (drawB (show X.A.in1.handled = none from I.ok.hd hc) u i2 b D.l2i2 its2.toArray) hz hTI hTO ⟨h1, p⟩ ⟨h2, p2⟩ (by simp; omega) (by simp; omega)
      fun u1 u2 h' tk q1 q2 z' TO' s1 s2 hT hsz hk => ?_
    have e1 : u1 = v1 := by
      have : its[i]? = some u1 := by simpa using q1
      rw [hv1] at this
      exact (Option.some.inj this).symm
    have e2 : u2 = v2 := by
      have : its2[i]? = some u2 := by simpa using q2
      rw [hv2] at this
      exact (Option.some.inj this).symm
    subst e1 e2
    refine ⟨_, rfl, wpAny_letOwnedTupleGo_zip (s := { s with heap := h', toks := tk }) z' fun h'' z'' sb => ?_⟩
    have nz : s.heap.objs.size ≠ z := Nat.ne_of_gt hzl
    have new : ObjOk X.prog X.w (upd H s.heap.objs.size (.tup [x, y])) h'' s.heap.objs.size (.tup [x, y]) :=
      ⟨by show 2 ≤ sizeLine; decide, [u1, u2], .cons r1 (.cons r2 .nil), ⟨_, (sb.2 _ nz).trans hT, rfl, _, rfl⟩⟩
    have I1 : Inv X pins σ (upd H s.heap.objs.size (.tup [x, y])) { s with heap := h'', toks := tk } :=
      I.turnedNew (t' := tk) (ch := [z, TI, TO, i1, i2]) (fun c o hb q => by
        simp at hb
        exact (sb.2 c hb.1).trans (hk c o hb.1 hb.2.2.1 hb.2.2.2.1 hb.2.2.2.2 q)) hf (Nat.le_refl _) new
    refine ⟨.ref s.heap.objs.size, _, I1, rfl, ⟨_, x, y, rfl, I.hok.fresh (Nat.le_refl _), rfl, fun l hl => by rw [sqB_inj I hl hqx]; exact hx, fun l hl => by rw [sqB_inj I hl hqy]; exact hy⟩, ⟨z'', ?_, ⟨u1, u2, ?_⟩, ?_, ?_⟩, fun c hcm => ?_⟩
    · exact (sb.2 _ D.TIz).trans (hk _ _ D.TIz D.TITO D.TIi1 D.TIi2 hTI)
    · exact (sb.2 _ D.TOz).trans TO'
    · exact itB_at s1.1 fun o q => (sb.2 _ D.i1z).trans q
    · exact itB_at s2.1 fun o q => (sb.2 _ D.i2z).trans q
    · obtain ⟨o, ho⟩ : ∃ o, s.heap.get? c = some o := by
        simp at hcm
        rcases hcm with rfl | rfl | rfl | rfl | rfl
        · exact ⟨_, hz⟩
        · exact ⟨_, hTI⟩
        · exact ⟨_, hTO⟩
        · exact let ⟨o, e, _⟩ := itB_obj h1; ⟨o, e⟩
        · exact let ⟨o, e, _⟩ := itB_obj h2; ⟨o, e⟩
      rw [upd_ne (Nat.ne_of_lt (Heap.lt_size ho))]
      exact (hf c hcm).1
  done := by
    intro X hP hw hK hc i pins s σ H E I hf st hg
    subst hP hw hK
    obtain ⟨hz, hTI, ⟨x0, y0, hTO⟩, h1, h2⟩ := st
    obtain ⟨xs, ys, hqx, hqy, l1, l2, hend⟩ := hg
    obtain ⟨its, rv, p, _⟩ := seB_of I hqx
    obtain ⟨its2, rv2, p2, _⟩ := seB_of I hqy
    have e1 := rv.length
    have e2 := rv2.length
    refine wpAny_pyNext_zipD2_end (sepB D) (drawB (show X.A.in1.handled = none from I.ok.hd hc) t i1 a D.l1i1 its.toArray) (drawB (show X.A.in1.handled = none from I.ok.hd hc) u i2 b D.l2i2 its2.toArray) hz hTI hTO ⟨h1, p⟩ ⟨h2, p2⟩ (by simp; omega) (by simp; omega) (by simp; omega) fun h' tk hk => ⟨rfl, I.turnedL (t' := tk) (ch := [z, TI, TO, i1, i2]) (fun c o hb q => ?_) hf⟩
    simp at hb
    exact hk c o hb.1 hb.2.2.1 hb.2.2.2.1 hb.2.2.2.2 q
  self := fun A i s Q E st h => wpAny_pyIter_zip st.1 h
abbrev itO (t : Bool) (l : Addr) : Obj := { cls := .type (if t = true then "tuple_iterator" else "list_iterator"), data := .fields #[.ref l, .int 0 0] }
abbrev zB1 (h : Heap) (t : Bool) (l1 : Addr) : Heap := h.push (itO t l1)
abbrev zB2 (h : Heap) (t u : Bool) (l1 l2 : Addr) : Heap := (zB1 h t l1).push (itO u l2)
abbrev zB3 (h : Heap) (t u : Bool) (l1 l2 : Addr) : Heap := (zB2 h t u l1 l2).push { cls := .type "tuple", data := .seq #[.ref h.objs.size, .ref (zB1 h t l1).objs.size] }
abbrev zB4 (h : Heap) (t u : Bool) (l1 l2 : Addr) : Heap := (zB3 h t u l1 l2).push { cls := .type "tuple", data := .seq #[.none, .none] }
abbrev zB5 (h : Heap) (t u : Bool) (l1 l2 : Addr) : Heap := (zB4 h t u l1 l2).push { cls := .type "zip", data := .fields #[.none, .bool false, .bool false, .ref (zB2 h t u l1 l2).objs.size, .ref (zB3 h t u l1 l2).objs.size] }
theorem seB_push {t : Bool} {h : Heap} {l : Addr} {xs : Array Value} (s : SeB t h l xs) (o : Obj) : SeB t (h.push o) l xs := by
  cases t
  · exact Heap.IsList.push s o
  · exact Heap.IsTuple.push s o
theorem meets_zipB (t u : Bool) (l1 l2 : Addr) (xs ys : Array Value) :
    Meets (Builtin.«zip.__new__» ⟨[.type "zip", .ref l1, .ref l2], []⟩) (fun _ R s => SeB t s.heap l1 xs ∧ SeB u s.heap l2 ys ∧ R (.ok (.ret (.ref (zB4 s.heap t u l1 l2).objs.size))) { s with heap := zB5 s.heap t u l1 l2 }) :=
  .of_wp fun prog w A R s h => by
    obtain ⟨hp, g, d, tk, os⟩ := s
    obtain ⟨hl1, hl2, h⟩ := h
    have hsub := sub_zip
    cases t <;> cases u
    · have hL1 : Heap.IsList (Shared.heap ⟨hp, g, d, tk, os⟩) l1 xs := hl1
      have hL2 : Heap.IsList (Shared.heap ⟨hp.push { cls := .type "list_iterator", data := .fields #[.ref l1, .int 0 0] }, g, d, tk, os⟩) l2 ys := Heap.IsList.push hl2 _
      wp_walk using wpAny_pyIter_list hL1, wpAny_pyIter_list hL2
      exact ⟨_, rfl, h⟩
    · have hL1 : Heap.IsList (Shared.heap ⟨hp, g, d, tk, os⟩) l1 xs := hl1
      have hL2 : Heap.IsTuple (Shared.heap ⟨hp.push { cls := .type "list_iterator", data := .fields #[.ref l1, .int 0 0] }, g, d, tk, os⟩) l2 ys := Heap.IsTuple.push hl2 _
      wp_walk using wpAny_pyIter_list hL1, wpAny_pyIter_tuple hL2
      exact ⟨_, rfl, h⟩
    · have hL1 : Heap.IsTuple (Shared.heap ⟨hp, g, d, tk, os⟩) l1 xs := hl1
      have hL2 : Heap.IsList (Shared.heap ⟨hp.push { cls := .type "tuple_iterator", data := .fields #[.ref l1, .int 0 0] }, g, d, tk, os⟩) l2 ys := Heap.IsList.push hl2 _
      wp_walk using wpAny_pyIter_tuple hL1, wpAny_pyIter_list hL2
      exact ⟨_, rfl, h⟩
    · have hL1 : Heap.IsTuple (Shared.heap ⟨hp, g, d, tk, os⟩) l1 xs := hl1
      have hL2 : Heap.IsTuple (Shared.heap ⟨hp.push { cls := .type "tuple_iterator", data := .fields #[.ref l1, .int 0 0] }, g, d, tk, os⟩) l2 ys := Heap.IsTuple.push hl2 _
      wp_walk using wpAny_pyIter_tuple hL1, wpAny_pyIter_tuple hL2
      exact ⟨_, rfl, h⟩
end ZmX

namespace Tk
open PySem PySem.Spec PyProof.Rows L2
/-! ## repr of any of some values: data, texts, two dicts -/
inductive ShownV (K : PySem.W.Frag) (H : Hp) : V → Str → Prop
  | dp {v : V} {d : PyData} (h : Dp K H v d) (ok : ReprOk v d) : ShownV K H v d.shown
  | str (x : Str) (ok : (reprText x).length ≤ sizeLine) : ShownV K H (.str x) (reprText x)
  | d0 {a : Addr} (h : H a = some (.dK [])) : ShownV K H (.ref a) (PyData.dict []).shown
  | d1 {a : Addr} (h : H a = some (.dK [(.inl 0, .int 1)])) : ShownV K H (.ref a) (PyData.dict [(.int 0, .int 1)]).shown
theorem shown_s {K : PySem.W.Frag} {H H' : Hp} {v : V} {t : Str} (h : ShownV K H v t) (e : Same H H') : ShownV K H' v t := by
  cases h with
  | dp h ok => exact .dp (dp_s h e) ok
  | str x ok => exact .str x ok
  | d0 h => exact .d0 (e _ _ h)
  | d1 h => exact .d1 (e _ _ h)
section
variable {X : Cx}
def rRepX (K : PySem.W.Frag) : List V → Hp → VK → Prop := fun xs H Q => ∃ (v : V) (t : Str), xs = [v] ∧ ShownV K H v t ∧ Q (.str t) H
theorem rep_dict {pins : List (Addr × Obj)} {σ : L2.St} {H : Hp} {s : Shared} {a : Addr} {d : PyData} {as : List Addr} {Q : VK} (hgd : X.A.guards = some []) (hu : X.A.units + 64 < cLine) (I : Inv X pins σ H s) (rd : Reads s.heap (.ref a) d as) (sh : d.showable = true) (ns : ¬ sysModules ∈ as)
    (dp : d.depth ≤ 50) (len : d.shown.length ≤ sizeLine) (q : Q (.str d.shown) H) : wpAny (model X.prog X.w) X.A (call (.builtin "repr") [.ref a]) (EP X pins σ Q) X.xe s :=
  repr_of_reads' rd sh (fun _ => ns) hgd (by omega) (fun _ _ h => h) (fun h' u tk keep => ⟨.str d.shown, H, I.kept keep, ⟨u, rfl⟩, q⟩) len
theorem call_reprX (hgd : X.A.guards = some []) (hu : X.A.units + 64 < cLine) : CallR X (.builtin "repr") (rRepX X.K) := by
  intro pins s σ H xs us Q I r h
  obtain ⟨v, t, rfl, hs, q⟩ := h
  cases hs with
  | dp h ok => exact call_reprV hgd hu pins s σ H _ us Q I r ⟨_, _, rfl, h, ok, q⟩
  | str x ok =>
    cases r with
    | cons r1 r2 =>
      cases r2
      obtain ⟨t, rfl⟩ := r1
      exact PySem.P.repr_of_str ⟨.str (reprText x), H, I.tok _, ⟨_, rfl⟩, q⟩ ok
  | @d0 a h =>
    rw [Vals.ref1 r]
    obtain ⟨_, ns, vs, kv, o, es, ep, hg, ex, hd, _, pr, _⟩ := dk_of I.hok h
    have n1 : a ≠ sysModules := fun e => by rw [e] at ns; exact absurd ns (by decide)
    cases kv
    have e0 : es.toList = [] := by cases hl : es.toList with
      | nil => rfl
      | cons x xs => rw [hl] at pr; cases pr
    refine rep_dict hgd hu I (as := [a]) (.dict hg ex.1 hd (as := []) (bs := []) (by rw [e0]; exact .nil) (by rw [e0]; exact .nil)) (by decide +kernel) ?_ (by decide +kernel) (by decide +kernel) q
    intro hm
    exact n1 (List.mem_singleton.mp hm).symm
  | @d1 a h =>
    rw [Vals.ref1 r]
    obtain ⟨_, ns, vs, kv, o, es, ep, hg, ex, hd, _, pr, _⟩ := dk_of I.hok h
    have n1 : a ≠ sysModules := fun e => by rw [e] at ns; exact absurd ns (by decide)
    cases kv with
    | @cons _ q2 _ rest h1 hr =>
      cases hr
      obtain ⟨k0, v0⟩ := q2
      obtain ⟨e1, t1, e2⟩ := h1
      simp only at e1 e2
      subst e1
      subst e2
      obtain ⟨e, he, hk, hv⟩ : ∃ e, es.toList = [e] ∧ (mixKind X.prog X.w).is (.inl 0) e.key = true ∧ e.val = .int 1 t1 := by
        cases hl : es.toList with
        | nil => rw [hl] at pr; cases pr
        | cons x xs =>
          rw [hl] at pr
          cases pr with
          | cons h1 h2 h3 =>
            cases h3
            exact ⟨x, rfl, h1, h2⟩
      obtain ⟨tk, ek⟩ : ∃ tk, e.key = .int 0 tk := by
        revert hk
        show keyIs (.inl 0) e.key = true → _
        cases e.key with
        | int i t =>
          intro hk
          have : i = 0 := by simpa [keyIs, Value.isInt] using hk
          exact ⟨t, by rw [this]⟩
        | _ => intro hk; simp [keyIs, Value.isInt] at hk
      refine rep_dict hgd hu I (as := [a]) (.dict hg ex.1 hd (as := []) (bs := []) ?_ ?_) (by decide +kernel) ?_ (by decide +kernel) (by decide +kernel) q
      · rw [he]
        show ReadsAll _ [e.key] [PyData.int 0] []
        rw [ek]
        exact .cons (.int 0 tk) .nil
      · rw [he]
        show ReadsAll _ [e.val] [PyData.int 1] []
        rw [hv]
        exact .cons (.int 1 t1) .nil
      · intro hm
        exact n1 (List.mem_singleton.mp hm).symm
end
end Tk

/-! enumerate of a list or a tuple -/
namespace Tk
open PySem PySem.Spec PyProof.Rows L2
theorem meets_enum1 {v : Value} {o : Obj} {H : Heap → Prop} (B : Begins v o H) :
    Meets (Builtin.«enumerate.__new__» ⟨[.type "enumerate", v], []⟩) (fun _ R s => H s.heap ∧
      R (.ok (.ret (.ref (s.heap.push o).objs.size))) { s with heap := (s.heap.push o).push { cls := .type "enumerate", data := .fields #[.none, .bool false, .ref s.heap.objs.size, rawInt 0, .none, .none] } }) :=
  .of_wp fun prog w A R s h => by
    obtain ⟨hp, g, d, tk, os⟩ := s; obtain ⟨h1, h⟩ := h
    have hsub := sub_enumerate
    have q1 : ∀ {A' : Around} {E : Value → Shared → Prop} {Q : Value → Shared → Prop}, Q (.ref hp.objs.size) ⟨hp.push o, g, d, tk, os⟩ → wpAny (model prog w) A' (pyIter v) Q E ⟨hp, g, d, tk, os⟩ :=
      fun q => B.iter prog w _ _ ⟨hp, g, d, tk, os⟩ _ h1 q
    wp_walk using q1
    refine wpAny_stack_any fun st => wpAny_pure ?_
    split
    · rename_i c _ _ _ _ _
      cases (c == Value.type "enumerate")
      · wp_walk using q1
        exact ⟨_, rfl, h⟩
      · wp_walk using q1
        exact ⟨_, rfl, h⟩
    · wp_walk using q1
      exact ⟨_, rfl, h⟩
theorem enum_begins1 {prog : Program} {w : World} {A : Around} {E : Value → Shared → Prop} {s : Shared} {v : Value} {o : Obj} {H : Heap → Prop} {Q : Value → Shared → Prop} (B : Begins v o H) (h1 : H s.heap)
    (h : ∀ h', IsEnum h' (s.heap.objs.size + 1) s.heap.objs.size 0 .none → h'.get? s.heap.objs.size = some o → h'.objs.size = s.heap.objs.size + 2 →
      (∀ b o, s.heap.get? b = some o → h'.get? b = some o) → Q (.ref (s.heap.objs.size + 1)) { s with heap := h' }) :
    wpAny (model prog w) A (call (.type "enumerate") [v]) Q E s := by
  refine callType_new F.called_enumerate (by decide) (F.typeCall_enumerate_1 _) (F.newCall_enumerate_1 _) (fun obj => F.args_object_init_2 obj _) F.entry_enumerate_new
    (meets_enum1 B) ⟨h1, ?_⟩
  have hz : (s.heap.push o).objs.size = s.heap.objs.size + 1 := Heap.size_push ..
  show _ ∧ _
  rw [hz]
  have he : IsEnum ((s.heap.push o).push { cls := .type "enumerate", data := .fields #[.none, .bool false, .ref s.heap.objs.size, rawInt 0, .none, .none] }) (s.heap.objs.size + 1) s.heap.objs.size 0 .none := by
    have := Heap.get?_push_size (s.heap.push o) (o := { cls := .type "enumerate", data := .fields #[.none, .bool false, .ref s.heap.objs.size, rawInt 0, .none, .none] }) rfl
    rw [hz] at this; exact this
  refine ⟨⟨_, he, rfl⟩, h _ he (Heap.get?_push_of_some _ (Heap.get?_push_size _ B.free)) (by rw [Heap.size_push, hz]) fun b o x => Heap.get?_push_of_some _ (Heap.get?_push_of_some _ x)⟩
/-- the tuple at a, each item in a new pair -/
def IteT (K : PySem.W.Frag) (a : Addr) : It :=
  ⟨fun i H => ∃ (xs : List V) (x : V), SqT K H a xs ∧ xs[i]? = some x, fun i H v H' => ∃ T x, v = .ref T ∧ H T = none ∧ H' = upd H T (.tup [.int (i : Nat), x]) ∧ ∀ xs, SqT K H a xs → xs[i]? = some x, fun i H => ∃ xs : List V, SqT K H a xs ∧ xs.length = i⟩
theorem turn_enumT {P : Program} {w : World} {K : PySem.W.Frag} {elts : List Expr} {kk : Nat} {tpos : Pos} (a e it : Addr) :
    Turn P w K (.Tuple elts kk tpos) (IteT K a) [e, it] e (fun i h => (∃ old, IsEnum h e it ((i : Nat) : Int) old) ∧ h.IsTupleIter it a i ∧ e ≠ it) where
  mem := by simp
  obj := fun i h st b hb => by
    obtain ⟨⟨old, he⟩, ⟨o, ho, hc, hd⟩, _⟩ := st
    have e' : b = e ∨ b = it := by simpa using hb
    rcases e' with z | z
    · rw [z]; exact ⟨_, he, fun v q => nomatch q⟩
    · rw [z]; exact ⟨o, ho, fun v q => by rw [hd] at q; cases q⟩
  keep := fun i h h' st k => let ⟨⟨old, he⟩, hi, hne⟩ := st; ⟨⟨old, k e (by simp) _ he⟩, hi.at fun o q => k it (by simp) o q, hne⟩
  item := by
    intro X hP hw hK hc i pins s σ H E I hf st hg
    subst hP hw hK
    obtain ⟨⟨old, he⟩, hit, hne⟩ := st
    obtain ⟨xs, x, hq, hx⟩ := hg
    obtain ⟨its, rv, p, hz⟩ := I.tuple hq
    obtain ⟨u, hu, ru⟩ := rv.get hx
    have hel : e < s.heap.objs.size := Heap.lt_size he
    have hil : it < s.heap.objs.size := by obtain ⟨_, q, _⟩ := hit; exact Heap.lt_size q
    have nai : a ≠ it := fun z => by
      obtain ⟨o1, g1, c1, _⟩ := p
      obtain ⟨o2, g2, c2, _⟩ := hit
      rw [z, g2] at g1
      cases g1
      rw [c1] at c2
      injection c2 with c2
      exact absurd c2 (by decide)
    have nea : e ≠ a := fun z => by
      obtain ⟨o1, g1, c1, _⟩ := p
      have he' : s.heap.get? e = _ := he
      rw [← z, he'] at g1
      cases g1
      injection c1 with c2
      exact absurd c2 (by decide)
    have isT : s.heap.IsTuple a its.toArray := p
    have hlt : i < its.toArray.size := by
      obtain ⟨q, _⟩ := List.getElem?_eq_some_iff.mp hx
      rw [List.size_toArray, ← rv.length]
      exact q
    refine wpAny_pyNext_enum_itemD (Draws.tuple (prog := X.prog) (w := X.w) (A := X.A.in1) (I.ok.hd hc) it a nai its.toArray) he ⟨hit, isT⟩ hlt hne (by simp [hne, nea]) fun y h' tk hy ho st' hT hsz hk => ?_
    have ey : y = u := by
      have : its.toArray[i]? = some u := by simpa using hu
      rw [this] at hy
      exact (Option.some.inj hy).symm
    subst ey
    refine ⟨_, rfl, wpAny_letOwnedTupleGo_enum (s := { s with heap := h', toks := tk + 1 }) ho fun h'' he' sb => ?_⟩
    have hT2 : h''.get? s.heap.objs.size = some { cls := .type "tuple", data := .seq #[.int i tk, y] } := (sb.2 _ (Nat.ne_of_gt hel)).trans hT
    have new : ObjOk X.prog X.w (upd H s.heap.objs.size (.tup [.int (i : Nat), x])) h'' s.heap.objs.size (.tup [.int (i : Nat), x]) :=
      ⟨by show 2 ≤ sizeLine; decide, [.int i tk, y], .cons ⟨_, rfl⟩ (.cons ru .nil), ⟨_, hT2, rfl, _, rfl⟩⟩
    have I1 : Inv X pins σ (upd H s.heap.objs.size (.tup [.int (i : Nat), x])) { s with heap := h'', toks := tk + 1 } :=
      I.turnedNew (ch := [e, it]) (fun b ob hb q => (sb.2 b (fun z => hb (by simp [z]))).trans (hk b ob (fun z => hb (by simp [z])) (fun z => hb (by simp [z])) q)) hf (Nat.le_refl _) new
    refine ⟨.ref s.heap.objs.size, _, I1, rfl, ⟨_, x, rfl, I.hok.fresh (Nat.le_refl _), rfl, fun ys hy => by rw [I.tuple_inj hy hq]; exact hx⟩, ⟨⟨y, ?_⟩, st'.1.at fun o q => (sb.2 it (Ne.symm hne)).trans q, hne⟩, fun b hb => ?_⟩
    · have e1 : ((i + 1 : Nat) : Int) = (i : Int) + 1 := by omega
      rw [e1]; exact he'
    · have hb' : b < s.heap.objs.size := by
        have e' : b = e ∨ b = it := by simpa using hb
        rcases e' with z | z
        · rw [z]; exact hel
        · rw [z]; exact hil
      rw [upd_ne (Nat.ne_of_lt hb')]
      exact (hf b hb).1
  done := by
    intro X hP hw hK hc i pins s σ H E I hf st hg
    subst hP hw hK
    obtain ⟨⟨old, he⟩, hit, hne⟩ := st
    obtain ⟨xs, hq, hx⟩ := hg
    obtain ⟨its, rv, p, hz⟩ := I.tuple hq
    obtain ⟨f0, f1, f2, f3, f4, f5⟩ := hf it (by simp)
    have nai : a ≠ it := fun z => by
      obtain ⟨o1, g1, c1, _⟩ := p
      obtain ⟨o2, g2, c2, _⟩ := hit
      rw [z, g2] at g1
      cases g1
      rw [c1] at c2
      injection c2 with c2
      exact absurd c2 (by decide)
    have isT : s.heap.IsTuple a its.toArray := p
    have hn : its.toArray.size = i := by rw [List.size_toArray, ← rv.length]; exact hx
    have hit' : s.heap.IsTupleIter it a its.toArray.size := by rw [hn]; exact hit
    exact wpAny_pyNext_enum_endD (Draws.tuple (prog := X.prog) (w := X.w) (A := X.A.in1) (I.ok.hd hc) it a nai its.toArray) he ⟨hit', isT⟩ fun h' eb => ⟨rfl, I.turned (t' := s.toks) (fun b o hb q => eb b o hb q) f0 f1 f3 f4 f5⟩
  self := fun A i s Q E st h => let ⟨⟨_, he⟩, _⟩ := st; wpAny_pyIter_enum he h
theorem walk_enumT {K : PySem.W.Frag} {a : Addr} {xs : List V} : Walk (IteT K a) xs.length (fun H => SqT K H a xs) (YPair (fun i => some (.int (i : Nat))) (fun i => xs[i]?)) := by
  refine ⟨fun i _ hi q => ⟨xs, xs[i], q, by simp [hi]⟩, fun _ q => ⟨xs, q, rfl⟩, fun i H v H' _ q y => ?_⟩
  obtain ⟨T, x, h1, h2, h3, h4⟩ := y
  exact ⟨T, .int (i : Nat), x, h1, h2, h3, rfl, h4 xs q⟩
def iEnumA (K : PySem.W.Frag) (ta : L2.TA) : TI := fun σ H R => ta σ H fun vs H1 => ∃ a xs, vs = [.ref a] ∧ ((SqL K H1 a xs ∧ R (Ite K a) H1) ∨ (SqT K H1 a xs ∧ R (IteT K a) H1))
theorem pi_enumA {X : Cx} {e : Expr} {ta : L2.TA} {p pos tpos : Pos} {elts : List Expr} {kk : Nat} (hg : Gl X "enumerate") (hm : X.mg "enumerate" = none) (ha : PA X [e] ta) (hs : starEach [e] X.env = [(false, eval e X.env)] := by rfl) :
    PI X (.Tuple elts kk tpos) (.Call (.Name "enumerate" p) [e] [] pos) (iEnumA X.K ta) := by
  refine ⟨fun pins s σ H R I h => ?_⟩
  refine Call_ (ld_blt I hg hm boot_enumerate (PyProof.Rows.callWith_type1 (thn (ha.run pos pins s σ H _ I h) fun us s1 ⟨vs, H1, I1, r1, q1⟩ => ?_) hs rfl))
  obtain ⟨a, xs, ex, hq⟩ := q1
  subst ex
  cases r1 with
  | cons r rr =>
    cases rr
    cases r
    have fp : ∀ b ∈ [s1.heap.objs.size + 1, s1.heap.objs.size], FpOk X pins H1 b := fun b hb => by
      have e' : b = s1.heap.objs.size + 1 ∨ b = s1.heap.objs.size := by simpa using hb
      have hle : s1.heap.objs.size ≤ b := by
        rcases e' with z | z
        · rw [z]; exact Nat.le_add_right _ _
        · rw [z]; exact Nat.le_refl _
      exact I1.fpOk hle (I1.hok.fresh hle)
    rcases hq with ⟨hq, q⟩ | ⟨hq, q⟩
    · obtain ⟨its, rv, p', hz⟩ := I1.list hq
      refine call_enumerate_list p'.isList fun h' he hit hsz hk => wpAny_pyIter_enum he ?_
      have I2 : Inv X pins σ H1 { s1 with heap := h' } := I1.kept (t' := s1.toks) hk
      exact ⟨s1.heap.objs.size + 1, [s1.heap.objs.size + 1, s1.heap.objs.size], _, _, H1, rfl, I2, turn_enum a (s1.heap.objs.size + 1) s1.heap.objs.size, ⟨⟨.none, he⟩, hit, Nat.succ_ne_self _⟩, fp, q⟩
    · obtain ⟨its, rv, p', hz⟩ := I1.tuple hq
      refine enum_begins1 (begins_tuple a its.toArray) p' fun h' he hit hsz hk => wpAny_pyIter_enum he ?_
      have I2 : Inv X pins σ H1 { s1 with heap := h' } := I1.kept (t' := s1.toks) hk
      exact ⟨s1.heap.objs.size + 1, [s1.heap.objs.size + 1, s1.heap.objs.size], _, _, H1, rfl, I2, turn_enumT a (s1.heap.objs.size + 1) s1.heap.objs.size, ⟨⟨.none, he⟩, ⟨_, hit, rfl, rfl⟩, Nat.succ_ne_self _⟩, fp, q⟩
end Tk

namespace Tk
open PySem PySem.Spec PyProof.Rows L2
/-! ## a tuple's slice that is the whole tuple -/
theorem getItem_tuple_all {prog : Program} {w : World} {A : Around} {E : Value → Shared → Prop} {s : Shared} {t sl : Addr} {items : Array Value} {vl vu : Value} {lo hi : Option Int} {Q : Value → Shared → Prop}
    (ht : IsTup s.heap t items) (hs : s.heap.IsSliceOf sl vl vu .none) (pl : IsPart vl lo) (pu : IsPart vu hi) (hw : HT.sIx items.size 0 lo = 0 ∧ HT.sIx items.size items.size hi = items.size) (h : Q (.ref t) s) (hsz : items.size ≤ sizeLine) :
    wpAny (model prog w) A (getItem (.ref t) (.ref sl)) Q E s := by
  obtain ⟨os, hos, hcs, hds⟩ := id hs
  have hTs : s.TypeIs (.ref sl) "slice" := ⟨os, hos, hcs⟩
  unfold getItem
  refine wpAny_holding (wpAny_bind (wpAny_sequenceKey (IsTup.typeIs ht) (by decide) (wpAny_bind (wpAny_callSpecial?_slot (IsTup.typeIs ht) slot_tuple_getitem (wpAny_call_entry slot_tuple_getitem (IsTup.typeIs ht) entry_tuple_getitem ?_)))))
  show wpAny _ _ (Builtin.«tuple.__getitem__» _) _ _ _
  unfold Builtin.«tuple.__getitem__»
  refine wpAny_bind (show wpAny _ _ (pure (Value.ref t, [Value.ref sl])) _ _ _ from wpAny_pure ?_)
  refine wpAny_bind (tupleItemsOf_ ht (wpAny_bind (wpAny_typeOf hTs ?_)))
  rw [if_pos (by decide)]
  refine wpAny_bind (HT.sliceApplied_gen hs pl pu ?_)
  show wpAny _ _ (if _ then _ else _) _ _ _
  rw [if_pos (by simp [hw.1, hw.2])]
  unfold Builtin.Tuple.tupleIsExact
  refine wpAny_bind (wpAny_bind (wpAny_typeOf (IsTup.typeIs ht) (wpAny_pure ?_)))
  rw [if_pos (by decide)]
  refine wpAny_bind ?_
  wp_step
  exact wpAny_pure ⟨_, rfl, wpAny_pure h⟩
/-- a slice of a tuple or list, from .. to .. -/
def rSlTF (K : PySem.W.Frag) : V → Option Int → Option Int → Hp → VK → Prop := fun x lo hi H Q => ∃ (a : Addr) (xs : List V), x = V.ref a ∧ SqT K H a xs ∧ (HT.sIx xs.length 0 lo = 0 ∧ HT.sIx xs.length xs.length hi = xs.length) ∧ Q (V.ref a) H
theorem sl_tupF {X : Cx} : SlR X (rSlTF X.K) := by
  intro pins s σ H x v vl vu lo hi sl Q I rx hs pl pu h
  obtain ⟨a, xs, rfl, hx, hw, q⟩ := h
  cases rx
  obtain ⟨its, r, ht, hz⟩ := I.tuple hx
  have hlen : its.toArray.size = xs.length := by rw [List.size_toArray]; exact r.length.symm
  refine ⟨"tuple", "tuple.__getitem__", slot_tuple_getitem.lookup, IsTup.typeIs ht, getItem_tuple_all ht hs pl pu (by rw [hlen]; exact hw) ⟨.ref a, H, I, rfl, q⟩ (by rw [hlen]; exact hz)⟩
def rSlA (K : PySem.W.Frag) : V → Option Int → Option Int → Hp → VK → Prop := fun x lo hi H Q => rSlL K x lo hi H Q ∨ rSlT K x lo hi H Q ∨ rSlTF K x lo hi H Q
theorem sl_any {X : Cx} : SlR X (rSlA X.K) := SlR.or sl_list (SlR.or sl_tup sl_tupF)
/-- v[1:] of a list or a tuple is one of its own kind -/
theorem sl_tail {K : PySem.W.Frag} {H : Hp} {a : Addr} {xs : List V} {Q : VK} (h : SqL K H a xs ∨ SqT K H a xs)
    (q : ∀ (b : Addr) (H' : Hp), Same H H' → (SqL K H' a xs ∧ SqL K H' b (xs.drop 1)) ∨ (SqT K H' a xs ∧ SqT K H' b (xs.drop 1)) → Q (.ref b) H') : rSlA K (.ref a) (some 1) none H Q := by
  have cut : cutV xs (some 1) none = xs.drop 1 := by
    unfold cutV
    have e : HT.sIx xs.length 0 (some 1) = min 1 xs.length := HT.sIx_nat ..
    rw [e]
    show (xs.drop (min 1 xs.length)).take (xs.length - min 1 xs.length) = xs.drop 1
    cases xs with
    | nil => rfl
    | cons x xs => rw [show min 1 (x :: xs).length = 1 by simp]; rw [List.take_of_length_le (by simp)]
  rcases h with h | h
  · refine .inl ⟨a, xs, rfl, h, fun p hp => ?_⟩
    rw [cut]
    exact q p _ (same_new hp) (.inl ⟨same_l (same_new hp) h, sl_of upd_same⟩)
  · by_cases c : xs = []
    · subst c
      exact .inr (.inr ⟨a, [], rfl, h, ⟨rfl, rfl⟩, q a H (fun _ _ h => h) (.inr ⟨h, h⟩)⟩)
    · refine .inr (.inl ⟨a, xs, rfl, h, ?_, fun p hp => ?_⟩)
      · rintro ⟨e, _⟩
        have e1 : HT.sIx xs.length 0 (some 1) = min 1 xs.length := HT.sIx_nat ..
        have := List.length_pos_iff.mpr c
        rw [e1] at e
        omega
      · rw [cut]
        exact q p _ (same_new hp) (.inr ⟨same_t (same_new hp) h, st_of upd_same⟩)
theorem walk_zipT {K : PySem.W.Frag} {a b : Addr} {xs ys : List V} {n : Nat} (hn : n = min xs.length ys.length) : Walk (RZ.ItzT K a b) n (fun H => SqT K H a xs ∧ SqT K H b ys) (YPair (fun i => xs[i]?) fun i => ys[i]?) := by
  refine ⟨fun i H hi h => ?_, fun H h => ⟨xs, ys, h.1, h.2, by omega⟩, fun i H x H' hi h y => ?_⟩
  · exact ⟨xs, ys, xs[i]'(by omega), ys[i]'(by omega), h.1, h.2, List.getElem?_eq_getElem (by omega), List.getElem?_eq_getElem (by omega)⟩
  · obtain ⟨T, u, v, e1, e2, e3, e4, e5⟩ := y
    exact ⟨T, u, v, e1, e2, e3, e4 _ h.1, e5 _ h.2⟩
/-- the walk along zip(xs, xs[1:]) -/
theorem lc_zipA {K : PySem.W.Frag} {a b : Addr} {xs ys : List V} {it : It} {H0 : Hp} {g : TG} {tt : TT} {te : TE} {vs : List Nat} {σ : L2.St} {H1 : Hp} {D : Addr} {Qd : Hp → Prop} {n : Nat} (hn : n = min xs.length ys.length)
    (hit : (it = Itz K a b ∧ SqL K H0 a xs ∧ SqL K H0 b ys) ∨ (it = RZ.ItzT K a b ∧ SqT K H0 a xs ∧ SqT K H0 b ys)) (Pv : Nat → Hp → Prop) (h0 : Pv 0 (upd H1 D (.lst []))) (hl : ∀ i H, i ≤ n → Pv i H → Same H0 H)
    (hs : ∀ i x y T H, xs[i]? = some x → ys[i]? = some y → Pv i H → H T = none → g (.ref T) (wipe σ vs) (upd H T (.tup [x, y])) fun σ2 H2 => wipe σ2 vs = wipe σ vs ∧ tt σ2 H2 fun b H3 =>
      if b = true then te σ2 H3 fun y H4 => ∃ acc, H4 D = some (.lst acc) ∧ acc.length < sizeLine ∧ Pv (i + 1) (upd H4 D (.lst (acc ++ [y]))) else Pv (i + 1) H3)
    (hd : ∀ H, Pv n H → Qd H) :
    ∃ W : Nat → Nat → Hp → Prop, (∃ m, W 0 m (upd H1 D (.lst []))) ∧ ∀ i m H, W i m H →
      (it.stop i H ∧ Qd H) ∨ (it.go i H ∧ ∃ Nx : Hp → Prop, (∀ H', Nx H' → ∃ m', m' < m ∧ W (i + 1) m' H') ∧ ∀ x H', it.yld i H x H' → g x (wipe σ vs) H' fun σ2 H2 => wipe σ2 vs = wipe σ vs ∧ tt σ2 H2 fun b H3 =>
        if b = true then te σ2 H3 fun y H4 => ∃ acc, H4 D = some (.lst acc) ∧ acc.length < sizeLine ∧ Nx (upd H4 D (.lst (acc ++ [y]))) else Nx H3) := by
  rcases hit with ⟨rfl, h1, h2⟩ | ⟨rfl, h1, h2⟩
  · refine lc_it (walk_zip (K := K) (a := a) (b := b) (xs := xs) (ys := ys) hn) Pv h0 (fun i H hi p => ⟨same_l (hl i H hi p) h1, same_l (hl i H hi p) h2⟩) (fun i v H H' hi p y => ?_) hd
    obtain ⟨T, x, y, rfl, hT, rfl, e1, e2⟩ := y
    exact hs i x y T H e1 e2 p hT
  · refine lc_it (walk_zipT (K := K) (a := a) (b := b) (xs := xs) (ys := ys) hn) Pv h0 (fun i H hi p => ⟨same_t (hl i H hi p) h1, same_t (hl i H hi p) h2⟩) (fun i v H H' hi p y => ?_) hd
    obtain ⟨T, x, y, rfl, hT, rfl, e1, e2⟩ := y
    exact hs i x y T H e1 e2 p hT
end Tk

namespace ZmX
open PySem PySem.Spec PyProof.Rows L2
section
variable {prog : Program} {w : World} {A : Around} {E : Value → Shared → Prop} {s : Shared}
theorem itO_is {t : Bool} {h : Heap} {it l : Addr} (e : h.get? it = some (itO t l)) : ItB t h it l 0 := by
  cases t
  · exact ⟨_, e, rfl, rfl⟩
  · exact ⟨_, e, rfl, rfl⟩
theorem itO_fr {t : Bool} {l : Addr} : (itO t l).isFreed = false := rfl
theorem call_zipB {t u : Bool} {l1 l2 : Addr} {xs ys : Array Value} {Q : Value → Shared → Prop} (hl1 : SeB t s.heap l1 xs) (hl2 : SeB u s.heap l2 ys)
    (h : ∀ h', IsZip h' (s.heap.objs.size + 4) (s.heap.objs.size + 2) (s.heap.objs.size + 3) .none → IsPair h' (s.heap.objs.size + 2) (.ref s.heap.objs.size) (.ref (s.heap.objs.size + 1)) → IsPair h' (s.heap.objs.size + 3) .none .none →
      ItB t h' s.heap.objs.size l1 0 → ItB u h' (s.heap.objs.size + 1) l2 0 → (∀ c o, s.heap.get? c = some o → h'.get? c = some o) → Q (.ref (s.heap.objs.size + 4)) { s with heap := h' }) :
    wpAny (model prog w) A (call (.type "zip") [.ref l1, .ref l2]) Q E s := by
  refine callType_new F.called_zip (by decide) (F.typeCall_zip_2 _ _) (F.newCall_zip_2 _ _) (fun obj => F.args_object_init_3 obj _ _) F.entry_zip_new (meets_zipB t u l1 l2 xs ys) ⟨hl1, hl2, ?_⟩
  have z1 : (zB1 s.heap t l1).objs.size = s.heap.objs.size + 1 := Heap.size_push ..
  have z2 : (zB2 s.heap t u l1 l2).objs.size = s.heap.objs.size + 2 := by rw [Heap.size_push, z1]
  have z3 : (zB3 s.heap t u l1 l2).objs.size = s.heap.objs.size + 3 := by rw [Heap.size_push, z2]
  have z4 : (zB4 s.heap t u l1 l2).objs.size = s.heap.objs.size + 4 := by rw [Heap.size_push, z3]
  have g5 : (zB5 s.heap t u l1 l2).get? (zB4 s.heap t u l1 l2).objs.size = some _ := Heap.get?_push_size _ rfl
  have g4 : (zB5 s.heap t u l1 l2).get? (zB3 s.heap t u l1 l2).objs.size = some _ := Heap.get?_push_of_some _ (Heap.get?_push_size _ rfl)
  have g3 : (zB5 s.heap t u l1 l2).get? (zB2 s.heap t u l1 l2).objs.size = some _ := Heap.get?_push_of_some _ (Heap.get?_push_of_some _ (Heap.get?_push_size _ rfl))
  have g2 : (zB5 s.heap t u l1 l2).get? (zB1 s.heap t l1).objs.size = some (itO u l2) := Heap.get?_push_of_some _ (Heap.get?_push_of_some _ (Heap.get?_push_of_some _ (Heap.get?_push_size _ itO_fr)))
  have g1 : (zB5 s.heap t u l1 l2).get? s.heap.objs.size = some (itO t l1) := Heap.get?_push_of_some _ (Heap.get?_push_of_some _ (Heap.get?_push_of_some _ (Heap.get?_push_of_some _ (Heap.get?_push_size _ itO_fr))))
  show _ ∧ _
  rw [z2, z3, z4] at g5
  rw [z1, z2] at g3
  rw [z3] at g4
  rw [z1] at g2
  rw [z4]
  exact ⟨⟨_, g5, rfl⟩, h _ g5 g3 g4 (itO_is g1) (itO_is g2) fun c o x => Heap.get?_push_of_some _ (Heap.get?_push_of_some _ (Heap.get?_push_of_some _ (Heap.get?_push_of_some _ (Heap.get?_push_of_some _ x))))⟩
end
def iZipB (K : PySem.W.Frag) (ta : L2.TA) : TI := fun σ H R => ta σ H fun vs H1 => ∃ (t u : Bool) (a b : Addr) (xs ys : List V), vs = [.ref a, .ref b] ∧ SqB t K H1 a xs ∧ SqB u K H1 b ys ∧ R (ItzB t u K a b) H1
theorem pi_zipB {X : Cx} {e e2 : Expr} {ta : L2.TA} {p pos tpos : Pos} {elts : List Expr} {kk : Nat} (hg : Gl X "zip") (hm : X.mg "zip" = none) (ha : PA X [e, e2] ta)
    (hs : starEach [e, e2] X.env = (false, eval e X.env) :: starEach [e2] X.env := by rfl) (hpl : (backTo pos (starEach [e2] X.env)).any (·.1) = false := by rfl) :
    PI X (.Tuple elts kk tpos) (.Call (.Name "zip" p) [e, e2] [] pos) (iZipB X.K ta) := by
  refine ⟨fun pins s σ H R I h => ?_⟩
  refine Call_ (ld_blt I hg hm PyProof.Rows.boot_zip (PyProof.Rows.callWith_type1 (thn (ha.run pos pins s σ H _ I h) fun us s1 ⟨vs, H1, I1, r1, q1⟩ => ?_) hs hpl))
  obtain ⟨t, u, a, b, xs, ys, ex, hqx, hqy, q⟩ := q1
  subst ex
  obtain ⟨v1, v2, rfl, r2, r3⟩ := vals2 r1
  obtain rfl : v1 = Value.ref a := r2
  obtain rfl : v2 = Value.ref b := r3
  obtain ⟨its, rv, p1, l1⟩ := seB_of I1 hqx
  obtain ⟨its2, rv2, p2, l2⟩ := seB_of I1 hqy
  refine call_zipB p1 p2 fun h' hz hTI hTO h1 h2 hk => wpAny_pyIter_zip hz ?_
  have I2 : Inv X pins σ H1 { s1 with heap := h' } := I1.kept (t' := s1.toks) hk
  refine ⟨s1.heap.objs.size + 4, [s1.heap.objs.size + 4, s1.heap.objs.size + 2, s1.heap.objs.size + 3, s1.heap.objs.size, s1.heap.objs.size + 1], _, _, H1, rfl, I2, turn_zipB (PySem.W.ktu_apart s1.heap.objs.size a b l1 l2), ⟨hz, hTI, ⟨_, _, hTO⟩, h1, h2⟩, fun c hcm => ?_, q⟩
  have hle : s1.heap.objs.size ≤ c := by
    simp at hcm
    rcases hcm with rfl | rfl | rfl | rfl | rfl <;> omega
  exact I1.fpOk hle (I1.hok.fresh hle)
theorem sqB_s {t : Bool} {K : PySem.W.Frag} {H H' : Hp} {a : Addr} {xs : List V} (e : Same H H') (h : SqB t K H a xs) : SqB t K H' a xs := by
  cases t
  · exact Tk.same_l e h
  · exact Tk.same_t e h
theorem walk_zipB {t u : Bool} {K : PySem.W.Frag} {a b : Addr} {xs ys : List V} {n : Nat} (hx : n = xs.length) (hy : n = ys.length) : Walk (ItzB t u K a b) n (fun H => SqB t K H a xs ∧ SqB u K H b ys) (YPair (fun i => xs[i]?) fun i => ys[i]?) := by
  refine ⟨fun i H hi h => ?_, fun H h => ⟨xs, ys, h.1, h.2, by omega, by omega, by omega⟩, fun i H x H' hi h y => ?_⟩
  · exact ⟨xs, ys, xs[i]'(by omega), ys[i]'(by omega), h.1, h.2, List.getElem?_eq_getElem (by omega), List.getElem?_eq_getElem (by omega)⟩
  · obtain ⟨T, u, v, e1, e2, e3, e4, e5⟩ := y
    exact ⟨T, u, v, e1, e2, e3, e4 _ h.1, e5 _ h.2⟩
/-- the walk along zip of two of one length, in a comprehension -/
theorem lc_zipB {t u : Bool} {K : PySem.W.Frag} {a b : Addr} {xs ys : List V} {H0 : Hp} {g : TG} {tt : TT} {te : TE} {vs : List Nat} {σ : L2.St} {H1 : Hp} {D : Addr} {Qd : Hp → Prop} (hl : xs.length = ys.length) (h1 : SqB t K H0 a xs) (h2 : SqB u K H0 b ys)
    (Pv : Nat → Hp → Prop) (h0 : Pv 0 (upd H1 D (.lst []))) (hk : ∀ i H, i ≤ xs.length → Pv i H → Same H0 H)
    (hs : ∀ i x y T H, xs[i]? = some x → ys[i]? = some y → Pv i H → H T = none → g (.ref T) (wipe σ vs) (upd H T (.tup [x, y])) fun σ2 H2 => wipe σ2 vs = wipe σ vs ∧ tt σ2 H2 fun b H3 =>
      if b = true then te σ2 H3 fun y H4 => ∃ acc, H4 D = some (.lst acc) ∧ acc.length < sizeLine ∧ Pv (i + 1) (upd H4 D (.lst (acc ++ [y]))) else Pv (i + 1) H3)
    (hd : ∀ H, Pv xs.length H → Qd H) :
    ∃ W : Nat → Nat → Hp → Prop, (∃ m, W 0 m (upd H1 D (.lst []))) ∧ ∀ i m H, W i m H →
      ((ItzB t u K a b).stop i H ∧ Qd H) ∨ ((ItzB t u K a b).go i H ∧ ∃ Nx : Hp → Prop, (∀ H', Nx H' → ∃ m', m' < m ∧ W (i + 1) m' H') ∧ ∀ x H', (ItzB t u K a b).yld i H x H' → g x (wipe σ vs) H' fun σ2 H2 => wipe σ2 vs = wipe σ vs ∧ tt σ2 H2 fun b H3 =>
        if b = true then te σ2 H3 fun y H4 => ∃ acc, H4 D = some (.lst acc) ∧ acc.length < sizeLine ∧ Nx (upd H4 D (.lst (acc ++ [y]))) else Nx H3) := by
  refine lc_it (walk_zipB (t := t) (u := u) (K := K) (a := a) (b := b) (xs := xs) (ys := ys) rfl hl) Pv h0 (fun i H hi p => ⟨sqB_s (hk i H hi p) h1, sqB_s (hk i H hi p) h2⟩) (fun i v H H' hi p y => ?_) hd
  obtain ⟨T, x, y, rfl, hT, rfl, e1, e2⟩ := y
  exact hs i x y T H e1 e2 p hT
end ZmX

namespace NeO
open PySem PySem.Spec PyProof.Rows L2 ClX
section
variable {X : Cx} {k : Nat} {C p g : Addr} {mc : Value} {fd : FuncData} {ps ks : List Str} {sp : Sp}
/-- C.m(k = v, ..), m a classmethod, the keywords in the parameters' order behind the first one -/
def tCMethK (C : Addr) (n : Nat) (sp : Sp) (ta : TE) (t : L2.TA) : TE := fun σ H Q => ta σ H fun x H1 => x = .ref C ∧ t σ H1 fun zs H2 => zs.length = n ∧ sp (.ref C :: zs) H2 Q E0
theorem pe_cmethK {o : Expr} {m : Str} {ta : TE} {t : L2.TA} {apos pos : Pos} {kws : List Keyword} {pl : Sem Bool} (he : PE X o ta) (r : CRead X.K C mc) (c : CMet X.K C mc m p g) (F : FnOk X.prog X.w X.K X.mg X.base CX0 k g fd ps sp) (hr : Room k X.A)
    (hb : ∀ (s : Shared) (u : Value) (ws : List Value), ws.length = ks.length → BindsTo s fd ⟨[u], ks.zip ws⟩ (ps.zip (u :: ws)))
    (hkw : PK X kws t) (hall : (backToKw pos (keywordEach kws X.env)).all (·.1.isSome) = true := by rfl) (hks : (backToKw pos (keywordEach kws X.env)).filterMap (·.1) = ks := by rfl)
    (hpl : ((backTo pos (starEach [] X.env)).any (·.1) || (backToKw pos (keywordEach kws X.env)).any (·.1.isNone)) = false := by rfl)
    (ht : eval (.Call (.Attribute o m apos) [] kws pos) X.env = (do
      let ov ← eval o X.env
      standAt apos.atName
      let (f, first) ← holding [ov] (getMethod ov m pl)
      callWith pos f first (backTo pos (starEach [] X.env)) (backToKw pos (keywordEach kws X.env))) := by rfl) :
    PE X (.Call (.Attribute o m apos) [] kws pos) (tCMethK C ks.length sp ta t) := by
  refine ⟨fun pins s σ H Q I h => ?_⟩
  refine PySem.W.methodCall_KW (pl := pl) (thn (he.run pins s σ H _ I h) fun u s1 ⟨x, H1, I1, rx, ex, q⟩ => ?_) ht
  subst ex
  obtain rfl : u = Value.ref C := rx
  refine getmethcm_ok I1 r c fun s2 I2 => ?_
  refine PySem.W.callWith_of hpl (PySem.W.keeps_M (K := X.K) (f := g) (self := .ref C) c.fi) (evalArgs_kw2_nil hall (thn (hkw.run pos _ s2 σ H1 _ I2 q) fun ws s3 ⟨zs, H2, I3, rz, lz, q2⟩ => ⟨⟨pin_at I3, I3.kIn⟩, ?_⟩))
  rw [hks]
  have lw : ws.length = ks.length := by rw [← rz.length]; exact lz
  have z : wpAny (model X.prog X.w) X.A (call (.ref s1.heap.objs.size) [] (ks.zip ws)) (EP X ((s1.heap.objs.size, PySem.W.methodObj (.ref g) (.ref C)) :: pins) σ Q) X.xe s3 := by
    apply wpAny_call
    refine PySem.W.method_call (pin_at I3) ?_
    refine codeAny_mono (F.run X.A X.stack s3 H2 ⟨[.ref C], ks.zip ws⟩ (.ref C :: ws) (.ref C :: zs) Q E0 hr I3.env0 (hb s3 (.ref C) ws lw) (.cons rfl rz) q2) ?_
    intro r s' hq
    cases r with
    | error er => exact hq.elim
    | ok fl =>
      cases fl with
      | ret u => exact I3.after hq
      | next => exact hq.elim
      | brk => exact hq.elim
      | cont => exact hq.elim
  exact thn z fun _ _ y => unpinE y
end
end NeO

namespace Tk
open PySem PySem.Spec PyProof.Rows L2 ClX
/-- a row times a column -/
def prodsQ (qs rs : List (Int × Int)) : List (Int × Int) := List.zipWith mulQ qs rs
def spLedQ (K : PySem.W.Frag) (C : Addr) : Sp := fun vs H Q _ => ∃ (v : V) (b : Addr) (ys : List V) (qs rs : List (Int × Int)), vs = [v, .ref b] ∧ RowAt K C H v qs ∧ SqL K H b ys ∧ RatsP C H ys rs ∧ qs.length = rs.length ∧ qs.length ≤ 6 ∧
  (∀ q ∈ qs, Small q) ∧ (∀ r ∈ rs, Small r) ∧ (∀ z ∈ prodsQ qs rs, Small z) ∧ (∀ i, i ≤ (prodsQ qs rs).length → Small (sumQ ((prodsQ qs rs).take i))) ∧ ∀ H' r, Same H H' → RatAt C H' r (sumQ (prodsQ qs rs)) → Q (.ref r) H'
theorem row_b {K : PySem.W.Frag} {H : Hp} {a : Addr} {xs : List V} (h : SqA K H a xs) : ∃ t, ZmX.SqB t K H a xs := h.elim (fun h => ⟨false, h⟩) (fun h => ⟨true, h⟩)
section
variable {P : Program} {w : World} {K : PySem.W.Frag} {mg : Str → Option Value} {base : Heap}
abbrev nLedQ : List Str := ["numbers", "other", "number", "worth"]
theorem sc_ledQ : FnScope nLedQ ["numbers", "other"] (defScope sLedQ) := ⟨rfl, rfl, rfl, by decide +kernel, rfl, by decide +kernel, by decide +kernel⟩
def mulR2 (C : Addr) : R2 := fun x y H Q => NeO.rBinI C (spBin C mulQ) x y H Q ∨ NeO.rBinR C (spRev C mulQ) x y H Q
abbrev teMulQ (C : Addr) : TE := tOp (mulR2 C) (tVar 2) (tVar 3)
theorem ok_ledQ {f fM fR C p g : Addr} {fd dM dR dT : FuncData} {mc : Value} (F : Fun K "led" "led" sLedQ f fd) (mgC : mg "Ratio" = some (.ref C)) (TM : NeO.BinT K C fM "mul") (GM : FnOk P w K mg base CX0 5 fM dM ["self", "other"] (spBin C mulQ)) (bM : Binds K dM ["self", "other"] [])
    (RM : NeO.BinR K C fR "mul") (GR : FnOk P w K mg base CX0 6 fR dR ["self", "other"] (spRev C mulQ)) (bR : Binds K dR ["self", "other"] []) (rC : CRead K C mc) (cT : CMet K C mc "total" p g) (GT : FnOk P w K mg base CX0 6 g dT ["cls", "numbers"] (spTotal K C)) (bT : Binds K dT ["cls", "numbers"] []) (B : Bl mg) :
    FnOk P w K mg base CX0 7 f fd ["numbers", "other"] (spLedQ K C) := by
  refine F.ok sc_ledQ (fun vs H Q E h => ?_) (fun cdv A outer s H vs Q E hr h => ?_)
  · obtain ⟨v, b, ys, qs, rs, rfl, _⟩ := h
    rfl
  · obtain ⟨v, b, ys, qs, rs, rfl, ⟨a, xs, rfl, ha, hn⟩, hb, hR, hl, few, sq, sr, sp, ss, q⟩ := h
    refine ⟨_, pss_one (ps_ret (pe_cmeth (pe_glob (v := .ref C) rfl mgC rfl) rC cT (GT.raw bT .nil) hr pass0 (pa_cons
      (pe_lc (own := [("number", 2), ("worth", 3)]) (g := gTup K 2 (gCons (gName 2) (gCons (gName 3) gNil))) (tt := tYes) (te := teMulQ C) rfl sc_ledQ.nd (ZmX.pi_zipB (by rfl) B.zip (pa_cons (pv 0) (pa_cons (pv 1) pa_nil))) (blkOk_by (N := nLedQ) (sc := defScope sLedQ) (by decide +kernel))
        (fun _ _ _ _ _ => pg_tup rfl (pgs_cons (pg_name (i := 2) sc_ledQ.nd rfl (Or.inl rfl)) (pgs_cons (pg_name (i := 3) sc_ledQ.nd rfl (Or.inl rfl)) pgs_nil))) (fun _ _ _ _ _ => pts_nil)
        (fun _ _ _ _ _ => pe_op (opR_or (NeO.op_binI (op := .Mult) TM.first TM.own TM.fn GM (hr.mono (by decide)) bM) (NeO.op_binR (op := .Mult) NeO.int_mul RM GR hr bR)) (pv 2) (pv 3))) pa_nil))), ?_⟩
    obtain ⟨t, hA⟩ := row_b ha
    have lx : xs.length = qs.length := (nums_at hn).1
    have ly : ys.length = rs.length := (rats_at hR).1
    have lp : (prodsQ qs rs).length = qs.length := by unfold prodsQ; rw [List.length_zipWith]; omega
    refine ⟨rfl, _, rfl, _, rfl, t, false, a, b, xs, ys, rfl, hA, hb, fun D hD => ?_⟩
    refine ZmX.lc_zipB (H0 := H) (by omega) hA hb (fun k G => Same H G ∧ ∃ acc, G D = some (.lst acc) ∧ RatsP C G acc ((prodsQ qs rs).take k)) ⟨same_new hD, [], upd_same, by simp [RatsP]⟩ (fun k G _ p => p.1) ?_ ?_
    · rintro i x y T G hx hy ⟨sG, acc, hacc, hP⟩ hT
      obtain ⟨z, hz, hnum⟩ := (nums_at hn).2 i x hx
      have hi := lt_of_at hy
      obtain ⟨r', hr'⟩ : ∃ r', rs[i]? = some r' := ⟨rs[i]'(by omega), by simp [show i < rs.length by omega]⟩
      obtain ⟨m, rfl, hm⟩ := (rats_at hR).2 i y r' hy hr'
      have sT := same_new (o := .tup [x, V.ref m]) hT
      have num' := num_s hnum (sG.trans sT)
      have hm' := rat_s hm (sG.trans sT)
      have hacc' := sT _ _ hacc
      have hP' := rats_s sT hP
      have hpr : (prodsQ qs rs)[i]? = some (mulQ z r') := by unfold prodsQ; rw [List.getElem?_zipWith, hz, hr']
      have fewk := (rats_at hP).1
      have : ((prodsQ qs rs).take i).length ≤ 6 := by rw [List.length_take]; omega
      have fin : ∀ (G2 : Hp) (p2 : Addr), Same (upd G T (.tup [x, V.ref m])) G2 → RatAt C G2 p2 (mulQ z r') → ∃ acc', G2 D = some (.lst acc') ∧ acc'.length < sizeLine ∧ (Same H (upd G2 D (.lst (acc' ++ [V.ref p2]))) ∧ ∃ ac, upd G2 D (.lst (acc' ++ [V.ref p2])) D = some (.lst ac) ∧ RatsP C (upd G2 D (.lst (acc' ++ [V.ref p2]))) ac ((prodsQ qs rs).take (i + 1))) := fun G2 p2 s2 h2 => by
        refine ⟨acc, s2 _ _ hacc', szlt (by omega), same_mut ((sG.trans sT).trans s2) hD, acc ++ [.ref p2], upd_same, ?_⟩
        rw [take_at hpr]
        exact rats_but (s2 _ _ hacc') smx_upd (rats_app (rats_s s2 hP') ⟨⟨p2, rfl, h2⟩, trivial⟩)
      have sz := sq z (List.mem_of_getElem? hz)
      have sr' := sr r' (List.mem_of_getElem? hr')
      obtain ⟨dm, hmi⟩ := id hm'
      refine ⟨T, _, rfl, st_of upd_same, rfl, _, _, rfl, _, _, rfl, rfl, rfl, ?_⟩
      refine ⟨_, rfl, _, rfl, ?_⟩
      rcases num' with ⟨p, rfl, hp⟩ | ⟨j, rfl, rfl⟩
      · obtain ⟨dp, hpi⟩ := id hp
        exact .inl ⟨p, m, dp, dm, _, _, rfl, rfl, hpi, hmi, p, .ref m, z, r', rfl, hp, .inl ⟨m, rfl, hm'⟩, sz, sr', fun G2 p2 s2 _ h2 => ⟨p2, rfl, fin G2 p2 s2 h2⟩⟩
      · exact .inr ⟨m, dm, _, j, rfl, rfl, hmi, m, .int j, r', (j, 1), rfl, hm', .inr ⟨j, rfl, rfl⟩, sr', sz, fun G2 p2 s2 h2 => ⟨p2, rfl, fin G2 p2 s2 h2⟩⟩
    · rintro G ⟨sG, acc, hacc, hP⟩
      rw [show (prodsQ qs rs).take xs.length = prodsQ qs rs by rw [lx, ← lp, List.take_length]] at hP
      obtain ⟨e1, e2⟩ := rats_at hP
      refine ⟨D, acc, prodsQ qs rs, rfl, .inl (sl_of hacc), e1, fun i x z hx hz => ⟨.inl (e2 i x z hx hz), sp z (List.mem_of_getElem? hz)⟩, ss, fun H' r s' h => q H' r (sG.trans s') h⟩
end
end Tk

namespace Tk
open PySem PySem.Spec PyProof.Rows L2 ClX
abbrev sChkTwo : Stmt := top 34
def spChkTwo (K : PySem.W.Frag) (C : Addr) : Sp := fun vs H Q _ => ∃ (v w' : V) (n : Nat) (qss rss : List (List (Int × Int))), vs = [v, w'] ∧ TabAt K C H v n qss ∧ TabAt K C H w' n rss ∧ ∀ H', Same H H' → Q .non H'
/-- the differences, place by place -/
def lessL (qss rss : List (List (Int × Int))) : List (List (Int × Int)) := List.zipWith (List.zipWith subQ) qss rss
def spLessT (K : PySem.W.Frag) (C : Addr) : Sp := fun vs H Q _ => ∃ (v w' : V) (n : Nat) (qss rss : List (List (Int × Int))), vs = [v, w'] ∧ TabAt K C H v n qss ∧ TabAt K C H w' n rss ∧ (∀ qs ∈ qss, ∀ q ∈ qs, Small q) ∧ (∀ qs ∈ rss, ∀ q ∈ qs, Small q) ∧ NewTab C H Q (lessL qss rss)
section
variable {P : Program} {w : World} {K : PySem.W.Frag} {mg : Str → Option Value} {base : Heap}
theorem sc_chkTwo : FnScope ["table", "other"] ["table", "other"] (defScope sChkTwo) := ⟨rfl, rfl, rfl, by decide +kernel, rfl, by decide +kernel, by decide +kernel⟩
theorem ok_chkTwo {f f1 C : Addr} {fd fd1 : FuncData} (F : Fun K "check_two" "check_two" sChkTwo f fd) (D1 : Df K mg "check_table" sChkTab ["table"] f1 fd1) (G1 : FnOk P w K mg base CX0 5 f1 fd1 ["table"] (spChkTab K C)) (B : Bl mg) : FnOk P w K mg base CX0 6 f fd ["table", "other"] (spChkTwo K C) := by
  refine F.ok sc_chkTwo (fun vs H Q E h => ?_) (fun cdv A outer s H vs Q E hr h => ?_)
  · obtain ⟨v, w', n, qss, rss, rfl, _⟩ := h
    rfl
  · obtain ⟨v, w', n, qss, rss, rfl, h1, h2, q⟩ := h
    refine ⟨_, pss_cons (ps_expr (pe_call G1 hr rfl D1.g D1.F.kp D1.b .nil pass0 (pa_cons (pv 0) pa_nil))) (pss_cons (ps_expr (pe_call G1 hr rfl D1.g D1.F.kp D1.b .nil pass0 (pa_cons (pv 1) pa_nil)))
      (pss_one (ps_if (pt_cmpR op_ne (pe_callB call_len_seq (by rfl) B.len PySem.boot_len (pa_cons (pv 0) pa_nil)) (pe_callB call_len_seq (by rfl) B.len PySem.boot_len (pa_cons (pv 1) pa_nil)) (nomark _)) pss_never pss_nil))), ?_⟩
    refine ⟨_, rfl, v, n, qss, rfl, h1, fun H1 s1 => ?_⟩
    refine ⟨_, rfl, w', n, rss, rfl, tab_s h2 s1, fun H2 s2 => ?_⟩
    obtain ⟨_, l1, _, a, xs, rfl, ha, hR⟩ := tab_s h1 (s1.trans s2)
    obtain ⟨_, l2, _, b, ys, rfl, hb, hS⟩ := tab_s h2 (s1.trans s2)
    refine ⟨_, rfl, a, xs, rfl, ha, _, rfl, b, ys, rfl, hb, rfl, _, rfl, ?_⟩
    rw [show decide (V.int (xs.length : Int) = V.int (ys.length : Int)) = true from decide_eq_true (by rw [(rows_at hR).1, (rows_at hS).1, l1, l2])]
    exact iteF (q H2 (s1.trans s2))
theorem rt_at {L C : Addr} {H : Hp} : ∀ {xs : List V} {qs : List (List (Int × Int))}, RtRows L C H xs qs → ∀ (i : Nat) (x : V), xs[i]? = some x → ∃ q a ys, qs[i]? = some q ∧ x = .ref a ∧ a ≠ L ∧ H a = some (.lst ys) ∧ RatsP C H ys q
  | [], [], _, i, x, h => by simp at h
  | x :: xs, q :: qs, ⟨⟨a, ys, h1, h2, h3, h4⟩, h⟩, i, y, hy => by
    cases i with
    | zero =>
      simp at hy
      subst hy
      exact ⟨q, a, ys, rfl, h1, h2, h3, h4⟩
    | succ i => exact rt_at h i y (by simpa using hy)
  | [], _ :: _, h, _, _, _ => h.elim
  | _ :: _, [], h, _, _, _ => h.elim
abbrev nLessT : List Str := ["table", "other", "row", "line", "number", "worth"]
abbrev scLessT : Scope := { kind := .function, names := [(".0", .local), ("row", .local), ("line", .local), ("zip", .globalImplicit)], isGenerator := false, isCoroutine := false }
def subR2 (C : Addr) : R2 := fun x y H Q => NeO.rBinI C (spBin C subQ) x y H Q ∨ NeO.rBinT C (spBin C subQ) x y H Q
abbrev teSubQ (C : Addr) : TE := tOp (subR2 C) (tVar 4) (tVar 5)
abbrev g2 (K : PySem.W.Frag) (i j : Nat) : TG := gTup K 2 (gCons (gName i) (gCons (gName j) gNil))
end
end Tk

namespace Tk
open PySem PySem.Spec PyProof.Rows L2 ClX
abbrev sAboutT : Stmt := top 38
abbrev sTimesT : Stmt := top 37
/-- the columns of n rows of n -/
def colsQ (n : Nat) (qss : List (List (Int × Int))) : List (List (Int × Int)) := (List.range n).map fun j => qss.map fun qs => qs[j]?.getD (0, 1)
def timesQ (n : Nat) (qss rss : List (List (Int × Int))) : List (List (Int × Int)) := qss.map fun qs => (colsQ n rss).map fun cs => sumQ (prodsQ qs cs)
def spAboutT (K : PySem.W.Frag) (C : Addr) : Sp := fun vs H Q _ => ∃ (v : V) (n : Nat) (qss : List (List (Int × Int))), vs = [v] ∧ TabAt K C H v n qss ∧ NewTab C H Q (colsQ n qss)
def spTimesT (K : PySem.W.Frag) (C : Addr) : Sp := fun vs H Q _ => ∃ (v w' : V) (n : Nat) (qss rss : List (List (Int × Int))), vs = [v, w'] ∧ TabAt K C H v n qss ∧ TabAt K C H w' n rss ∧ (∀ qs ∈ qss, ∀ q ∈ qs, Small q) ∧ (∀ cs ∈ colsQ n rss, ∀ q ∈ cs, Small q) ∧
  (∀ qs ∈ qss, ∀ cs ∈ colsQ n rss, (∀ z ∈ prodsQ qs cs, Small z) ∧ ∀ i, i ≤ (prodsQ qs cs).length → Small (sumQ ((prodsQ qs cs).take i))) ∧ NewTab C H Q (timesQ n qss rss)
section
variable {P : Program} {w : World} {K : PySem.W.Frag} {mg : Str → Option Value} {base : Heap}
abbrev nTimesT : List Str := ["table", "other", "columns", "row", "column"]
theorem sc_timesT : FnScope nTimesT ["table", "other"] (defScope sTimesT) := ⟨rfl, rfl, rfl, by decide +kernel, rfl, by decide +kernel, by decide +kernel⟩
abbrev scTimesT : Scope := { kind := .function, names := [(".0", .local), ("row", .cell), ("columns", .cell)], isGenerator := false, isCoroutine := false }
abbrev teLed (K : PySem.W.Frag) (C : Addr) : TE := tCall (spLedQ K C) [] E0 (tCons (tVar 3) (tCons (tVar 4) tNil))
theorem ok_timesT {f f1 f2 f3 C : Addr} {fd fd1 fd2 fd3 : FuncData} (F : Fun K "times" "times" sTimesT f fd) (D1 : Df K mg "check_two" sChkTwo ["table", "other"] f1 fd1) (G1 : FnOk P w K mg base CX0 6 f1 fd1 ["table", "other"] (spChkTwo K C)) (D2 : Df K mg "about" sAboutT ["table"] f2 fd2) (G2 : FnOk P w K mg base CX0 7 f2 fd2 ["table"] (spAboutT K C))
    (D3 : Df K mg "led" sLedQ ["numbers", "other"] f3 fd3) (G3 : FnOk P w K mg base CX0 7 f3 fd3 ["numbers", "other"] (spLedQ K C)) (B : Bl mg) : FnOk P w K mg base CX0 8 f fd ["table", "other"] (spTimesT K C) := by
  refine F.ok sc_timesT (fun vs H Q E h => ?_) (fun cdv A outer s H vs Q E hr h => ?_)
  · obtain ⟨v, w', n, qss, rss, rfl, _⟩ := h
    rfl
  · obtain ⟨v, w', n, qss, rss, rfl, h1, h2, sq, sr, sp, q⟩ := h
    refine ⟨_, pss_cons (ps_expr (pe_call G1 (hr.mono (by decide)) rfl D1.g D1.F.kp D1.b .nil pass0 (pa_cons (pv 0) (pa_cons (pv 1) pa_nil))))
      (pss_cons (ps_set (i := 2) sc_timesT.nd rfl (Or.inr rfl) (pe_call G2 hr rfl D2.g D2.F.kp D2.b .nil pass0 (pa_cons (pv 1) pa_nil)))
      (pss_one (ps_ret (pe_lc (own := [("row", 3)]) (g := gName 3) (tt := tYes) (te := tLc (iSq K (tVar 2)) (gName 4) tYes (teLed K C) [4]) rfl sc_timesT.nd (pi_sq (pv 0)) (blkOk_by (N := nTimesT) (sc := defScope sTimesT) (by decide +kernel))
        (fun _ _ _ _ _ => pg_name (i := 3) sc_timesT.nd rfl (Or.inr rfl)) (fun _ _ _ _ _ => pts_nil)
        (fun _ _ _ _ _ => pe_lc (own := [("column", 4)]) (g := gName 4) (tt := tYes) (te := teLed K C) rfl sc_timesT.nd (pi_sq (pv 2)) (blkOk_by (N := nTimesT) (sc := scTimesT) (by decide +kernel))
          (fun _ _ _ _ _ => pg_name (i := 4) sc_timesT.nd rfl (Or.inl rfl)) (fun _ _ _ _ _ => pts_nil) (fun _ _ _ _ _ => pe_call G3 hr rfl D3.g D3.F.kp D3.b .nil pass0 (pa_cons (pv 3) (pa_cons (pv 4) pa_nil)))))))), ?_⟩
    refine ⟨_, rfl, _, rfl, v, w', n, qss, rss, rfl, h1, h2, fun H1 s1 => ?_⟩
    refine ⟨_, rfl, w', n, rss, rfl, tab_s h2 s1, fun H2 r s2 _ hT _ => ?_⟩
    obtain ⟨n6, l1, lr1, a, xs, rfl, ha, hR⟩ := tab_s h1 (s1.trans s2)
    obtain ⟨_, l2, lr2, _⟩ := h2
    obtain ⟨ys, hy0, hC⟩ := hT
    have lx : xs.length = n := by rw [(rows_at hR).1]; exact l1
    have lc : (colsQ n rss).length = n := by unfold colsQ; simp
    have ly : ys.length = n := by rw [rt_len hC]; exact lc
    have lcs : ∀ cs ∈ colsQ n rss, cs.length = n := fun cs hcs => by
      unfold colsQ at hcs
      obtain ⟨j, _, rfl⟩ := List.mem_map.mp hcs
      rw [List.length_map]
      exact l2
    have lt : (timesQ n qss rss).length = n := by unfold timesQ; rw [List.length_map]; exact l1
    refine ⟨_, rfl, a, xs, rfl, ha, fun it hit D hD => ?_⟩
    refine lc_sq hit (fun k G => Same H2 G ∧ ∃ acc, G D = some (.lst acc) ∧ RtRows D C G acc ((timesQ n qss rss).take k) ∧ NewL H2 acc) ⟨same_new hD, [], upd_same, by simp [RtRows], newl_nil⟩ (fun k G _ p => p.1) ?_ ?_
    · rintro k x G hx ⟨sG, acc, hacc, hP, hN⟩
      obtain ⟨z, hz, hrow⟩ := (rows_at hR).2 k x hx
      have hrow' := row_s hrow sG
      have hk := lt_of_at hx
      have lz := lr1 z (List.mem_of_getElem? hz)
      have hrw : (timesQ n qss rss)[k]? = some ((colsQ n rss).map fun cs => sumQ (prodsQ z cs)) := by unfold timesQ; rw [List.getElem?_map, hz]; rfl
      have fewk := rt_len hP
      have : ((timesQ n qss rss).take k).length ≤ 6 := by rw [List.length_take]; omega
      refine ⟨rfl, _, rfl, r, ys, rfl, .inl (sl_of (sG _ _ hy0)), fun it2 hit2 D2 hD2 => ?_⟩
      have nDD : D2 ≠ D := fun e => by rw [e, hacc] at hD2; cases hD2
      refine lc_sq hit2 (fun j G2 => Same G G2 ∧ ∃ ac, G2 D2 = some (.lst ac) ∧ RatsP C G2 ac (((colsQ n rss).map fun cs => sumQ (prodsQ z cs)).take j)) ⟨same_new hD2, [], upd_same, by simp [RatsP]⟩ (fun j G2 _ p => p.1) ?_ ?_
      · rintro j y G2 hy ⟨s3, ac, hac, hQ⟩
        obtain ⟨cs, b1, us, hcs, rfl, _, hus, hU⟩ := rt_at hC j y hy
        have mc := List.mem_of_getElem? hcs
        have mz := List.mem_of_getElem? hz
        obtain ⟨t1, t2⟩ := sp z mz cs mc
        have ss := sG.trans s3
        have fewj := (rats_at hQ).1
        have : (((colsQ n rss).map fun cs => sumQ (prodsQ z cs)).take j).length ≤ 6 := by rw [List.length_take, List.length_map]; omega
        refine ⟨rfl, _, rfl, _, rfl, x, b1, us, z, cs, rfl, row_s hrow' s3, sl_of (ss _ _ hus), rats_s ss hU, by rw [lz, lcs cs mc], by omega, sq z mz, sr cs mc, t1, t2, fun G3 p s4 hp => ?_⟩
        refine ⟨ac, s4 _ _ hac, szlt (by omega), same_mut (s3.trans s4) hD2, ac ++ [.ref p], upd_same, ?_⟩
        rw [take_at (x := sumQ (prodsQ z cs)) (by rw [List.getElem?_map, hcs]; rfl)]
        exact rats_but (s4 _ _ hac) smx_upd (rats_app (rats_s s4 hQ) ⟨⟨p, rfl, hp⟩, trivial⟩)
      · rintro G2 ⟨s3, ac, hac, hQ⟩
        rw [show ((colsQ n rss).map fun cs => sumQ (prodsQ z cs)).take ys.length = (colsQ n rss).map fun cs => sumQ (prodsQ z cs) from List.take_of_length_le (by rw [List.length_map]; omega)] at hQ
        refine ⟨acc, s3 _ _ hacc, szlt (by omega), same_mut (sG.trans s3) hD, acc ++ [.ref D2], upd_same, ?_, newl_put hN (sG.free hD2)⟩
        rw [take_at hrw]
        exact rt_but (s3 _ _ hacc) (rt_app (rt_s s3 hP) ⟨⟨D2, ac, rfl, nDD, hac, hQ⟩, trivial⟩)
    · rintro G ⟨sG, acc, hacc, hP, hN⟩
      rw [show (timesQ n qss rss).take xs.length = timesQ n qss rss from List.take_of_length_le (by omega)] at hP
      exact q G D ((s1.trans s2).trans sG) ((s1.trans s2).free hD) ⟨acc, hacc, hP⟩ ⟨acc, hacc, newl_le hN (s1.trans s2)⟩
end
end Tk

namespace ZpX
open PySem
/-! ## zip of any number of iterators -/
/-- an iterator: its cell, the cells that it reads, its items, its state -/
structure Zi where
  it : Nat
  fp : List Nat
  items : List Value
  St : Nat → Heap → Prop
abbrev Zi.D (j : Zi) (prog : Program) (w : World) (A : Around) : Prop := Draws prog w A j.it j.fp j.items.length (fun i v => j.items[i]? = some v) j.St
/-- the item at its place i -/
def Zi.at_ (i : Nat) (j : Zi) : Value := j.items[i]?.getD .none
/-- the cells lie apart -/
structure SepN (z TI TO : Nat) (L : List Zi) : Prop where
  TIz : TI ≠ z
  TOz : TO ≠ z
  TITO : TI ≠ TO
  TIi : ∀ j ∈ L, TI ≠ j.it
  mem : ∀ j ∈ L, j.it ∈ j.fp
  zf : ∀ j ∈ L, z ∉ j.fp
  Tf : ∀ j ∈ L, TO ∉ j.fp
  sep : L.Pairwise fun j k => j.it ∉ k.fp ∧ k.it ∉ j.fp
/-- a zip, its tuple handed out or not -/
abbrev IsZipG (h : Heap) (z TI TO : Addr) (f0 : Value) (f1 : Bool) : Prop :=
  h.get? z = some { cls := .type "zip", dict := none, data := .fields #[f0, .bool f1, .bool false, .ref TI, .ref TO], slots := #[] }
def Handed (f0 : Value) : Prop := f0 = .none ∨ ∃ T : Nat, f0 = rawInt (T : Int)
abbrev IsTupN (h : Heap) (T : Addr) (xs : List Value) : Prop := h.get? T = some { cls := .type "tuple", data := .seq xs.toArray }
section
variable {prog : Program} {w : World} {A : Around} {E : Value → Shared → Prop} {s : Shared} {z TI TO : Addr} {f1 : Bool} {f0 : Value} {L : List Zi} {i : Nat}
theorem SepN.zi (S : SepN z TI TO L) {j : Zi} (h : j ∈ L) : z ≠ j.it := fun e => S.zf j h (by rw [e]; exact S.mem j h)
theorem SepN.Ti (S : SepN z TI TO L) {j : Zi} (h : j ∈ L) : TO ≠ j.it := fun e => S.Tf j h (by rw [e]; exact S.mem j h)
theorem updateSeq_IsTupN {T : Addr} {xs : List Value} {x : Value} {k : Nat} {Q : Unit → Shared → Prop} (hT : IsTupN s.heap T xs) (hsz : xs.length ≤ sizeLine)
    (h : ∀ h', IsTupN h' T (xs.set k x) → Heap.SameBut T s.heap h' → Q () { s with heap := h' }) :
    wpAny (model prog w) A (updateSeq T (·.setIfInBounds k x)) Q E s := by
  refine wpAny_updateSeq hT rfl (h _ ?_ (Heap.SameBut.update ..)) (by simpa using hsz) (by simp; omega)
  show _ = _
  rw [Heap.get?_update_self _ hT rfl]
  simp [Obj.mapSeq]
/-- what stands while the iterators are asked: those in front have been -/
structure Mid (hp g : Heap) (z TI TO : Addr) (f1 : Bool) (L front back : List Zi) (i : Nat) (xs : List Value) : Prop where
  eq : L = front ++ back
  zip : IsZipG g z TI TO .ellipsis f1
  out : IsTupN g TO (front.map (Zi.at_ i) ++ xs.drop front.length)
  fr : ∀ j ∈ front, j.St (i + 1) g
  ba : ∀ j ∈ back, j.St i g
  size : g.objs.size = hp.objs.size
  keep : ∀ c o, c ≠ z → c ≠ TO → (∀ j ∈ L, c ≠ j.it) → hp.get? c = some o → g.get? c = some o
theorem SepN.off (S : SepN z TI TO L) {front back : List Zi} {j : Zi} (e : L = front ++ j :: back) : (∀ k ∈ front, j.it ∉ k.fp) ∧ ∀ k ∈ back, j.it ∉ k.fp := by
  have h := S.sep
  rw [e] at h
  obtain ⟨_, h2, h3⟩ := List.pairwise_append.mp h
  exact ⟨fun k hk => (h3 k hk j (by simp)).2, fun k hk => ((List.pairwise_cons.mp h2).1 k hk).1⟩
theorem mid_step {hp g p q : Heap} {front back : List Zi} {j : Zi} {xs : List Value} (S : SepN z TI TO L) (D : ∀ j ∈ L, j.D prog w A) (hl : xs.length = L.length) (M : Mid hp g z TI TO f1 L front (j :: back) i xs) (hj : j.St (i + 1) p) (h1 : Heap.SameBut j.it g p)
    (h2 : IsTupN q TO ((front.map (Zi.at_ i) ++ xs.drop front.length).set front.length (j.at_ i))) (h3 : Heap.SameBut TO p q) : Mid hp q z TI TO f1 L (front ++ [j]) back i xs := by
  obtain ⟨o1, o2⟩ := S.off M.eq
  have mj : j ∈ L := by rw [M.eq]; simp
  have mf : ∀ k ∈ front, k ∈ L := fun k hk => by rw [M.eq]; simp [hk]
  have mb : ∀ k ∈ back, k ∈ L := fun k hk => by rw [M.eq]; simp [hk]
  refine ⟨by rw [M.eq]; simp, ?_, ?_, ?_, ?_, ?_, ?_⟩
  · exact h3.extBut _ _ S.TOz.symm (h1.extBut _ _ (S.zi mj) M.zip)
  · have e : (front.map (Zi.at_ i) ++ xs.drop front.length).set front.length (j.at_ i) = (front ++ [j]).map (Zi.at_ i) ++ xs.drop (front ++ [j]).length := by
      have hlt : front.length < xs.length := by rw [hl, M.eq]; simp
      have hd : (xs.drop front.length).set 0 (j.at_ i) = j.at_ i :: xs.drop (front.length + 1) := by rw [List.drop_eq_getElem_cons hlt]; rfl
      rw [List.set_append_right _ _ (by simp)]
      simp [hd]
    rw [← e]
    exact h2
  · intro k hk
    rcases List.mem_append.mp hk with hk | hk
    · exact (D k (mf k hk)).over ((D k (mf k hk)).over (M.fr k hk) h1 (o1 k hk)) h3 (S.Tf k (mf k hk))
    · rw [List.mem_singleton.mp hk]
      exact (D j mj).over hj h3 (S.Tf j mj)
  · intro k hk
    exact (D k (mb k hk)).over ((D k (mb k hk)).over (M.ba k (List.mem_cons_of_mem _ hk)) h1 (o2 k hk)) h3 (S.Tf k (mb k hk))
  · rw [h3.1, h1.1, M.size]
  · intro c o cz cT cL e
    exact h3.extBut _ _ cT (h1.extBut _ _ (cL j mj) (M.keep c o cz cT cL e))
theorem midlen {hp q : Heap} {front back : List Zi} {xs : List Value} (hl : xs.length = L.length) (few : L.length ≤ sizeLine) (M : Mid hp q z TI TO f1 L front back i xs) : (front.map (Zi.at_ i) ++ xs.drop front.length).length ≤ sizeLine := by
  have : front.length ≤ L.length := by rw [M.eq]; simp
  rw [List.length_append, List.length_map, List.length_drop]
  omega
theorem alive_any {M : Model} {a : Addr} {Q : Option Obj → Shared → Prop} (h : Q (s.heap.get? a) s) : wpAny M A (loadIfAlive a) Q E s := by
  intro G p hG
  show Sem.wp M G (.loadIfAlive a .pure) _ _ _ _
  rw [Sem.wp_loadIfAlive]
  exact (wpAny_pure h : wpAny M A (pure (s.heap.get? a)) Q E s) G p hG
theorem wpAny_owned {Q : Bool → Shared → Prop} (hz : IsZipG s.heap z TI TO f0 f1) (hf : Handed f0) (h1 : Q true s) (h2 : ∀ (T : Nat) h', IsZipG h' z TI TO (rawInt (T : Int)) true → Heap.SameBut z s.heap h' → Q false { s with heap := h' }) :
    wpAny (model prog w) A (Builtin.SmallTypes.ownedTupleIsFree (.ref z)) Q E s := by
  unfold Builtin.SmallTypes.ownedTupleIsFree
  rcases hf with rfl | ⟨T, rfl⟩
  · exact wpAny_bind (wpAny_field hz rfl (x := .none) rfl (wpAny_pure h1))
  · refine wpAny_bind (wpAny_field hz rfl (x := rawInt (T : Int)) rfl ?_)
    show wpAny _ _ (loadIfAlive ((T : Int).toNat) >>= _) _ _ _
    rw [Int.toNat_natCast]
    refine wpAny_bind (alive_any ?_)
    cases hT : s.heap.get? T with
    | none =>
      simp only [Option.isNone_none, if_true]
      exact wpAny_pure h1
    | some oT =>
      simp only [Option.isNone_some, Bool.false_eq_true, if_false]
      refine wpAny_bind (wpAny_field hz rfl (x := .bool f1) rfl ?_)
      cases f1 with
      | true =>
        rw [if_neg (show ¬ ((Value.bool true != Value.bool true) = true) from Bool.false_ne_true)]
        exact wpAny_pure (h2 T s.heap hz (Heap.SameBut.refl _ _))
      | false =>
        rw [if_pos (show (Value.bool false != Value.bool true) = true from rfl)]
        exact wpAny_bind (wpAny_setField_rec hz (by simp) fun h₁ hz₁ hs₁ => wpAny_pure (h2 T h₁ hz₁ hs₁))
/-- what stands while the iterators are asked, the tuple being out -/
structure Mid2 (hp g : Heap) (z TI TO T : Addr) (L front back : List Zi) (i : Nat) : Prop where
  eq : L = front ++ back
  zip : IsZipG g z TI TO (rawInt (T : Int)) true
  fr : ∀ j ∈ front, j.St (i + 1) g
  ba : ∀ j ∈ back, j.St i g
  size : g.objs.size = hp.objs.size
  keep : ∀ c o, c ≠ z → (∀ j ∈ L, c ≠ j.it) → hp.get? c = some o → g.get? c = some o
theorem mid2_step {hp g p : Heap} {T : Addr} {front back : List Zi} {j : Zi} (S : SepN z TI TO L) (D : ∀ j ∈ L, j.D prog w A) (M : Mid2 hp g z TI TO T L front (j :: back) i) (hj : j.St (i + 1) p) (h1 : Heap.SameBut j.it g p) : Mid2 hp p z TI TO T L (front ++ [j]) back i := by
  obtain ⟨o1, o2⟩ := S.off M.eq
  have mj : j ∈ L := by rw [M.eq]; simp
  have mf : ∀ k ∈ front, k ∈ L := fun k hk => by rw [M.eq]; simp [hk]
  have mb : ∀ k ∈ back, k ∈ L := fun k hk => by rw [M.eq]; simp [hk]
  refine ⟨by rw [M.eq]; simp, ?_, ?_, ?_, ?_, ?_⟩
  · exact h1.extBut _ _ (S.zi mj) M.zip
  · intro k hk
    rcases List.mem_append.mp hk with hk | hk
    · exact (D k (mf k hk)).over (M.fr k hk) h1 (o1 k hk)
    · rw [List.mem_singleton.mp hk]
      exact hj
  · intro k hk
    exact (D k (mb k hk)).over (M.ba k (List.mem_cons_of_mem _ hk)) h1 (o2 k hk)
  · rw [h1.1, M.size]
  · intro c o cz cL e
    exact h1.extBut _ _ (cL j mj) (M.keep c o cz cL e)
theorem zipN_next_item {xs : List Value} {Q : Value → Shared → Prop} (S : SepN z TI TO L) (D : ∀ j ∈ L, j.D prog w A) (ne : L ≠ [])
    (hz : IsZipG s.heap z TI TO f0 f1) (hf : Handed f0) (hTI : IsTupN s.heap TI (L.map fun j => .ref j.it)) (hTO : IsTupN s.heap TO xs) (hl : xs.length = L.length) (few : L.length ≤ sizeLine) (st : ∀ j ∈ L, j.St i s.heap) (hlt : ∀ j ∈ L, i < j.items.length)
    (hQ : ∀ h' tk (T : Nat) f' ys, IsZipG h' z TI TO (rawInt (T : Int)) f' → IsTupN h' TO ys → ys.length = L.length → (∀ j ∈ L, j.St (i + 1) h') → IsTupN h' s.heap.objs.size (L.map (Zi.at_ i)) → h'.objs.size = s.heap.objs.size + 1 →
      (∀ c o, c ≠ z → c ≠ TO → (∀ j ∈ L, c ≠ j.it) → s.heap.get? c = some o → h'.get? c = some o) → Q (.ref s.heap.objs.size) { s with heap := h', toks := tk }) :
    wpAny (model prog w) A (Builtin.«zip.__next__» ⟨[.ref z], []⟩) (fun fin s' => ∃ v, fin = .done (.ret v) ∧ Q v s') E s := by
  obtain ⟨hp, g, d, tk0, os⟩ := s
  show wpAny _ _ (field (.ref z) 2 >>= _) _ _ _
  refine wpAny_bind (wpAny_field hz rfl (x := .bool false) rfl ?_)
  show wpAny _ _ (field (.ref z) 3 >>= _) _ _ _
  refine wpAny_bind (wpAny_field hz rfl (x := .ref TI) rfl ?_)
  refine wpAny_bind (wpAny_seqItems hTI rfl ?_)
  have hem : ((L.map fun j => Value.ref j.it).toArray.isEmpty) = false := by
    cases L with
    | nil => exact absurd rfl ne
    | cons j L => rfl
  simp only [hem]
  show wpAny _ _ (Builtin.SmallTypes.ownedTupleIsFree (.ref z) >>= _) _ _ _
  refine wpAny_bind (wpAny_owned hz hf ?_ fun T h₁ hz₁ hs₁ => ?_)
  · simp only [if_true]
    refine wpAny_bind (wpAny_rule ?_)
    refine wpAny_bind (wpAny_field hz rfl (x := .ref TO) rfl ?_)
    refine wpAny_bind (wpAny_setField_rec hz (by simp) fun g0 hz0 hs0 => ?_)
    replace hz0 : IsZipG g0 z TI TO .ellipsis f1 := hz0
    replace hs0 : Heap.SameBut z hp g0 := hs0
    refine wpAny_bind ?_
    have M0 : Mid hp g0 z TI TO f1 L [] L i xs :=
      ⟨rfl, hz0, by simpa using hs0.extBut _ _ S.TOz hTO, fun j hj => by simp at hj, fun j hj => (D j hj).over (st j hj) hs0 (S.zf j hj), hs0.1, fun c o cz cT cL e => hs0.extBut _ _ cz e⟩
    refine wpAny_forIn_list _ (fun rest r s' => r.1 = none ∧ ∃ (front back : List Zi) (q : Heap) (tk : Tok), rest = (back.map fun j => Value.ref j.it).zipIdx front.length ∧ s' = ⟨q, g, d, tk, os⟩ ∧ Mid hp q z TI TO f1 L front back i xs) _ ?_ ?_ _ _ ⟨rfl, [], L, g0, tk0, by simp, rfl, M0⟩
    · rintro x rest r s' ⟨hr, front, back, q, tk, e, rfl, M⟩
      cases back with
      | nil => simp at e
      | cons j back =>
        rw [List.map_cons, List.zipIdx_cons] at e
        injection e with e1 e2
        subst e1 e2
        have mj : j ∈ L := by rw [M.eq]; simp
        refine wpAny_bind (wpAny_onRaise ?_)
        show wpAny _ _ (Builtin.SmallTypes.nextOf (.ref j.it) >>= _) _ _ ⟨q, g, d, tk, os⟩
        refine wpAny_bind ((D j mj).item i _ _ _ (hlt j mj) (M.ba j (by simp)) fun x1 p1 tk1 hx1 sn1 hp1 => wpAny_pure ?_)
        replace hp1 : Heap.SameBut j.it q p1 := hp1
        have hU1 : IsTupN p1 TO (front.map (Zi.at_ i) ++ xs.drop front.length) := hp1.extBut _ _ (S.Ti mj) M.out
        have ax : x1 = j.at_ i := by unfold Zi.at_; rw [hx1]; rfl
        subst ax
        refine wpAny_bind (wpAny_seqItems (s := ⟨p1, g, d, tk1, os⟩) hU1 rfl ?_)
        refine wpAny_bind (updateSeq_IsTupN (s := ⟨p1, g, d, tk1, os⟩) hU1 (midlen hl few M) fun g1 hT1 hs1 => ?_)
        refine wpAny_bind (wpAny_letGo (wpAny_pure ?_))
        exact ⟨rfl, front ++ [j], back, g1, tk1, by simp, rfl, mid_step S D hl M sn1 hp1 hT1 hs1⟩
    · rintro r s' ⟨hr, front, back, q, tk, e, rfl, M⟩
      cases back with
      | cons j back => simp at e
      | nil =>
        have eL : front = L := by have := M.eq; simpa using this.symm
        subst eL
        obtain ⟨r1, r2⟩ := r
        simp only at hr
        subst hr
        have hT2 : IsTupN q TO (front.map (Zi.at_ i)) := by have := M.out; rw [List.drop_of_length_le (by omega), List.append_nil] at this; exact this
        show wpAny _ _ (seqItems? (.ref TO) >>= _) _ _ _
        refine wpAny_bind (wpAny_seqItems (s := ⟨q, g, d, tk, os⟩) hT2 rfl ?_)
        refine wpAny_bind (wpAny_newTuple ?_ (by simpa using few))
        have hzlt : z < q.objs.size := Heap.lt_size M.zip
        simp only [List.toList_toArray]
        show wpAny _ _ (Builtin.SmallTypes.ownedTupleHandOut (.ref z) (.ref q.objs.size) >>= _) _ _ ⟨q.push { cls := .type "tuple", data := .seq (front.map (Zi.at_ i)).toArray }, g, d, tk, os⟩
        refine wpAny_bind ?_
        unfold Builtin.SmallTypes.ownedTupleHandOut
        have hz₆ : IsZipG (q.push { cls := .type "tuple", data := .seq (front.map (Zi.at_ i)).toArray }) z TI TO .ellipsis f1 := Heap.get?_push_of_some _ M.zip
        refine wpAny_bind (wpAny_setField_rec hz₆ (by simp) fun h₇ hz₇ hs₇ => ?_)
        replace hz₇ : IsZipG h₇ z TI TO (rawInt (q.objs.size : Int)) f1 := hz₇
        refine wpAny_setField_rec hz₇ (by simp) fun h₈ hz₈ hs₈ => ?_
        replace hz₈ : IsZipG h₈ z TI TO (rawInt (q.objs.size : Int)) false := hz₈
        replace hs₇ : Heap.SameBut z (q.push { cls := .type "tuple", data := .seq (front.map (Zi.at_ i)).toArray }) h₇ := hs₇
        replace hs₈ : Heap.SameBut z h₇ h₈ := hs₈
        have up : ∀ c o, c ≠ z → q.get? c = some o → h₈.get? c = some o := fun c o c1 e => hs₈.extBut _ _ c1 (hs₇.extBut _ _ c1 (Heap.get?_push_of_some _ e))
        have hT₈ : IsTupN h₈ q.objs.size (front.map (Zi.at_ i)) := hs₈.extBut _ _ (Nat.ne_of_gt hzlt) (hs₇.extBut _ _ (Nat.ne_of_gt hzlt) (Heap.get?_push_size _ rfl))
        have hz8 : h₈.objs.size = q.objs.size + 1 := by rw [hs₈.1, hs₇.1, Heap.size_push]
        have hsz := M.size
        rw [hsz] at hz₈ hT₈ hz8
        refine wpAny_pure ⟨_, rfl, ?_⟩
        show Q (.ref q.objs.size) ⟨h₈, g, d, tk, os⟩
        rw [hsz]
        exact hQ h₈ tk _ _ _ hz₈ (up _ _ S.TOz hT2) (by simp) (fun j hj => (D j hj).frame _ _ _ (M.fr j hj) fun b hb o e => up b o (fun e2 => S.zf j hj (e2 ▸ hb)) e) hT₈ hz8 fun c o cz cT cL e => up c o cz (M.keep c o cz cT cL e)
  · simp only [Bool.false_eq_true, if_false]
    replace hs₁ : Heap.SameBut z hp h₁ := hs₁
    refine wpAny_bind ?_
    rw [← Array.forIn_toList]
    have M0 : Mid2 hp h₁ z TI TO T L [] L i :=
      ⟨rfl, hz₁, fun j hj => by simp at hj, fun j hj => (D j hj).over (st j hj) hs₁ (S.zf j hj), hs₁.1, fun c o cz cL e => hs₁.extBut _ _ cz e⟩
    refine wpAny_forIn_list _ (fun rest r s' => r.1 = none ∧ ∃ (front back : List Zi) (q : Heap) (tk : Tok), rest = (back.map fun j => Value.ref j.it) ∧ s' = ⟨q, g, d, tk, os⟩ ∧ r.2.toList = front.map (Zi.at_ i) ∧ Mid2 hp q z TI TO T L front back i) _ ?_ ?_ _ _ ⟨rfl, [], L, h₁, tk0, by simp, rfl, rfl, M0⟩
    · rintro x rest ⟨r1, r2⟩ s' ⟨hr, front, back, q, tk, e, rfl, er, M⟩
      simp only at hr
      subst hr
      cases back with
      | nil => simp at e
      | cons j back =>
        rw [List.map_cons] at e
        injection e with e1 e2
        subst e1 e2
        have mj : j ∈ L := by rw [M.eq]; simp
        refine wpAny_bind (wpAny_holding ?_)
        show wpAny _ _ (Builtin.SmallTypes.nextOf (.ref j.it) >>= _) _ _ ⟨q, g, d, tk, os⟩
        refine wpAny_bind ((D j mj).item i _ _ _ (hlt j mj) (M.ba j (by simp)) fun x1 p1 tk1 hx1 sn1 hp1 => wpAny_pure ?_)
        replace hp1 : Heap.SameBut j.it q p1 := hp1
        have ax : x1 = j.at_ i := by unfold Zi.at_; rw [hx1]; rfl
        subst ax
        refine wpAny_pure ?_
        exact ⟨rfl, front ++ [j], back, p1, tk1, rfl, rfl, by simp at er ⊢; exact er, mid2_step S D M sn1 hp1⟩
    · rintro ⟨r1, r2⟩ s' ⟨hr, front, back, q, tk, e, rfl, er, M⟩
      simp only at hr
      subst hr
      cases back with
      | cons j back => simp at e
      | nil =>
        have eL : front = L := by have := M.eq; simpa using this.symm
        subst eL
        show wpAny _ _ (newTuple r2.toList >>= _) _ _ _
        simp only at er
        rw [er]
        refine wpAny_bind (wpAny_newTuple ?_ (by simpa using few))
        refine wpAny_pure ⟨_, rfl, ?_⟩
        have hsz := M.size
        show Q (.ref q.objs.size) ⟨q.push { cls := .type "tuple", data := .seq (front.map (Zi.at_ i)).toArray }, g, d, tk, os⟩
        have hT₈ : IsTupN (q.push { cls := .type "tuple", data := .seq (front.map (Zi.at_ i)).toArray }) q.objs.size (front.map (Zi.at_ i)) := Heap.get?_push_size _ rfl
        have hz8 : (q.push { cls := .type "tuple", data := .seq (front.map (Zi.at_ i)).toArray }).objs.size = q.objs.size + 1 := Heap.size_push ..
        rw [hsz] at hT₈ hz8 ⊢
        have up : ∀ c o, q.get? c = some o → (q.push { cls := .type "tuple", data := .seq (front.map (Zi.at_ i)).toArray }).get? c = some o := fun c o e => Heap.get?_push_of_some _ e
        refine hQ _ tk T true xs (up _ _ M.zip) (up _ _ (M.keep TO _ S.TOz (fun j hj => S.Ti hj) hTO)) hl (fun j hj => (D j hj).frame _ _ _ (M.fr j hj) fun b hb o e => up b o e) hT₈ hz8 fun c o cz cT cL e => up c o (M.keep c o cz cL e)
theorem zipN_next_end {xs : List Value} {Q : Fin → Shared → Prop} (S : SepN z TI TO L) (D : ∀ j ∈ L, j.D prog w A) {j0 : Zi} {L0 : List Zi} (eL : L = j0 :: L0)
    (hz : IsZipG s.heap z TI TO f0 f1) (hf : Handed f0) (hTI : IsTupN s.heap TI (L.map fun j => .ref j.it)) (hTO : IsTupN s.heap TO xs) (st : ∀ j ∈ L, j.St i s.heap) (hend : i = j0.items.length)
    (hE : ∀ h' tk e, (∀ c o, c ≠ z → c ≠ TO → (∀ j ∈ L, c ≠ j.it) → s.heap.get? c = some o → h'.get? c = some o) → (∃ o, h'.get? e = some o ∧ o.cls = .type "StopIteration") → E (.ref e) { s with heap := h', toks := tk }) :
    wpAny (model prog w) A (Builtin.«zip.__next__» ⟨[.ref z], []⟩) Q E s := by
  obtain ⟨hp, g, d, tk0, os⟩ := s
  have m0 : j0 ∈ L := by rw [eL]; simp
  show wpAny _ _ (field (.ref z) 2 >>= _) _ _ _
  refine wpAny_bind (wpAny_field hz rfl (x := .bool false) rfl ?_)
  show wpAny _ _ (field (.ref z) 3 >>= _) _ _ _
  refine wpAny_bind (wpAny_field hz rfl (x := .ref TI) rfl ?_)
  refine wpAny_bind (wpAny_seqItems hTI rfl ?_)
  have hem : ((L.map fun j => Value.ref j.it).toArray.isEmpty) = false := by rw [eL]; rfl
  simp only [hem]
  show wpAny _ _ (Builtin.SmallTypes.ownedTupleIsFree (.ref z) >>= _) _ _ _
  refine wpAny_bind (wpAny_owned hz hf ?_ fun T h₁ hz₁ hs₁ => ?_)
  · simp only [if_true]
    refine wpAny_bind (wpAny_rule ?_)
    refine wpAny_bind (wpAny_field hz rfl (x := .ref TO) rfl ?_)
    refine wpAny_bind (wpAny_setField_rec hz (by simp) fun g0 hz0 hs0 => ?_)
    replace hz0 : IsZipG g0 z TI TO .ellipsis f1 := hz0
    replace hs0 : Heap.SameBut z hp g0 := hs0
    refine wpAny_bind ?_
    have eT : (L.map fun j => Value.ref j.it).toArray.toList.zipIdx = (Value.ref j0.it, 0) :: (L0.map fun j => Value.ref j.it).zipIdx 1 := by rw [eL]; simp
    rw [eT, List.forIn_cons]
    refine wpAny_bind (wpAny_bind (wpAny_onRaise ?_))
    show wpAny _ _ (Builtin.SmallTypes.nextOf (.ref j0.it) >>= _) _ _ ⟨g0, g, d, tk0, os⟩
    refine wpAny_bind ((D j0 m0).done ⟨g0, g, d, tk0, os⟩ _ _ (by rw [← hend]; exact (D j0 m0).over (st j0 m0) hs0 (S.zf j0 m0)) fun q e hq he => ?_)
    replace hq : Heap.ExtBut j0.it g0 q := hq
    obtain ⟨oe, hoe, hce⟩ := he
    replace hoe : q.get? e = some oe := hoe
    have hzq : IsZipG q z TI TO .ellipsis f1 := hq _ _ (S.zi m0) hz0
    have hez : e ≠ z := fun x => by subst x; rw [hzq] at hoe; cases hoe; simp at hce
    refine wpAny_setField_rec (s := ⟨q, g, d, tk0, os⟩) hzq (by simp) fun q' _ hq' => ?_
    replace hq' : Heap.SameBut z q q' := hq'
    exact hE q' tk0 e (fun c o cz cT cL x => hq'.extBut _ _ cz (hq _ _ (cL j0 m0) (hs0.extBut _ _ cz x))) ⟨oe, hq'.extBut _ _ hez hoe, hce⟩
  · simp only [Bool.false_eq_true, if_false]
    replace hs₁ : Heap.SameBut z hp h₁ := hs₁
    refine wpAny_bind ?_
    have eT : (L.map fun j => Value.ref j.it).toArray.toList = Value.ref j0.it :: (L0.map fun j => Value.ref j.it) := by rw [eL]; simp
    rw [← Array.forIn_toList, eT, List.forIn_cons]
    refine wpAny_bind (wpAny_bind (wpAny_holding ?_))
    show wpAny _ _ (Builtin.SmallTypes.nextOf (.ref j0.it) >>= _) _ _ ⟨h₁, g, d, tk0, os⟩
    refine wpAny_bind ((D j0 m0).done ⟨h₁, g, d, tk0, os⟩ _ _ (by rw [← hend]; exact (D j0 m0).over (st j0 m0) hs₁ (S.zf j0 m0)) fun q e hq he => ?_)
    replace hq : Heap.ExtBut j0.it h₁ q := hq
    exact hE q tk0 e (fun c o cz cT cL x => hq _ _ (cL j0 m0) (hs₁.extBut _ _ cz x)) he
/-- without any -/
theorem zipN_next_none {Q : Fin → Shared → Prop} (hh : A.handled = none) (hz : IsZipG s.heap z TI TO f0 f1) (hTI : IsTupN s.heap TI [])
    (hE : ∀ h' tk e, (∀ c o, s.heap.get? c = some o → h'.get? c = some o) → (∃ o, h'.get? e = some o ∧ o.cls = .type "StopIteration") → E (.ref e) { s with heap := h', toks := tk }) :
    wpAny (model prog w) A (Builtin.«zip.__next__» ⟨[.ref z], []⟩) Q E s := by
  obtain ⟨hp, g, d, tk0, os⟩ := s
  show wpAny _ _ (field (.ref z) 2 >>= _) _ _ _
  refine wpAny_bind (wpAny_field hz rfl (x := .bool false) rfl ?_)
  show wpAny _ _ (field (.ref z) 3 >>= _) _ _ _
  refine wpAny_bind (wpAny_field hz rfl (x := .ref TI) rfl ?_)
  refine wpAny_bind (wpAny_seqItems hTI rfl ?_)
  have hem : (([] : List Value).toArray.isEmpty) = true := rfl
  simp only [hem]
  refine wpAny_bind (wpAny_rule ?_)
  refine wpAny_bind ?_
  unfold Builtin.SmallTypes.stopIteration
  show wpAny _ _ (newExc (.type "StopIteration") [] >>= _) _ _ _
  refine wpAny_bind ?_
  simp only [newExc, newTuple]
  refine wpAny_bind (wpAny_newObj_type ?_ (by size_fits))
  refine wpAny_bind (m := firstArgMember _ _) (wpAny_of_eq (a := Value.none) (by first | rfl | (simp only [firstArgMember]; rfl)) ?_)
  refine wpAny_newObj_type ?_ (by size_fits)
  simp only [raiseNew]
  refine wpAny_bind (wpAny_handled ?_)
  first | rw [show A.in1.handled = none from hh] | rw [hh]
  refine wpAny_bind (wpAny_pure (wpAny_throw ?_))
  exact hE _ _ _ (fun c o e => Heap.get?_push_of_some _ (Heap.get?_push_of_some _ e)) ⟨_, Heap.get?_push_size _ rfl, rfl⟩
theorem pyNext_zipN_item {xs : List Value} {Q : Option Value → Shared → Prop} (S : SepN z TI TO L) (D : ∀ j ∈ L, j.D prog w A.in1) (ne : L ≠ [])
    (hz : IsZipG s.heap z TI TO f0 f1) (hf : Handed f0) (hTI : IsTupN s.heap TI (L.map fun j => .ref j.it)) (hTO : IsTupN s.heap TO xs) (hl : xs.length = L.length) (few : L.length ≤ sizeLine) (st : ∀ j ∈ L, j.St i s.heap) (hlt : ∀ j ∈ L, i < j.items.length)
    (hQ : ∀ h' tk (T : Nat) f' ys, IsZipG h' z TI TO (rawInt (T : Int)) f' → IsTupN h' TO ys → ys.length = L.length → (∀ j ∈ L, j.St (i + 1) h') → IsTupN h' s.heap.objs.size (L.map (Zi.at_ i)) → h'.objs.size = s.heap.objs.size + 1 →
      (∀ c o, c ≠ z → c ≠ TO → (∀ j ∈ L, c ≠ j.it) → s.heap.get? c = some o → h'.get? c = some o) → Q (some (.ref s.heap.objs.size)) { s with heap := h', toks := tk }) :
    wpAny (model prog w) A (pyNext (.ref z)) Q E s := by
  have hT : s.TypeIs (.ref z) "zip" := ⟨_, hz, rfl⟩
  unfold pyNext
  exact wpAny_bind (wpAny_attempt (wpAny_callSpecial?_slot (name := Str.ofString "__next__") hT F.slot_zip_next
    (wpAny_call_entry F.slot_zip_next hT F.entry_zip_next
      (zipN_next_item S D ne hz hf hTI hTO hl few st hlt fun h' tk T f' ys b1 b2 b3 d1 b5 b6 b7 => wpAny_pure (hQ h' tk T f' ys b1 b2 b3 d1 b5 b6 b7)) (F.args_zip_next_1 _))))
theorem pyNext_zipN_end {xs : List Value} {Q : Option Value → Shared → Prop} (hh : A.in1.handled = none) (S : SepN z TI TO L) (D : ∀ j ∈ L, j.D prog w A.in1)
    (hz : IsZipG s.heap z TI TO f0 f1) (hf : Handed f0) (hTI : IsTupN s.heap TI (L.map fun j => .ref j.it)) (hTO : IsTupN s.heap TO xs) (st : ∀ j ∈ L, j.St i s.heap) (hend : ∀ j ∈ L, i = j.items.length)
    (hQ : ∀ h' tk, (∀ c o, c ≠ z → c ≠ TO → (∀ j ∈ L, c ≠ j.it) → s.heap.get? c = some o → h'.get? c = some o) → Q none { s with heap := h', toks := tk }) : wpAny (model prog w) A (pyNext (.ref z)) Q E s := by
  have hT : s.TypeIs (.ref z) "zip" := ⟨_, hz, rfl⟩
  unfold pyNext
  have go : ∀ {Q1 : Fin → Shared → Prop} {E1 : Value → Shared → Prop}, (∀ h' tk e, (∀ c o, c ≠ z → c ≠ TO → (∀ j ∈ L, c ≠ j.it) → s.heap.get? c = some o → h'.get? c = some o) → (∃ o, h'.get? e = some o ∧ o.cls = .type "StopIteration") → E1 (.ref e) { s with heap := h', toks := tk }) →
      wpAny (model prog w) A.in1 (Builtin.«zip.__next__» ⟨[.ref z], []⟩) Q1 E1 s := fun {Q1 E1} hE => by
    cases hL : L with
    | nil =>
      rw [hL] at hTI
      exact zipN_next_none hh hz hTI fun h' tk e k he => hE h' tk e (fun c o _ _ _ x => k c o x) he
    | cons j0 L0 => exact zipN_next_end S D hL hz hf hTI hTO st (hend j0 (by rw [hL]; simp)) hE
  refine wpAny_bind (wpAny_attempt (wpAny_callSpecial?_slot (name := Str.ofString "__next__") hT F.slot_zip_next
    (wpAny_call_entry F.slot_zip_next hT F.entry_zip_next (go fun h' tk e hk he => ?_) (F.args_zip_next_1 _))))
  obtain ⟨o, ho, hc⟩ := he
  refine wpAny_bind (wpAny_isInstance (T := "StopIteration") (b := true) ⟨o, ho, hc⟩ isSubtype_stop ?_)
  exact wpAny_pure (hQ _ _ hk)
end
/-! ### zip(*vs) begins -/
theorem F.typeCall_zip_N (l : List Value) : checkTypeCall "zip" ⟨l, []⟩ = pure () := by kernel_rfl
theorem F.newCall_zip_N : ∀ (l : List Value), l.length ≤ 12 → checkBuiltinCall "zip.__new__" ⟨.type "zip" :: l, []⟩ = pure ()
  | [], _ => by kernel_rfl
  | [a0], _ => by kernel_rfl
  | [a0, a1], _ => by kernel_rfl
  | [a0, a1, a2], _ => by kernel_rfl
  | [a0, a1, a2, a3], _ => by kernel_rfl
  | [a0, a1, a2, a3, a4], _ => by kernel_rfl
  | [a0, a1, a2, a3, a4, a5], _ => by kernel_rfl
  | [a0, a1, a2, a3, a4, a5, a6], _ => by kernel_rfl
  | [a0, a1, a2, a3, a4, a5, a6, a7], _ => by kernel_rfl
  | [a0, a1, a2, a3, a4, a5, a6, a7, a8], _ => by kernel_rfl
  | [a0, a1, a2, a3, a4, a5, a6, a7, a8, a9], _ => by kernel_rfl
  | [a0, a1, a2, a3, a4, a5, a6, a7, a8, a9, a10], _ => by kernel_rfl
  | [a0, a1, a2, a3, a4, a5, a6, a7, a8, a9, a10, a11], _ => by kernel_rfl
  | _ :: _ :: _ :: _ :: _ :: _ :: _ :: _ :: _ :: _ :: _ :: _ :: _ :: _, h => by simp only [List.length_cons] at h; omega
theorem F.args_object_init_N (obj : Value) (l : List Value) : argsOk "object.__init__" ⟨obj :: l, []⟩ := by unfold argsOk; kernel_rfl
end ZpX

namespace ZpX
open PySem PySem.Spec PyProof.Rows L2 ZmX
/-! ## for x in zip(*ls): each of ls a list or a tuple -/
def SqN (K : PySem.W.Frag) (H : Hp) : List (Bool × Nat) → List (List V) → Prop
  | [], [] => True
  | p :: ls, xs :: xss => SqB p.1 K H p.2 xs ∧ SqN K H ls xss
  | _, _ => False
def SeN (h : Heap) : List (Bool × Nat) → List (List Value) → Prop
  | [], [] => True
  | p :: ls, vs :: vss => SeB p.1 h p.2 vs.toArray ∧ SeN h ls vss
  | _, _ => False
def ValsN : List (List V) → List (List Value) → Prop
  | [], [] => True
  | xs :: xss, vs :: vss => Vals xs vs ∧ ValsN xss vss
  | _, _ => False
def ItN (h : Heap) (i : Nat) : Nat → List (Bool × Nat) → Prop
  | _, [] => True
  | n, p :: ls => ItB p.1 h n p.2 i ∧ ItN h i (n + 1) ls
def mkL : Nat → List (Bool × Nat) → List (List Value) → List Zi
  | n, p :: ls, vs :: vss => ⟨n, [n, p.2], vs, fun i h => ItB p.1 h n p.2 i ∧ SeB p.1 h p.2 vs.toArray⟩ :: mkL (n + 1) ls vss
  | _, _, _ => []
def colV (i : Nat) (xss : List (List V)) : List V := xss.map fun xs => xs[i]?.getD .non
theorem sqN_s {K : PySem.W.Frag} {H H' : Hp} (e : Same H H') : ∀ {ls : List (Bool × Nat)} {xss : List (List V)}, SqN K H ls xss → SqN K H' ls xss
  | [], [], _ => trivial
  | _ :: _, _ :: _, ⟨h1, h⟩ => ⟨sqB_s e h1, sqN_s e h⟩
  | [], _ :: _, h => h.elim
  | _ :: _, [], h => h.elim
theorem sqN_len {K : PySem.W.Frag} {H : Hp} : ∀ {ls : List (Bool × Nat)} {xss : List (List V)}, SqN K H ls xss → ls.length = xss.length
  | [], [], _ => rfl
  | _ :: _, _ :: _, ⟨_, h⟩ => by rw [List.length_cons, List.length_cons, sqN_len h]
  | [], _ :: _, h => h.elim
  | _ :: _, [], h => h.elim
theorem mk_it {m : Nat} : ∀ {n : Nat} {ls : List (Bool × Nat)} {vss : List (List Value)} {h : Heap}, SeN h ls vss → m ≤ n → (∀ p ∈ ls, p.2 < m) →
    (mkL n ls vss).map (fun j => Value.ref j.it) = (List.range' n ls.length).map Value.ref ∧ (mkL n ls vss).length = ls.length ∧
    (∀ j ∈ mkL n ls vss, n ≤ j.it ∧ j.it < n + ls.length ∧ j.items ∈ vss ∧ ∃ l, j.fp = [j.it, l] ∧ l < m) ∧ (mkL n ls vss).Pairwise (fun j k => j.it ∉ k.fp ∧ k.it ∉ j.fp)
  | n, [], [], _, _, _, _ => ⟨rfl, rfl, fun j hj => by simp [mkL] at hj, List.Pairwise.nil⟩
  | n, p :: ls, vs :: vss, _, ⟨_, hs⟩, hn, hl => by
    obtain ⟨e1, e2, e3, e4⟩ := mk_it (m := m) (n := n + 1) hs (by omega) (fun q hq => hl q (List.mem_cons_of_mem _ hq))
    have h0 := hl p (by simp)
    refine ⟨?_, ?_, ?_, ?_⟩
    · simp only [mkL, List.map_cons, List.length_cons, List.range'_succ, e1]
    · simp only [mkL, List.length_cons, e2]
    · intro j hj
      simp only [mkL, List.mem_cons] at hj
      rcases hj with rfl | hj
      · exact ⟨Nat.le_refl _, by simp, by simp, p.2, rfl, h0⟩
      · obtain ⟨a1, a2, a3, a4⟩ := e3 j hj
        exact ⟨by omega, by simp only [List.length_cons]; omega, List.mem_cons_of_mem _ a3, a4⟩
    · simp only [mkL]
      refine List.pairwise_cons.mpr ⟨fun k hk => ?_, e4⟩
      obtain ⟨a1, a2, a3, l, a4, a5⟩ := e3 k hk
      rw [a4]
      simp
      omega
  | _, [], _ :: _, _, h, _, _ => h.elim
  | _, _ :: _, [], _, h, _, _ => h.elim
theorem mk_D {prog : Program} {w : World} {A : Around} (hh : A.handled = none) {m : Nat} : ∀ {n : Nat} {ls : List (Bool × Nat)} {vss : List (List Value)}, m ≤ n → (∀ p ∈ ls, p.2 < m) → ∀ j ∈ mkL n ls vss, j.D prog w A
  | n, [], _, _, _, j, hj => by simp [mkL] at hj
  | n, _ :: _, [], _, _, j, hj => by simp [mkL] at hj
  | n, p :: ls, vs :: vss, hn, hl, j, hj => by
    simp only [mkL, List.mem_cons] at hj
    rcases hj with rfl | hj
    · have := drawB (prog := prog) (w := w) hh p.1 n p.2 (Nat.ne_of_lt (Nat.lt_of_lt_of_le (hl p (by simp)) hn)) vs.toArray
      show Draws prog w A n [n, p.2] vs.length (fun i v => vs[i]? = some v) _
      simpa using this
    · exact mk_D hh (m := m) (by omega) (fun q hq => hl q (List.mem_cons_of_mem _ hq)) j hj
theorem mk_st {h : Heap} {i : Nat} : ∀ {n : Nat} {ls : List (Bool × Nat)} {vss : List (List Value)}, ItN h i n ls → SeN h ls vss → ∀ j ∈ mkL n ls vss, j.St i h
  | n, [], _, _, _, j, hj => by simp [mkL] at hj
  | n, _ :: _, [], _, _, j, hj => by simp [mkL] at hj
  | n, p :: ls, vs :: vss, ⟨h1, h2⟩, ⟨g1, g2⟩, j, hj => by
    simp only [mkL, List.mem_cons] at hj
    rcases hj with rfl | hj
    · exact ⟨h1, g1⟩
    · exact mk_st h2 g2 j hj
theorem st_mk {h h0 : Heap} {i : Nat} : ∀ {n : Nat} {ls : List (Bool × Nat)} {vss : List (List Value)}, SeN h0 ls vss → (∀ j ∈ mkL n ls vss, j.St i h) → ItN h i n ls
  | n, [], _, _, _ => trivial
  | n, _ :: _, [], g, _ => g.elim
  | n, p :: ls, vs :: vss, ⟨_, g⟩, k => ⟨(show ItB p.1 h n p.2 i ∧ SeB p.1 h p.2 vs.toArray from k ⟨n, [n, p.2], vs, fun i h => ItB p.1 h n p.2 i ∧ SeB p.1 h p.2 vs.toArray⟩ (by simp only [mkL]; exact List.mem_cons_self)).1, st_mk g fun j hj => k j (by simp only [mkL]; exact List.mem_cons_of_mem _ hj)⟩
theorem mk_at {h : Heap} {i : Nat} : ∀ {n : Nat} {ls : List (Bool × Nat)} {vss : List (List Value)}, SeN h ls vss → (mkL n ls vss).map (Zi.at_ i) = vss.map fun vs => vs[i]?.getD .none
  | n, [], [], _ => rfl
  | n, p :: ls, vs :: vss, ⟨_, g⟩ => by simp only [mkL, List.map_cons, mk_at g]; rfl
  | n, [], _ :: _, g => g.elim
  | n, _ :: _, [], g => g.elim
theorem col_vals {i : Nat} : ∀ {xss : List (List V)} {vss : List (List Value)}, ValsN xss vss → (∀ xs ∈ xss, i < xs.length) → Vals (colV i xss) (vss.map fun vs => vs[i]?.getD .none)
  | [], [], _, _ => .nil
  | xs :: xss, vs :: vss, ⟨h1, h⟩, hl => by
    have hi := hl xs (by simp)
    obtain ⟨u, e, r⟩ := h1.get (List.getElem?_eq_getElem hi)
    show Vals ((xs[i]?.getD .non) :: colV i xss) ((vs[i]?.getD .none) :: _)
    rw [e, List.getElem?_eq_getElem hi]
    exact .cons r (col_vals h fun ys hy => hl ys (List.mem_cons_of_mem _ hy))
  | [], _ :: _, h, _ => h.elim
  | _ :: _, [], h, _ => h.elim
theorem valsN_len : ∀ {xss : List (List V)} {vss : List (List Value)}, ValsN xss vss → ∀ vs ∈ vss, ∃ xs ∈ xss, xs.length = vs.length
  | [], [], _, vs, h => by simp at h
  | xs :: xss, us :: vss, ⟨h1, h⟩, vs, hv => by
    rcases List.mem_cons.mp hv with rfl | hv
    · exact ⟨xs, by simp, h1.length⟩
    · obtain ⟨ys, hy, e⟩ := valsN_len h vs hv
      exact ⟨ys, List.mem_cons_of_mem _ hy, e⟩
  | [], _ :: _, h, _, _ => h.elim
  | _ :: _, [], h, _, _ => h.elim
theorem itN_at {h h' : Heap} {i : Nat} : ∀ {n : Nat} {ls : List (Bool × Nat)}, ItN h i n ls → (∀ c, n ≤ c → c < n + ls.length → ∀ o, h.get? c = some o → h'.get? c = some o) → ItN h' i n ls
  | n, [], _, _ => trivial
  | n, p :: ls, ⟨h1, h2⟩, k => ⟨itB_at h1 (k n (Nat.le_refl _) (by simp)), itN_at h2 fun c c1 c2 => k c (by omega) (by simp only [List.length_cons]; omega)⟩
theorem itN_obj {h : Heap} {i : Nat} : ∀ {n : Nat} {ls : List (Bool × Nat)}, ItN h i n ls → ∀ c, n ≤ c → c < n + ls.length → ∃ o, h.get? c = some o ∧ ∀ v, o.data ≠ .cell v
  | n, [], _, c, c1, c2 => by simp at c2; omega
  | n, p :: ls, ⟨h1, h2⟩, c, c1, c2 => by
    by_cases e : c = n
    · rw [e]; exact itB_obj h1
    · exact itN_obj h2 c (by omega) (by simp only [List.length_cons] at c2; omega)
section
variable {X : Cx} {pins : List (Addr × Obj)} {σ : L2.St} {H : Hp} {s : Shared}
theorem seN_of (I : Inv X pins σ H s) : ∀ {ls : List (Bool × Nat)} {xss : List (List V)}, SqN X.K H ls xss → ∃ vss, ValsN xss vss ∧ SeN s.heap ls vss ∧ ∀ p ∈ ls, p.2 < s.heap.objs.size
  | [], [], _ => ⟨[], trivial, trivial, fun p h => by simp at h⟩
  | p :: ls, xs :: xss, ⟨h1, h⟩ => by
    obtain ⟨vs, r, g, lt⟩ := seB_of I h1
    obtain ⟨vss, r2, g2, lt2⟩ := seN_of I h
    refine ⟨vs :: vss, ⟨r, r2⟩, ⟨g, g2⟩, fun q hq => ?_⟩
    rcases List.mem_cons.mp hq with rfl | hq
    · exact lt
    · exact lt2 q hq
  | [], _ :: _, h => h.elim
  | _ :: _, [], h => h.elim
theorem sqN_inj (I : Inv X pins σ H s) : ∀ {ls : List (Bool × Nat)} {xss yss : List (List V)}, SqN X.K H ls xss → SqN X.K H ls yss → xss = yss
  | [], [], [], _, _ => rfl
  | p :: ls, xs :: xss, ys :: yss, ⟨h1, h⟩, ⟨g1, g⟩ => by rw [sqB_inj I h1 g1, sqN_inj I h g]
  | [], _ :: _, _, h, _ => h.elim
  | _ :: _, [], _, h, _ => h.elim
  | [], [], _ :: _, _, h => h.elim
  | _ :: _, _ :: _, [], _, h => h.elim
end
/-- the lists as they stand at each turn, the items in a new tuple -/
def ItzN (K : PySem.W.Frag) (ls : List (Bool × Nat)) : It :=
  ⟨fun i H => ∃ xss, SqN K H ls xss ∧ xss ≠ [] ∧ ∀ xs ∈ xss, i < xs.length,
    fun i H v H' => ∃ T ys, v = .ref T ∧ H T = none ∧ H' = upd H T (.tup ys) ∧ ∀ xss, SqN K H ls xss → ys = colV i xss,
    fun i H => ∃ xss, SqN K H ls xss ∧ ∀ xs ∈ xss, xs.length = i⟩
def StN (n : Nat) (ls : List (Bool × Nat)) (i : Nat) (h : Heap) : Prop :=
  (∃ f0 f1, Handed f0 ∧ IsZipG h (n + ls.length + 2) (n + ls.length) (n + ls.length + 1) f0 f1) ∧ IsTupN h (n + ls.length) ((List.range' n ls.length).map Value.ref) ∧ (∃ xs : List Value, xs.length = ls.length ∧ IsTupN h (n + ls.length + 1) xs) ∧ ItN h i n ls
theorem mem_cells {n k c : Nat} : c ∈ List.range' n (k + 3) ↔ n ≤ c ∧ c < n + k + 3 := by
  rw [List.mem_range'_1]
  omega
theorem off_cells {n k c : Nat} (h : ¬ (n ≤ c ∧ c < n + k + 3)) : c ≠ n + k + 2 ∧ c ≠ n + k + 1 ∧ ∀ j : Nat, n ≤ j → j < n + k → c ≠ j := ⟨by omega, by omega, fun j _ _ => by omega⟩
theorem off_ti {n k : Nat} : n + k ≠ n + k + 2 ∧ n + k ≠ n + k + 1 ∧ ∀ j : Nat, j < n + k → n + k ≠ j := ⟨by omega, by omega, fun j _ => by omega⟩
theorem stN_obj {n i : Nat} {ls : List (Bool × Nat)} {h : Heap} (st : StN n ls i h) : ∀ c ∈ List.range' n (ls.length + 3), ∃ o, h.get? c = some o ∧ ∀ v, o.data ≠ .cell v := by
  obtain ⟨⟨f0, f1, _, hz⟩, hTI, ⟨xs, _, hTO⟩, hi⟩ := st
  intro c hc
  have hc := mem_cells.mp hc
  by_cases e0 : c < n + ls.length
  · exact itN_obj hi c hc.1 e0
  by_cases e1 : c = n + ls.length
  · rw [e1]; exact ⟨_, hTI, fun v q => nomatch q⟩
  by_cases e2 : c = n + ls.length + 1
  · rw [e2]; exact ⟨_, hTO, fun v q => nomatch q⟩
  have e3 : c = n + ls.length + 2 := by omega
  rw [e3]; exact ⟨_, hz, fun v q => nomatch q⟩
theorem sepN_of {n m : Nat} {ls : List (Bool × Nat)} {vss : List (List Value)} {h : Heap} (g : SeN h ls vss) (hm : m ≤ n) (hl : ∀ p ∈ ls, p.2 < m) : SepN (n + ls.length + 2) (n + ls.length) (n + ls.length + 1) (mkL n ls vss) := by
  obtain ⟨_, _, e3, e4⟩ := mk_it g hm hl
  refine ⟨by omega, by omega, by omega, fun j hj => ?_, fun j hj => ?_, fun j hj => ?_, fun j hj => ?_, e4⟩
  all_goals
    obtain ⟨a1, a2, _, l, a4, a5⟩ := e3 j hj
    first
      | (rw [a4]; simp; done)
      | (rw [a4]; simp; omega)
      | omega
theorem turn_zipN {P : Program} {w : World} {K : PySem.W.Frag} {tg : Expr} (htg : ∀ it v, letOwnedTupleGo tg it v = pure ()) {ls : List (Bool × Nat)} {n : Nat} (hl : ∀ p ∈ ls, p.2 < n) (few : ls.length ≤ sizeLine) :
    Turn P w K tg (ItzN K ls) (List.range' n (ls.length + 3)) (n + ls.length + 2) (StN n ls) where
  mem := mem_cells.mpr (by omega)
  obj := fun i h st => stN_obj st
  keep := fun i h h' st k => by
    obtain ⟨⟨f0, f1, hf, hz⟩, hTI, ⟨xs, hx, hTO⟩, hi⟩ := st
    exact ⟨⟨f0, f1, hf, k _ (mem_cells.mpr (by omega)) _ hz⟩, k _ (mem_cells.mpr (by omega)) _ hTI, ⟨xs, hx, k _ (mem_cells.mpr (by omega)) _ hTO⟩, itN_at hi fun c c1 c2 => k c (mem_cells.mpr (by omega))⟩
  item := by
    intro X hP hw hK hc i pins s σ H E I hf st hg
    subst hP hw hK
    have ob := stN_obj st
    obtain ⟨⟨f0, f1, hfo, hz⟩, hTI, ⟨ts, hts, hTO⟩, hi⟩ := st
    obtain ⟨xss, hq, ne, hlt⟩ := hg
    obtain ⟨vss, rv, g, _⟩ := seN_of I hq
    obtain ⟨m1, m2, m3, m4⟩ := mk_it g (Nat.le_refl n) hl
    have S := sepN_of g (Nat.le_refl n) hl
    have lx := sqN_len hq
    have nel : mkL n ls vss ≠ [] := by
      intro e
      rw [e] at m2
      simp at m2
      have : xss.length = 0 := by omega
      exact ne (List.length_eq_zero_iff.mp this)
    refine pyNext_zipN_item S (mk_D (show X.A.in1.handled = none from I.ok.hd hc) (Nat.le_refl n) hl) nel hz hfo (by rw [m1]; exact hTI) hTO (by rw [hts, m2]) (by omega) (mk_st hi g) (fun j hj => ?_) fun h' tk T f' ys z' TO' ly st' hT hsz hk => ?_
    · obtain ⟨_, _, a3, _⟩ := m3 j hj
      obtain ⟨xs, hxs, e⟩ := valsN_len rv _ a3
      rw [← e]
      exact hlt xs hxs
    · refine ⟨_, rfl, ?_⟩
      rw [htg]
      refine wpAny_pure ?_
      rw [mk_at g] at hT
      have rc := col_vals rv hlt
      have lc := rc.length
      have lcv : (colV i xss).length = ls.length := by unfold colV; rw [List.length_map]; omega
      have new : ObjOk X.prog X.w (upd H s.heap.objs.size (.tup (colV i xss))) h' s.heap.objs.size (.tup (colV i xss)) := ⟨by omega, _, rc, ⟨_, hT, rfl, _, rfl⟩⟩
      have I1 : Inv X pins σ (upd H s.heap.objs.size (.tup (colV i xss))) { s with heap := h', toks := tk } :=
        I.turnedNew (t' := tk) (ch := List.range' n (ls.length + 3)) (fun c o hb q => by
          obtain ⟨o1, o2, o3⟩ := off_cells fun z => hb (mem_cells.mpr z)
          exact hk c o o1 o2 (fun j hj => by obtain ⟨a1, a2, _⟩ := m3 j hj; exact o3 _ a1 a2) q) hf (Nat.le_refl _) new
      refine ⟨.ref s.heap.objs.size, _, I1, rfl, ⟨_, _, rfl, I.hok.fresh (Nat.le_refl _), rfl, fun yss hy => by rw [sqN_inj I hy hq]⟩, ⟨⟨_, _, .inr ⟨T, rfl⟩, z'⟩, ?_, ⟨ys, by omega, TO'⟩, ?_⟩, fun c hcm => ?_⟩
      · obtain ⟨o1, o2, o3⟩ := off_ti (n := n) (k := ls.length)
        exact hk _ _ o1 o2 (fun j hj => by obtain ⟨a1, a2, _⟩ := m3 j hj; exact o3 _ a2) hTI
      · exact st_mk g st'
      · obtain ⟨o, ho, _⟩ := ob c hcm
        rw [upd_ne (Nat.ne_of_lt (Heap.lt_size ho))]
        exact (hf c hcm).1
  done := by
    intro X hP hw hK hc i pins s σ H E I hf st hg
    subst hP hw hK
    obtain ⟨⟨f0, f1, hfo, hz⟩, hTI, ⟨ts, hts, hTO⟩, hi⟩ := st
    obtain ⟨xss, hq, hend⟩ := hg
    obtain ⟨vss, rv, g, _⟩ := seN_of I hq
    obtain ⟨m1, m2, m3, m4⟩ := mk_it g (Nat.le_refl n) hl
    have S := sepN_of g (Nat.le_refl n) hl
    refine pyNext_zipN_end (show X.A.in1.handled = none from I.ok.hd hc) S (mk_D (show X.A.in1.handled = none from I.ok.hd hc) (Nat.le_refl n) hl) hz hfo (by rw [m1]; exact hTI) hTO (mk_st hi g) (fun j hj => ?_) fun h' tk hk => ⟨rfl, I.turnedL (t' := tk) (ch := List.range' n (ls.length + 3)) (fun c o hb q => ?_) hf⟩
    · obtain ⟨_, _, a3, _⟩ := m3 j hj
      obtain ⟨xs, hxs, e⟩ := valsN_len rv _ a3
      rw [← e]
      exact (hend xs hxs).symm
    · obtain ⟨o1, o2, o3⟩ := off_cells fun z => hb (mem_cells.mpr z)
      exact hk c o o1 o2 (fun j hj => by obtain ⟨a1, a2, _⟩ := m3 j hj; exact o3 _ a1 a2) q
  self := fun A i s Q E st h => by
    obtain ⟨⟨f0, f1, hfo, hz⟩, _⟩ := st
    have hT : s.TypeIs (.ref (n + ls.length + 2)) "zip" := ⟨_, hz, rfl⟩
    refine wpAny_pyIter_slot hT F.slot_zip_iter (wpAny_call_entry F.slot_zip_iter hT F.entry_zip_iter ?_ (F.args_zip_iter_1 _))
    show wpAny _ _ (ret (.ref (n + ls.length + 2))) _ _ s
    exact wpAny_pure ⟨_, rfl, "zip", _, hT, F.slot_zip_next.lookup, h⟩
end ZpX

namespace ZpX
open PySem PySem.Spec PyProof.Rows L2 ZmX
theorem iter_one {prog : Program} {w : World} {A : Around} {E : Value → Shared → Prop} {s : Shared} {t : Bool} {l : Nat} {vs : Array Value} {Q : Value → Shared → Prop} (g : SeB t s.heap l vs) (h : Q (.ref s.heap.objs.size) { s with heap := s.heap.push (itO t l) }) :
    wpAny (model prog w) A (pyIter (.ref l)) Q E s := by
  cases t
  · exact wpAny_pyIter_list g h
  · exact wpAny_pyIter_tuple g h
theorem seN_push {h : Heap} (o : Obj) : ∀ {ls : List (Bool × Nat)} {vss : List (List Value)}, SeN h ls vss → SeN (h.push o) ls vss
  | [], [], _ => trivial
  | _ :: _, _ :: _, ⟨h1, h2⟩ => ⟨seB_push h1 o, seN_push o h2⟩
  | [], _ :: _, h => h.elim
  | _ :: _, [], h => h.elim
theorem iterAll_N {prog : Program} {w : World} {A : Around} {E : Value → Shared → Prop} {ls : List (Bool × Nat)} {vss : List (List Value)} {s : Shared} {Q : List Value → Shared → Prop} (g : SeN s.heap ls vss)
    (h : ∀ h', h'.objs.size = s.heap.objs.size + ls.length → ItN h' 0 s.heap.objs.size ls → (∀ c o, s.heap.get? c = some o → h'.get? c = some o) → Q ((List.range' s.heap.objs.size ls.length).map Value.ref) { s with heap := h' }) :
    wpAny (model prog w) A (Builtin.SmallTypes.iterAll (ls.map fun p => Value.ref p.2)) Q E s := by
  obtain ⟨hp, g0, d, tk, os⟩ := s
  unfold Builtin.SmallTypes.iterAll
  refine wpAny_bind ?_
  refine wpAny_forIn_list _ (fun rest (r : Array Value) s' => ∃ (front back : List (Bool × Nat)) (vs : List (List Value)) (q : Heap), ls = front ++ back ∧ rest = (back.map fun p => Value.ref p.2) ∧ s' = ⟨q, g0, d, tk, os⟩ ∧ SeN q back vs ∧ r.toList = (List.range' hp.objs.size front.length).map Value.ref ∧
      q.objs.size = hp.objs.size + front.length ∧ ItN q 0 hp.objs.size front ∧ ∀ c o, hp.get? c = some o → q.get? c = some o) _ ?_ ?_ _ _ ⟨[], ls, vss, hp, rfl, rfl, rfl, g, rfl, rfl, trivial, fun _ _ e => e⟩
  · rintro x rest r s' ⟨front, back, vs, q, e0, e, rfl, gv, er, hz, hi, hk⟩
    cases back with
    | nil => simp at e
    | cons p back =>
      rw [List.map_cons] at e
      injection e with e1 e2
      subst e1 e2
      cases vs with
      | nil => exact gv.elim
      | cons v vs =>
        obtain ⟨g1, g2⟩ := gv
        refine wpAny_bind (wpAny_holding (iter_one (s := ⟨q, g0, d, tk, os⟩) g1 (wpAny_pure ?_)))
        have hz2 : (q.push (itO p.1 p.2)).objs.size = q.objs.size + 1 := Heap.size_push ..
        refine ⟨front ++ [p], back, vs, q.push (itO p.1 p.2), by rw [e0]; simp, rfl, rfl, seN_push _ g2, ?_, by rw [hz2, hz, List.length_append]; rfl, ?_, fun c o e => Heap.get?_push_of_some _ (hk c o e)⟩
        · rw [Array.toList_push, er, List.length_append, List.length_singleton, List.range'_concat, List.map_append, hz]
          simp
        · have h1 : ItN (q.push (itO p.1 p.2)) 0 hp.objs.size front := itN_at hi fun c _ _ o e => Heap.get?_push_of_some _ e
          have h2 : ItB p.1 (q.push (itO p.1 p.2)) (hp.objs.size + front.length) p.2 0 := by
            rw [← hz]
            exact itO_is (Heap.get?_push_size _ itO_fr)
          clear hi e0 er hz hk g1 g2 hz2
          revert h1 h2
          generalize hp.objs.size = n
          intro h1 h2
          induction front generalizing n with
          | nil => exact ⟨h2, trivial⟩
          | cons y ys ih => exact ⟨h1.1, ih (n + 1) h1.2 (by have e : n + 1 + ys.length = n + (y :: ys).length := by simp only [List.length_cons]; omega
                                                             rw [e]; exact h2)⟩
  · rintro r s' ⟨front, back, vs, q, e0, e, rfl, gv, er, hz, hi, hk⟩
    cases back with
    | cons p back => simp at e
    | nil =>
      have eL : front = ls := by simpa using e0.symm
      subst eL
      refine wpAny_pure ?_
      rw [er]
      exact h q hz hi hk
theorem call_zipN {prog : Program} {w : World} {A : Around} {E : Value → Shared → Prop} {ls : List (Bool × Nat)} {vss : List (List Value)} {s : Shared} {Q : Value → Shared → Prop} (g : SeN s.heap ls vss) (few : ls.length ≤ 12)
    (h : ∀ h', StN s.heap.objs.size ls 0 h' → (∀ c o, s.heap.get? c = some o → h'.get? c = some o) → Q (.ref (s.heap.objs.size + ls.length + 2)) { s with heap := h' }) :
    wpAny (model prog w) A (call (.type "zip") (ls.map fun p => Value.ref p.2)) Q E s := by
  have M : Meets (Builtin.«zip.__new__» ⟨.type "zip" :: ls.map fun p => Value.ref p.2, []⟩) (fun _ R s => SeN s.heap ls vss ∧ ∀ h', StN s.heap.objs.size ls 0 h' → (∀ c o, s.heap.get? c = some o → h'.get? c = some o) → R (.ok (.ret (.ref (s.heap.objs.size + ls.length + 2)))) { s with heap := h' }) :=
    .of_wp fun prog w A R s h => by
      obtain ⟨hp, g, d, tk, os⟩ := s
      obtain ⟨hg, h⟩ := h
      have hsub := sub_zip
      have q1 : ∀ {A' : Around} {E : Value → Shared → Prop} {Q : List Value → Shared → Prop}, (∀ h', h'.objs.size = hp.objs.size + ls.length → ItN h' 0 hp.objs.size ls → (∀ c o, hp.get? c = some o → h'.get? c = some o) → Q ((List.range' hp.objs.size ls.length).map Value.ref) ⟨h', g, d, tk, os⟩) →
          wpAny (model prog w) A' (Builtin.SmallTypes.iterAll (ls.map fun p => Value.ref p.2)) Q E ⟨hp, g, d, tk, os⟩ := fun q => iterAll_N (s := ⟨hp, g, d, tk, os⟩) hg q
      wp_walk using q1
      intro h1 hz hi hk
      have fl : ls.length ≤ sizeLine := Nat.le_trans few (by decide)
      refine wpAny_bind (wpAny_newTuple ?_ (by simpa using fl))
      refine wpAny_bind (wpAny_newTuple ?_ (by simpa using fl))
      wp_walk
      refine ⟨_, rfl, ?_⟩
      let a : Obj := { cls := .type "tuple", data := .seq ((List.range' hp.objs.size ls.length).map Value.ref).toArray }
      let b : Obj := { cls := .type "tuple", data := .seq (((List.range' hp.objs.size ls.length).map Value.ref).map fun _ => Value.none).toArray }
      let zz : Obj := { cls := .type "zip", data := .fields #[.none, .bool false, .bool false, .ref h1.objs.size, .ref (h1.push a).objs.size] }
      have z1 : (h1.push a).objs.size = hp.objs.size + ls.length + 1 := by rw [Heap.size_push, hz]
      have z2 : ((h1.push a).push b).objs.size = hp.objs.size + ls.length + 2 := by rw [Heap.size_push, z1]
      show R (.ok (.ret (.ref ((h1.push a).push b).objs.size))) ⟨((h1.push a).push b).push zz, g, d, tk, os⟩
      rw [z2]
      have up : ∀ c o, h1.get? c = some o → (((h1.push a).push b).push zz).get? c = some o := fun c o e => Heap.get?_push_of_some _ (Heap.get?_push_of_some _ (Heap.get?_push_of_some _ e))
      have ga : (((h1.push a).push b).push zz).get? h1.objs.size = some a := Heap.get?_push_of_some _ (Heap.get?_push_of_some _ (Heap.get?_push_size _ rfl))
      have gb : (((h1.push a).push b).push zz).get? (h1.push a).objs.size = some b := Heap.get?_push_of_some _ (Heap.get?_push_size _ rfl)
      have gz : (((h1.push a).push b).push zz).get? ((h1.push a).push b).objs.size = some zz := Heap.get?_push_size _ rfl
      have ez : zz = { cls := .type "zip", data := .fields #[.none, .bool false, .bool false, .ref (hp.objs.size + ls.length), .ref (hp.objs.size + ls.length + 1)] } := by
        show ({ cls := _, data := Data.fields #[.none, .bool false, .bool false, .ref h1.objs.size, .ref (h1.push a).objs.size] } : Obj) = _
        rw [z1, hz]
      rw [hz] at ga
      rw [z1] at gb
      rw [z2] at gz
      replace gz := gz.trans (congrArg some ez)
      refine h _ ⟨⟨.none, false, .inl rfl, gz⟩, ga, ⟨_, ?_, gb⟩, itN_at hi fun c _ _ o e => up c o e⟩ fun c o e => up c o (hk c o e)
      simp
  refine callType_new F.called_zip (by decide) (F.typeCall_zip_N _) (F.newCall_zip_N _ (by simpa using few)) (fun obj => F.args_object_init_N obj _) F.entry_zip_new M ⟨g, fun h' st hk => ?_⟩
  obtain ⟨⟨f0, f1, _, hz⟩, _⟩ := id st
  exact ⟨⟨_, hz, rfl⟩, h h' st hk⟩
theorem vals_refs : ∀ {ls : List (Bool × Nat)} {us : List Value}, Vals (ls.map fun p => V.ref p.2) us → us = ls.map fun p => Value.ref p.2
  | [], _, h => by cases h; rfl
  | p :: ls, _, h => by
    cases h with
    | cons r1 r2 =>
      have e : _ = Value.ref p.2 := r1
      rw [e, vals_refs r2]
      rfl
/-- zip(*e), e a list or tuple of lists and tuples -/
def iZipN (K : PySem.W.Frag) (te : L2.TE) : TI := fun σ H R => te σ H fun v H1 => ∃ (a : Addr) (ls : List (Bool × Nat)) (xss : List (List V)), v = .ref a ∧ (SqT K H1 a (ls.map fun p => V.ref p.2) ∨ SqL K H1 a (ls.map fun p => V.ref p.2)) ∧ SqN K H1 ls xss ∧ ls.length ≤ 12 ∧ R (ItzN K ls) H1
theorem callWith_typeS {M : Model} {A : Around} {E : Value → Shared → Prop} {s : Shared} {env : Env} {T : String} {e : Expr} {p pos : Pos} {Q : Value → Shared → Prop} (h : wpAny M A (eval e env) (fun v s₁ => PySem.W.StarOf M A E v (fun vs s₂ => wpAny M A (call (.type T) vs) Q E s₂) s₁) E s)
    (he : starEach [.Starred e p] env = [(true, eval e env)] := by rfl) : wpAny M A (callWith pos (.type T) [] (backTo pos (starEach [.Starred e p] env)) []) Q E s := by
  rw [he]
  show wpAny M A (callWith pos (.type T) [] [(true, (do let v ← eval e env; standAt pos; pure v))] []) Q E s
  unfold callWith
  refine wpAny_bind (wpAny_holding (wpAny_mono (PySem.W.ks_lone (Q := fun a s₁ => wpAny M A (call (.type T) a.pos a.kw) Q E s₁) h) (fun a s₁ h₁ => wpAny_bind (wpAny_standAt ?_)) fun _ _ x => x))
  refine wpAny_bind (wpAny_pure ?_)
  show wpAny M A (operate _ (call (.type T) ([] ++ a.pos) a.kw) >>= _) Q E s₁
  exact wpAny_bind (wpAny_mono (PySem.wpAny_operating h₁) (fun r s₂ hr => wpAny_bind (wpAny_holding (wpAny_point (wpAny_pure hr)))) fun _ _ x => x)
theorem pi_zipN {X : Cx} {tg e : Expr} {te : L2.TE} {p pos sp : Pos} (htg : ∀ it v, letOwnedTupleGo tg it v = pure ()) (hg : Gl X "zip") (hm : X.mg "zip" = none) (ha : PE X e te)
    (hs : starEach [.Starred e sp] X.env = [(true, eval e X.env)] := by rfl) :
    PI X tg (.Call (.Name "zip" p) [.Starred e sp] [] pos) (iZipN X.K te) := by
  refine ⟨fun pins s σ H R I h => ?_⟩
  refine Call_ (ld_blt I hg hm PyProof.Rows.boot_zip (callWith_typeS (thn (ha.run pins s σ H _ I h) fun v s1 ⟨y, H1, I1, r1, q1⟩ => ?_) hs))
  obtain ⟨a, ls, xss, ex, hA, hq, few, q⟩ := q1
  subst ex
  obtain rfl : v = Value.ref a := r1
  refine StX.star_any I1 hA fun us s2 I2 rv => ?_
  rw [vals_refs rv]
  obtain ⟨vss, _, g, lt⟩ := seN_of I2 hq
  refine call_zipN g few fun h' st hk => ?_
  obtain ⟨⟨f0, f1, hfo, hz⟩, _⟩ := id st
  have I3 : Inv X pins σ H1 { s2 with heap := h' } := I2.kept (t' := s2.toks) hk
  have T := turn_zipN (P := X.prog) (w := X.w) (K := X.K) htg lt (Nat.le_trans few (by decide))
  refine T.self _ _ _ _ _ st ?_
  exact ⟨_, _, _, _, H1, rfl, I3, T, st, fun c hcm => I2.fpOk (mem_cells.mp hcm).1 (I2.hok.fresh (mem_cells.mp hcm).1), q⟩
theorem walk_zipN {K : PySem.W.Frag} {ls : List (Bool × Nat)} {xss : List (List V)} {n : Nat} (ne : xss ≠ [] ∨ n = 0) (hl : ∀ xs ∈ xss, xs.length = n) : Walk (ItzN K ls) n (fun H => SqN K H ls xss) (fun i H x H' => ∃ T, x = .ref T ∧ H T = none ∧ H' = upd H T (.tup (colV i xss))) := by
  refine ⟨fun i H hi h => ⟨xss, h, by rcases ne with h | h; exact h; omega, fun xs hx => by rw [hl xs hx]; exact hi⟩, fun H h => ⟨xss, h, hl⟩, fun i H x H' hi h y => ?_⟩
  obtain ⟨T, ys, e1, e2, e3, e4⟩ := y
  exact ⟨T, e1, e2, by rw [e3, e4 _ h]⟩
/-- the walk along zip of lists of one length, in a comprehension -/
theorem lc_zipN {K : PySem.W.Frag} {ls : List (Bool × Nat)} {xss : List (List V)} {n : Nat} {H0 : Hp} {g : TG} {tt : TT} {te : L2.TE} {vs : List Nat} {σ : L2.St} {H1 : Hp} {D : Addr} {Qd : Hp → Prop} (ne : xss ≠ [] ∨ n = 0) (hl : ∀ xs ∈ xss, xs.length = n) (h1 : SqN K H0 ls xss)
    (Pv : Nat → Hp → Prop) (h0 : Pv 0 (upd H1 D (.lst []))) (hk : ∀ i H, i ≤ n → Pv i H → Same H0 H)
    (hs : ∀ i T H, i < n → Pv i H → H T = none → g (.ref T) (wipe σ vs) (upd H T (.tup (colV i xss))) fun σ2 H2 => wipe σ2 vs = wipe σ vs ∧ tt σ2 H2 fun b H3 =>
      if b = true then te σ2 H3 fun y H4 => ∃ acc, H4 D = some (.lst acc) ∧ acc.length < sizeLine ∧ Pv (i + 1) (upd H4 D (.lst (acc ++ [y]))) else Pv (i + 1) H3)
    (hd : ∀ H, Pv n H → Qd H) :
    ∃ W : Nat → Nat → Hp → Prop, (∃ m, W 0 m (upd H1 D (.lst []))) ∧ ∀ i m H, W i m H →
      ((ItzN K ls).stop i H ∧ Qd H) ∨ ((ItzN K ls).go i H ∧ ∃ Nx : Hp → Prop, (∀ H', Nx H' → ∃ m', m' < m ∧ W (i + 1) m' H') ∧ ∀ x H', (ItzN K ls).yld i H x H' → g x (wipe σ vs) H' fun σ2 H2 => wipe σ2 vs = wipe σ vs ∧ tt σ2 H2 fun b H3 =>
        if b = true then te σ2 H3 fun y H4 => ∃ acc, H4 D = some (.lst acc) ∧ acc.length < sizeLine ∧ Nx (upd H4 D (.lst (acc ++ [y]))) else Nx H3) := by
  refine lc_it (walk_zipN (K := K) (ls := ls) ne hl) Pv h0 (fun i H hi p => sqN_s (hk i H hi p) h1) (fun i v H H' hi p y => ?_) hd
  obtain ⟨T, rfl, hT, rfl⟩ := y
  exact hs i T H hi p hT
end ZpX

namespace Tk
open PySem PySem.Spec PyProof.Rows L2 ClX
/-- rows as lists read for zip -/
theorem rt_refs {L C : Addr} {K : PySem.W.Frag} {H : Hp} : ∀ {xs : List V} {qss : List (List (Int × Int))}, RtRows L C H xs qss → ∃ (ls : List (Bool × Nat)) (xss : List (List V)), xs = ls.map (fun p => V.ref p.2) ∧ ZpX.SqN K H ls xss ∧ ls.length = qss.length ∧ xss.length = qss.length ∧
    ∀ (i : Nat) (ys : List V), xss[i]? = some ys → ∃ qs, qss[i]? = some qs ∧ RatsP C H ys qs
  | [], [], _ => ⟨[], [], rfl, trivial, rfl, rfl, fun i ys h => by simp at h⟩
  | x :: xs, qs :: qss, ⟨⟨a, ys, h1, _, h3, h4⟩, h⟩ => by
    obtain ⟨ls, xss, e1, e2, e3, e4, e5⟩ := rt_refs (K := K) h
    refine ⟨(false, a) :: ls, ys :: xss, by rw [h1, e1]; rfl, ⟨sl_of h3, e2⟩, by simp [e3], by simp [e4], fun i zs hz => ?_⟩
    cases i with
    | zero =>
      simp at hz
      subst hz
      exact ⟨qs, rfl, h4⟩
    | succ i => exact e5 i zs (by simpa using hz)
  | [], _ :: _, h => h.elim
  | _ :: _, [], h => h.elim
theorem ratsP_of {C : Addr} {H : Hp} : ∀ {xs : List V} {qs : List (Int × Int)}, xs.length = qs.length → (∀ (i : Nat) (x : V) (q : Int × Int), xs[i]? = some x → qs[i]? = some q → ∃ p, x = .ref p ∧ RatAt C H p q) → RatsP C H xs qs
  | [], [], _, _ => trivial
  | x :: xs, q :: qs, hl, h => ⟨h 0 x q rfl rfl, ratsP_of (by simpa using hl) fun i y z hy hz => h (i + 1) y z (by simpa using hy) (by simpa using hz)⟩
  | [], _ :: _, hl, _ => by simp at hl
  | _ :: _, [], hl, _ => by simp at hl
theorem col_at {i k : Nat} {xss : List (List V)} {x : V} (h : (ZpX.colV i xss)[k]? = some x) : ∃ ys, xss[k]? = some ys ∧ x = ys[i]?.getD .non := by
  unfold ZpX.colV at h
  rw [List.getElem?_map] at h
  cases e : xss[k]? with
  | none => rw [e] at h; cases h
  | some ys =>
    rw [e] at h
    cases h
    exact ⟨ys, rfl, rfl⟩
section
variable {P : Program} {w : World} {K : PySem.W.Frag} {mg : Str → Option Value} {base : Heap}
abbrev nAboutT : List Str := ["table", "rows", "column"]
theorem sc_aboutT : FnScope nAboutT ["table"] (defScope sAboutT) := ⟨rfl, rfl, rfl, by decide +kernel, rfl, by decide +kernel, by decide +kernel⟩
def listOfR (K : PySem.W.Frag) : List V → Hp → VK → Prop := fun xs H Q => ∃ p ys, xs = [V.ref p] ∧ (SqL K H p ys ∨ SqT K H p ys) ∧ ∀ l, H l = none → Q (.ref l) (upd H l (.lst ys))
theorem ok_aboutT {f f1 f2 C : Addr} {fd fd1 fd2 : FuncData} (F : Fun K "about" "about" sAboutT f fd) (D1 : Df K mg "check_table" sChkTab ["table"] f1 fd1) (G1 : FnOk P w K mg base CX0 5 f1 fd1 ["table"] (spChkTab K C)) (D2 : Df K mg "told" sTold0 ["rows"] f2 fd2) (G2 : FnOk P w K mg base CX0 5 f2 fd2 ["rows"] (spToldQ K C)) (B : Bl mg) :
    FnOk P w K mg base CX0 7 f fd ["table"] (spAboutT K C) := by
  refine F.ok sc_aboutT (fun vs H Q E h => ?_) (fun cdv A outer s H vs Q E hr h => ?_)
  · obtain ⟨v, n, qss, rfl, _⟩ := h
    rfl
  · obtain ⟨v, n, qss, rfl, h1, q⟩ := h
    have hr5 : Room 5 _ := hr.mono (by decide)
    refine ⟨_, pss_cons (ps_expr (pe_call G1 hr5 rfl D1.g D1.F.kp D1.b .nil pass0 (pa_cons (pv 0) pa_nil)))
      (pss_cons (ps_set (i := 1) sc_aboutT.nd rfl (Or.inl rfl) (pe_call G2 hr5 rfl D2.g D2.F.kp D2.b .nil pass0 (pa_cons (pv 0) pa_nil)))
      (pss_one (ps_ret (pe_lc (own := [("column", 2)]) (g := gName 2) (tt := tYes) (te := tCB (listOfR K) (tCons (tVar 2) tNil)) rfl sc_aboutT.nd (ZpX.pi_zipN (fun _ _ => rfl) (by rfl) B.zip (pv 1)) (blkOk_by (N := nAboutT) (sc := defScope sAboutT) (by decide +kernel))
        (fun _ _ _ _ _ => pg_name (i := 2) sc_aboutT.nd rfl (Or.inl rfl)) (fun _ _ _ _ _ => pts_nil)
        (fun _ _ _ _ _ => pe_callTy call_list_of (by rfl) B.list PyProof.Rows.boot_list (pa_cons (pv 2) pa_nil)))))), ?_⟩
    refine ⟨_, rfl, v, n, qss, rfl, h1, fun H1 s1 => ?_⟩
    refine ⟨_, rfl, v, n, qss, rfl, tab_s h1 s1, fun H2 r s2 _ hT _ => ?_⟩
    obtain ⟨n6, l1, lr, _⟩ := h1
    obtain ⟨xs, hx0, hR⟩ := hT
    obtain ⟨ls, xss, ex, hq, e1, e2, e3⟩ := rt_refs (K := K) hR
    rw [ex] at hx0
    refine ⟨_, rfl, r, ls, xss, rfl, .inr (sl_of hx0), hq, by omega, fun D hD => ?_⟩
    have wide : ∀ ys ∈ xss, ys.length = n := fun ys hy => by
      obtain ⟨i, hi⟩ := List.getElem?_of_mem hy
      obtain ⟨qs, hqs, hP⟩ := e3 i ys hi
      rw [(rats_at hP).1]
      exact lr qs (List.mem_of_getElem? hqs)
    have lc : (colsQ n qss).length = n := by unfold colsQ; simp
    refine ZpX.lc_zipN (n := n) (H0 := H2) (by rcases Nat.eq_zero_or_pos n with z | z; exact .inr z; exact .inl (fun e => by rw [e] at e2; simp at e2; omega)) wide hq
      (fun k G => Same H2 G ∧ ∃ acc, G D = some (.lst acc) ∧ RtRows D C G acc ((colsQ n qss).take k) ∧ NewL H2 acc) ⟨same_new hD, [], upd_same, by simp [RtRows], newl_nil⟩ (fun k G _ p => p.1) ?_ ?_
    · rintro k T G hk ⟨sG, acc, hacc, hP, hN⟩ hT
      have sT := same_new (o := .tup (ZpX.colV k xss)) hT
      have fewk := rt_len hP
      have : ((colsQ n qss).take k).length ≤ 6 := by rw [List.length_take]; omega
      refine ⟨rfl, _, rfl, T, ZpX.colV k xss, rfl, .inr (st_of upd_same), fun l hl => ?_⟩
      have sl := same_new (o := .lst (ZpX.colV k xss)) hl
      have hacc2 := sl _ _ (sT _ _ hacc)
      have nlD : l ≠ D := fun e => by rw [e] at hl; rw [sT _ _ hacc] at hl; cases hl
      have sA := (sG.trans sT).trans sl
      refine ⟨acc, hacc2, szlt (by omega), same_mut sA hD, acc ++ [.ref l], upd_same, ?_, newl_put hN ((sG.trans sT).free hl)⟩
      have hrow : (colsQ n qss)[k]? = some (qss.map fun qs => qs[k]?.getD (0, 1)) := by unfold colsQ; simp [hk]
      rw [take_at hrow]
      refine rt_but hacc2 (rt_app (rt_s (sT.trans sl) hP) ⟨⟨l, ZpX.colV k xss, rfl, nlD, upd_same, ratsP_of ?_ ?_⟩, trivial⟩)
      · unfold ZpX.colV
        rw [List.length_map, List.length_map, e2]
      · intro i x z hx hz
        obtain ⟨ys, hys, rfl⟩ := col_at hx
        obtain ⟨qs, hqs, hPq⟩ := e3 i ys hys
        rw [List.getElem?_map, hqs] at hz
        cases hz
        have ly := wide ys (List.mem_of_getElem? hys)
        have lq := lr qs (List.mem_of_getElem? hqs)
        obtain ⟨p, ep, hp⟩ := (rats_at hPq).2 k (ys[k]'(by omega)) (qs[k]'(by omega)) (List.getElem?_eq_getElem _) (List.getElem?_eq_getElem _)
        refine ⟨p, ?_, ?_⟩
        · rw [List.getElem?_eq_getElem (show k < ys.length by omega)]; exact ep
        · show RatAt C _ p (qs[k]?.getD (0, 1))
          rw [List.getElem?_eq_getElem (show k < qs.length by omega)]
          exact rat_s hp sA
    · rintro G ⟨sG, acc, hacc, hP, hN⟩
      rw [show (colsQ n qss).take n = colsQ n qss from List.take_of_length_le (by omega)] at hP
      exact q G D ((s1.trans s2).trans sG) ((s1.trans s2).free hD) ⟨acc, hacc, hP⟩ ⟨acc, hacc, newl_le hN (s1.trans s2)⟩
end
end Tk

namespace RgX
open PySem PySem.Spec PyProof.Rows L2
/-! ## a range that is kept in a name -/
section
variable {X : Cx}
theorem cr_range1 : CallR X (.type "range") (fun vs H Q => ∃ i, vs = [V.int i] ∧ ∀ p, H p = none → Q (.ref p) (upd H p (.rng 0 i))) := by
  intro pins s σ H vs us Q I r h
  obtain ⟨i, rfl, q⟩ := h
  cases r with
  | cons r rr =>
    cases rr
    obtain ⟨t, rfl⟩ := r
    refine call_range_1 ⟨.ref s.heap.objs.size, upd H s.heap.objs.size (.rng 0 i), I.laid (t' := s.toks + 1 + 1) (fun b o e => Heap.get?_push_of_some _ e) (Nat.le_refl _) ?_, rfl, q _ (I.hok.fresh (Nat.le_refl _))⟩
    exact ⟨s.toks, t, s.toks + 1, Heap.get?_push_size _ rfl⟩
/-- for x in r -/
def iRgV (te : L2.TE) : TI := fun σ H R => te σ H fun v H1 => ∃ (a : Addr) (i j : Int), v = .ref a ∧ H1 a = some (.rng i j) ∧ (-(2 ^ 62) ≤ i ∧ i < 2 ^ 62 ∧ -(2 ^ 62) ≤ j ∧ j < 2 ^ 62) ∧ R (Itr i (j - i).toNat) H1
theorem pi_rgV {tg e : Expr} {te : L2.TE} (he : PE X e te) : PI X tg e (iRgV te) := by
  refine ⟨fun pins s σ H R I h => ?_⟩
  refine thn (he.run pins s σ H _ I h) fun v s1 ⟨y, H1, I1, r1, q1⟩ => ?_
  obtain ⟨a, i, j, rfl, ha, ⟨q1, q2, q3, q4⟩, q⟩ := q1
  obtain rfl : v = Value.ref a := r1
  obtain ⟨t1, t2, t3, ho⟩ := I1.hok a _ ha
  refine wpAny_pyIter_range ho (small_one q1 q2 q3 q4) ?_
  refine ⟨s1.heap.objs.size, [s1.heap.objs.size], _, _, H1, rfl, I1.kept (t' := s1.toks) fun b o e => Heap.get?_push_of_some _ e, turn_range _ i (j - i).toNat, ?_, fun b hb => ?_, q⟩
  · have e1 : i + ((0 : Nat) : Int) * 1 = i := by simp
    have e2 : (((j - i).toNat : Nat) : Int) - ((0 : Nat) : Int) = Builtin.Range.rangeSize i j 1 := by rw [rangeSize_one]; split <;> omega
    show IsRangeIter _ _ (i + ((0 : Nat) : Int) * 1) ((((j - i).toNat : Nat) : Int) - ((0 : Nat) : Int)) 1
    rw [e1, e2]
    exact Heap.get?_push_size _ rfl
  · have e : b = s1.heap.objs.size := by simpa using hb
    subst e
    exact I1.fpOk (Nat.le_refl _) (I1.hok.fresh (Nat.le_refl _))
end
end RgX

namespace Tk
open PySem PySem.Spec PyProof.Rows L2 ClX
abbrev sTabWith : Stmt := top 35
abbrev sIdleT : Stmt := top 36
/-! ## tables whose numbers are set one by one -/
def tabQ (n : Nat) (f : Nat → Nat → Int × Int) : List (List (Int × Int)) := (List.range n).map fun i => (List.range n).map fun j => f i j
theorem tabQ_len {n : Nat} {f : Nat → Nat → Int × Int} : (tabQ n f).length = n := by unfold tabQ; simp
theorem tabQ_wide {n : Nat} {f : Nat → Nat → Int × Int} : ∀ qs ∈ tabQ n f, qs.length = n := fun qs h => by
  unfold tabQ at h
  obtain ⟨i, _, rfl⟩ := List.mem_map.mp h
  simp
theorem tabQ_at {n i : Nat} {f : Nat → Nat → Int × Int} (h : i < n) : (tabQ n f)[i]? = some ((List.range n).map fun j => f i j) := by unfold tabQ; simp [h]
theorem tabQ_set {n i j : Nat} {f : Nat → Nat → Int × Int} {q : Int × Int} (hi : i < n) : (tabQ n f).set i (((List.range n).map fun j => f i j).set j q) = tabQ n fun a b => if a = i ∧ b = j then q else f a b := by
  refine List.ext_getElem (by simp [tabQ]) fun a h1 h2 => ?_
  have ha : a < n := by simpa [tabQ] using h2
  rw [List.getElem_set]
  refine List.ext_getElem (by split <;> simp [tabQ]) fun b g1 g2 => ?_
  have hb : b < n := by simpa [tabQ] using g2
  by_cases e : i = a
  · subst e
    simp only [if_true, List.getElem_set, tabQ, List.getElem_map, List.getElem_range, true_and]
    by_cases e2 : j = b
    · rw [if_pos e2, if_pos e2.symm]
    · rw [if_neg e2, if_neg (fun z => e2 z.symm)]
  · simp only [if_neg e, tabQ, List.getElem_map, List.getElem_range]
    rw [if_neg (fun z => e z.1.symm)]
structure MutT (C : Addr) (H : Hp) (D : Addr) (as : List Addr) (qss : List (List (Int × Int))) : Prop where
  at_ : H D = some (.lst (as.map V.ref))
  nd : as.Nodup
  no : D ∉ as
  len : as.length = qss.length
  row : ∀ (i : Nat) (a : Addr), as[i]? = some a → ∃ ys qs, qss[i]? = some qs ∧ H a = some (.lst ys) ∧ RatsP C H ys qs
theorem mut_s {C D : Addr} {H H' : Hp} {as : List Addr} {qss : List (List (Int × Int))} (h : MutT C H D as qss) (e : Same H H') : MutT C H' D as qss :=
  ⟨e _ _ h.at_, h.nd, h.no, h.len, fun i a ha => let ⟨ys, qs, h1, h2, h3⟩ := h.row i a ha; ⟨ys, qs, h1, e _ _ h2, rats_s e h3⟩⟩
theorem rats_set {C : Addr} {H : Hp} {p : Addr} {q : Int × Int} (hp : RatAt C H p q) : ∀ {xs : List V} {qs : List (Int × Int)} {j : Nat}, RatsP C H xs qs → RatsP C H (xs.set j (.ref p)) (qs.set j q)
  | [], [], _, _ => by simp [RatsP]
  | x :: xs, z :: qs, 0, ⟨_, h⟩ => ⟨⟨p, rfl, hp⟩, h⟩
  | x :: xs, z :: qs, j + 1, ⟨h1, h⟩ => ⟨h1, rats_set hp h⟩
  | [], _ :: _, _, h => h.elim
  | _ :: _, [], _, h => h.elim
theorem mut_set {C D a p : Addr} {H : Hp} {as : List Addr} {qss : List (List (Int × Int))} {i j : Nat} {ys : List V} {qs : List (Int × Int)} {q : Int × Int} (h : MutT C H D as qss) (ha : as[i]? = some a) (hy : H a = some (.lst ys)) (hq : qss[i]? = some qs) (hp : RatAt C H p q) :
    MutT C (upd H a (.lst (ys.set j (.ref p)))) D as (qss.set i (qs.set j q)) := by
  have nDa : D ≠ a := fun e => h.no (by rw [e]; exact List.mem_of_getElem? ha)
  refine ⟨by rw [upd_ne nDa]; exact h.at_, h.nd, h.no, by rw [List.length_set]; exact h.len, fun k b hb => ?_⟩
  obtain ⟨zs, rs, h1, h2, h3⟩ := h.row k b hb
  have hk := lt_of_at h1
  by_cases e : k = i
  · subst e
    rw [ha] at hb
    cases hb
    rw [hy] at h2
    cases h2
    rw [hq] at h1
    cases h1
    refine ⟨_, _, by rw [List.getElem?_set_self hk], upd_same, ?_⟩
    exact rats_but hy smx_upd (rats_set hp h3)
  · have nba : b ≠ a := fun z => by
      subst z
      exact e ((List.getElem?_inj (lt_of_at hb) h.nd).mp (hb.trans ha.symm))
    exact ⟨zs, rs, by rw [List.getElem?_set_ne (fun z => e z.symm)]; exact h1, by rw [upd_ne nba]; exact h2, rats_but hy smx_upd h3⟩
theorem rt_mk {L C : Addr} {H : Hp} : ∀ {as : List Addr} {qss : List (List (Int × Int))}, as.length = qss.length → L ∉ as → (∀ (i : Nat) (a : Addr), as[i]? = some a → ∃ ys qs, qss[i]? = some qs ∧ H a = some (.lst ys) ∧ RatsP C H ys qs) → RtRows L C H (as.map V.ref) qss
  | [], [], _, _, _ => trivial
  | a :: as, qs :: qss, hl, hn, h => by
    obtain ⟨ys, rs, h1, h2, h3⟩ := h 0 a rfl
    cases h1
    exact ⟨⟨a, ys, rfl, fun e => hn (by rw [e]; simp), h2, h3⟩, rt_mk (by simpa using hl) (fun e => hn (List.mem_cons_of_mem _ e)) fun i b hb => h (i + 1) b (by simpa using hb)⟩
  | [], _ :: _, hl, _, _ => by simp at hl
  | _ :: _, [], hl, _, _ => by simp at hl
theorem mut_rtt {C D : Addr} {H : Hp} {as : List Addr} {qss : List (List (Int × Int))} (h : MutT C H D as qss) : RtTab C H D qss := ⟨_, h.at_, rt_mk h.len h.no h.row⟩
/-- the line's numbers on the line, z at the pairs, 0 else -/
def withQ (n : Nat) (line : List (Int × Int)) (ps : List (Int × Int)) (z : Int × Int) : List (List (Int × Int)) :=
  tabQ n fun a b => if ((a : Int), (b : Int)) ∈ ps then z else if a = b then line[a]?.getD (0, 1) else (0, 1)
def spTabWith (K : PySem.W.Frag) (C : Addr) : Sp := fun vs H Q _ => ∃ (l u : Addr) (v : V) (xs : List V) (line ps : List (Int × Int)) (z : Int × Int), vs = [.ref l, .ref u, v] ∧ SqL K H l xs ∧ NumsP C H xs line ∧ line.length ≤ 6 ∧ PL K H u ps ∧ (∀ p ∈ ps, 0 ≤ p.1 ∧ p.1 < line.length ∧ 0 ≤ p.2 ∧ p.2 < line.length) ∧ NumAt C H v z ∧
  NewTab C H Q (withQ line.length line ps z)
/-- 1 on the line, 0 else -/
def idleQ (n : Nat) : List (List (Int × Int)) := tabQ n fun a b => if a = b then (1, 1) else (0, 1)
def spIdleT (C : Addr) : Sp := fun vs H Q _ => ∃ n : Nat, vs = [.int n] ∧ n ≤ 6 ∧ NewTab C H Q (idleQ n)
section
variable {P : Program} {w : World} {K : PySem.W.Frag} {mg : Str → Option Value} {base : Heap}
abbrev nTabWith : List Str := ["line", "pairs", "number", "places", "found", "_", "place", "row"]
theorem sc_tabWith : FnScope nTabWith ["line", "pairs", "number"] (defScope sTabWith) := ⟨rfl, rfl, rfl, by decide +kernel, rfl, by decide +kernel, by decide +kernel⟩
theorem place_ix {n i : Nat} {xs : List V} {v : V} (h : xs[i]? = some v) : atI xs (0 + (i : Int)) = some v := by
  rw [Int.zero_add]
  exact atI_nat h
theorem ixN_z {n i : Nat} (h : i < n) : ixN n (0 + (i : Int)) = some i := by
  unfold ixN
  rw [Int.zero_add, if_pos (by omega), if_pos (by omega)]
  simp
theorem ixN_p {n : Nat} {i : Int} (h0 : 0 ≤ i) (h : i < (n : Int)) : ixN n i = some i.toNat := by
  unfold ixN
  rw [if_pos h0, if_pos h]
theorem atI_p {xs : List V} {i : Int} {v : V} (h0 : 0 ≤ i) (h : xs[i.toNat]? = some v) : atI xs i = some v := by
  have : i = ((i.toNat : Nat) : Int) := by omega
  rw [this]
  exact atI_nat h
theorem ok_tabWith {f f1 f2 fI C : Addr} {fd fd1 fd2 dI : FuncData} (F : Fun K "table_with" "table_with" sTabWith f fd) (M : RtM K mg C fI dI) (D1 : Df K mg "is_integer" sIsInt ["value"] f1 fd1) (D2 : Df K mg "as_ratio" sAsRat ["number"] f2 fd2) (B : Bl mg) :
    FnOk P w K mg base CX0 5 f fd ["line", "pairs", "number"] (spTabWith K C) := by
  have G2 : FnOk P w K mg base CX0 4 f2 fd2 ["number"] (spAsR C) := ok_asr D2.F M D1 B
  have GI : FnOk P w K mg base CX0 2 fI dI ["self", "top", "bottom"] (spRInit C) := ok_rinit M.FI M.c D1 B
  obtain ⟨tk, b1⟩ := M.bI1
  refine F.ok sc_tabWith (fun vs H Q E h => ?_) (fun cdv A outer s H vs Q E hr h => ?_)
  · obtain ⟨l, u, v, xs, line, ps, z, rfl, _⟩ := h
    rfl
  · obtain ⟨l, u, v, xs, line, ps, z, rfl, hl, hn, few, hps, rng, hz, q⟩ := h
    have lx := (nums_at hn).1
    refine ⟨_, pss_cons (ps_set (i := 3) sc_tabWith.nd rfl (Or.inr rfl) (pe_callTy RgX.cr_range1 (by rfl) B.range PyProof.Rows.boot_range (pa_cons (pe_callB call_len_seq (by rfl) B.len PySem.boot_len (pa_cons (pv 0) pa_nil)) pa_nil)))
      (pss_cons (ps_setLc (i := 4) (own := [("_", 5)]) (g := gName 5) (tt := tYes) (te := tLc (RgX.iRgV (tVar 3)) (gName 5) tYes (tMake C (spRInit C) [V.int 1] E0 (tCons (tC (.int 0)) tNil)) [5]) rfl sc_tabWith.nd rfl rfl (sw_true rfl rfl rfl (by decide +kernel)) (RgX.pi_rgV (pv 3)) (blkOk_by (N := nTabWith) (sc := defScope sTabWith) (by decide +kernel))
        (fun _ _ _ _ _ => pg_name (i := 5) sc_tabWith.nd rfl (Or.inl rfl)) (fun _ _ _ _ _ => pts_nil)
        (fun _ _ _ _ _ => pe_lc (own := [("_", 5)]) (g := gName 5) (tt := tYes) (te := tMake C (spRInit C) [V.int 1] E0 (tCons (tC (.int 0)) tNil)) rfl sc_tabWith.nd (RgX.pi_rgV (pv 3)) (blkOk_by (N := nTabWith) (sc := { kind := .function, names := [(".0", .local), ("_", .local), ("places", .cell)], isGenerator := false, isCoroutine := false }) (by decide +kernel))
          (fun _ _ _ _ _ => pg_name (i := 5) sc_tabWith.nd rfl (Or.inl rfl)) (fun _ _ _ _ _ => pts_nil)
          (fun _ _ _ _ _ => pe_make M.mkr GI (hr.mono (by decide)) rfl M.c.mgC b1 (dvs := [V.int 1]) (.cons ⟨tk, rfl⟩ .nil) pass0 (pa_cons pe_int pa_nil))))
      (pss_cons (ps_for PassesOwn.never rfl (RgX.pi_rgV (pv 3)) (pg_name (i := 6) sc_tabWith.nd rfl (Or.inl rfl))
        (pss_one (ps_asg (pe_call G2 hr rfl D2.g D2.F.kp D2.b .nil pass0 (pa_cons (pe_ix ix_list (pv 0) (pv 6) (fun _ _ => rfl)) pa_nil)) (pg_sub (pe_ix ix_list (pv 4) (pv 6) (fun _ _ => rfl)) (pv 6) set_list))))
      (pss_cons (ps_for PassesOwn.never rfl (pi_list (pv 1)) (pg_tup rfl (pgs_cons (pg_name (i := 7) sc_tabWith.nd rfl (Or.inl rfl)) (pgs_cons (pg_name (i := 6) sc_tabWith.nd rfl (Or.inl rfl)) pgs_nil)))
        (pss_one (ps_asg (pe_call G2 hr rfl D2.g D2.F.kp D2.b .nil pass0 (pa_cons (pv 2) pa_nil)) (pg_sub (pe_ix ix_list (pv 4) (pv 7) (fun _ _ => rfl)) (pv 6) set_list))))
      (pss_one (ps_ret (pv 4)))))), ?_⟩
    refine ⟨_, rfl, l, xs, rfl, .inl hl, _, rfl, fun rg hrg => ?_⟩
    have s1 := same_new (o := .rng 0 (xs.length : Nat)) hrg
    have hrg1 : (upd H rg (.rng 0 (xs.length : Nat))) rg = some (.rng 0 (xs.length : Nat)) := upd_same
    generalize upd H rg (.rng 0 (xs.length : Nat)) = H1 at s1 hrg1
    have bnd : (-(2 ^ 62) : Int) ≤ 0 ∧ (0 : Int) < 2 ^ 62 ∧ (-(2 ^ 62) : Int) ≤ (xs.length : Nat) ∧ ((xs.length : Nat) : Int) < 2 ^ 62 := ⟨by decide, by decide, by omega, by omega⟩
    refine ⟨_, rfl, rg, 0, _, rfl, hrg1, bnd, fun D hD => ?_⟩
    rw [show (((xs.length : Nat) : Int) - 0).toNat = xs.length by omega]
    refine lc_range (lo := 0) (n := xs.length) (fun k G => Same H1 G ∧ ∃ as : List Addr, G D = some (.lst (as.map V.ref)) ∧ as.length = k ∧ as.Nodup ∧ D ∉ as ∧ ∀ a ∈ as, H1 a = none ∧ ∃ ys, G a = some (.lst ys) ∧ RatsP C G ys (List.replicate xs.length (0, 1)))
      ⟨same_new hD, [], upd_same, rfl, List.Pairwise.nil, by simp, fun a h => by simp at h⟩ ?_ ?_
    · rintro k G hk ⟨sG, as, hacc, hlen, nd, no, hrows⟩
      refine ⟨rfl, _, rfl, rg, 0, _, rfl, sG _ _ hrg1, bnd, fun D2 hD2 => ?_⟩
      rw [show (((xs.length : Nat) : Int) - 0).toNat = xs.length by omega]
      have nDD : D2 ≠ D := fun e => by rw [e, hacc] at hD2; cases hD2
      refine lc_range (lo := 0) (n := xs.length) (fun j G2 => Same G G2 ∧ ∃ ac, G2 D2 = some (.lst ac) ∧ RatsP C G2 ac (List.replicate j (0, 1))) ⟨same_new hD2, [], upd_same, by simp [RatsP]⟩ ?_ ?_
      · rintro j G2 hj ⟨s2, ac, hac, hQ⟩
        refine ⟨rfl, fun x dx nx ndx nex => ?_⟩
        have sm : Same G2 (upd (upd G2 dx (.own x)) x (.ins C dx [])) := fun b o e => by
          rw [upd_ne (ne_of_none e nx), upd_ne (ne_of_none e ndx)]
          exact e
        refine ⟨x, dx, 0, 1, rfl, upd_same, by decide, by decide, fun H' keep hr' => ⟨rfl, ?_⟩⟩
        have s3 : Same G2 H' := fun b o e => keep b o (ne_of_none e nx) (sm b o e)
        rw [low_one] at hr'
        have fewj := (rats_at hQ).1
        rw [List.length_replicate] at fewj
        refine ⟨ac, s3 _ _ hac, szlt (by omega), same_mut (s2.trans s3) hD2, ac ++ [.ref x], upd_same, ?_⟩
        rw [List.replicate_succ']
        exact rats_but (s3 _ _ hac) smx_upd (rats_app (rats_s s3 hQ) ⟨⟨x, rfl, hr'⟩, trivial⟩)
      · rintro G2 ⟨s2, ac, hac, hQ⟩
        have nin : D2 ∉ as := fun e => by
          obtain ⟨_, ys, h1, _⟩ := hrows D2 e
          rw [hD2] at h1
          cases h1
        refine ⟨as.map V.ref, s2 _ _ hacc, szlt (by rw [List.length_map]; omega), same_mut (sG.trans s2) hD, as ++ [D2], by rw [List.map_append]; exact upd_same, by rw [List.length_append, hlen]; rfl, ?_, ?_, fun a ha => ?_⟩
        · rw [List.nodup_append]
          refine ⟨nd, List.pairwise_singleton _ _, fun a ha b hb e => nin ?_⟩
          rw [List.mem_singleton] at hb
          rw [← hb, ← e]
          exact ha
        · intro h
          rcases List.mem_append.mp h with h | h
          · exact no h
          · exact nDD (List.mem_singleton.mp h).symm
        · rcases List.mem_append.mp ha with h | h
          · obtain ⟨f1, ys, h1, h2⟩ := hrows a h
            have naD : a ≠ D := fun e => no (by rw [← e]; exact h)
            exact ⟨f1, ys, by rw [upd_ne naD]; exact s2 _ _ h1, rats_but (s2 _ _ hacc) smx_upd (rats_s s2 h2)⟩
          · rw [List.mem_singleton.mp h]
            exact ⟨sG.free hD2, ac, by rw [upd_ne nDD]; exact hac, rats_but (s2 _ _ hacc) smx_upd hQ⟩
    rintro G ⟨sG, as, hacc, hlen, nd, no, hrows⟩
    have fresh : ∀ a ∈ as, H1 a = none := fun a h => (hrows a h).1
    have M0 : MutT C G D as (tabQ line.length fun _ _ => (0, 1)) := by
      refine ⟨hacc, nd, no, by rw [tabQ_len]; omega, fun i a ha => ?_⟩
      obtain ⟨_, ys, h1, h2⟩ := hrows a (List.mem_of_getElem? ha)
      have hi := lt_of_at ha
      refine ⟨ys, _, tabQ_at (by omega), h1, ?_⟩
      rw [show ((List.range line.length).map fun _ => ((0 : Int), (1 : Int))) = List.replicate xs.length (0, 1) by rw [List.map_const', List.length_range, lx]]
      exact h2
    clear hrows hacc
    -- the line
    refine ⟨_, rfl, rg, 0, _, rfl, sG _ _ hrg1, bnd, ?_⟩
    rw [show (((xs.length : Nat) : Int) - 0).toNat = xs.length by omega]
    refine for_range (lo := 0) (n := xs.length) (fun k σ G => ∃ (v6 v7 : Option V), σ = [some (.ref l), some (.ref u), some v, some (.ref rg), some (.ref D), none, v6, v7] ∧ Same H1 G ∧ MutT C G D as (tabQ line.length fun a b => if a = b ∧ a < k then line[a]?.getD (0, 1) else (0, 1)))
      ⟨_, _, rfl, sG, by simpa using M0⟩ ?_ ?_
    · rintro k σ G hk ⟨v6, v7, rfl, sG, MT⟩
      obtain ⟨x, hx⟩ : ∃ x, xs[k]? = some x := ⟨_, List.getElem?_eq_getElem hk⟩
      obtain ⟨y, hy, hnum⟩ := (nums_at hn).2 k x hx
      have hnum' := num_s hnum (s1.trans sG)
      refine ⟨_, rfl, _, rfl, l, xs, _, _, rfl, rfl, same_l (s1.trans sG) hl, place_ix (n := 0) hx, x, y, rfl, hnum', fun G3 p s3 hp => ?_⟩
      have MT3 := mut_s MT s3
      obtain ⟨a, ha⟩ : ∃ a, as[k]? = some a := ⟨_, List.getElem?_eq_getElem (by omega)⟩
      obtain ⟨ys, qs, e1, e2, e3⟩ := MT3.row k a ha
      have ly := (rats_at e3).1
      rw [tabQ_at (by omega)] at e1
      cases e1
      rw [List.length_map, List.length_range] at ly
      refine ⟨_, rfl, _, rfl, D, _, _, _, rfl, rfl, sl_of MT3.at_, place_ix (n := 0) (v := .ref a) (by rw [List.getElem?_map, ha]; rfl), _, rfl, a, ys, _, k, rfl, rfl, e2, ixN_z (by omega), ?_⟩
      refine ⟨_, _, rfl, same_mut (sG.trans s3) (fresh a (List.mem_of_getElem? ha)), ?_⟩
      have := mut_set (j := k) MT3 ha e2 (tabQ_at (by omega)) hp
      rw [tabQ_set (by omega)] at this
      rw [show (fun a b => if a = b ∧ a < k + 1 then line[a]?.getD ((0 : Int), (1 : Int)) else (0, 1)) = fun a b => if a = k ∧ b = k then y else if a = b ∧ a < k then line[a]?.getD (0, 1) else (0, 1) from ?_]
      · exact this
      · funext a b
        by_cases c : a = k ∧ b = k
        · rw [if_pos c, if_pos ⟨by omega, by omega⟩, c.1, hy]
          rfl
        · rw [if_neg c]
          by_cases c2 : a = b ∧ a < k
          · rw [if_pos c2, if_pos ⟨c2.1, by omega⟩]
          · rw [if_neg c2, if_neg (fun z => ?_)]
            omega
    rintro σ G ⟨v6, v7, rfl, sG, MT⟩
    have MT0 : MutT C G D as (withQ line.length line [] z) := by
      unfold withQ
      rw [show (tabQ line.length fun a b => if ((a : Int), (b : Int)) ∈ ([] : List (Int × Int)) then z else if a = b then line[a]?.getD (0, 1) else (0, 1)) = tabQ line.length fun a b => if a = b ∧ a < xs.length then line[a]?.getD (0, 1) else (0, 1) from ?_]
      · exact MT
      · unfold tabQ
        refine List.map_congr_left fun a ha => List.map_congr_left fun b hb => ?_
        have := List.mem_range.mp ha
        by_cases c : a = b
        · simp [c]
          omega
        · simp [c]
    clear MT
    -- the pairs
    have hz1 := num_s hz s1
    obtain ⟨ys, hys, hdp⟩ := pl_s hps s1
    have ly := dps_len hdp
    rw [List.length_map] at ly
    refine ⟨_, rfl, u, rfl, ⟨ys, same_l sG hys⟩, for_list (K := K) (a := u) (xs := ys) (fun k σ G => ∃ (v6 v7 : Option V), σ = [some (.ref l), some (.ref u), some v, some (.ref rg), some (.ref D), none, v6, v7] ∧ Same H1 G ∧ MutT C G D as (withQ line.length line (ps.take k) z))
      ⟨_, _, rfl, sG, by simpa using MT0⟩ (fun i σ G _ z => by obtain ⟨_, _, _, z, _⟩ := z; exact same_l z hys) ?_ ?_⟩
    · rintro k w0 σ G hw ⟨v6, v7, rfl, sG, MT⟩
      obtain ⟨pr, t, hpr, rfl, ht⟩ := pl_at hdp hw
      have r := rng pr (List.mem_of_getElem? hpr)
      refine ⟨t, _, rfl, same_t sG ht, rfl, _, _, rfl, _, _, rfl, rfl, ?_⟩
      refine ⟨_, rfl, v, z, rfl, num_s hz1 sG, fun G3 p s3 hp => ?_⟩
      have MT3 := mut_s MT s3
      have i0 : pr.1.toNat < line.length := by omega
      have j0 : pr.2.toNat < line.length := by omega
      obtain ⟨a, ha⟩ : ∃ a, as[pr.1.toNat]? = some a := ⟨_, List.getElem?_eq_getElem (by omega)⟩
      obtain ⟨zs, qs, e1, e2, e3⟩ := MT3.row _ a ha
      have lz := (rats_at e3).1
      unfold withQ at e1
      rw [tabQ_at i0] at e1
      cases e1
      rw [List.length_map, List.length_range] at lz
      refine ⟨_, rfl, _, rfl, D, _, _, _, rfl, rfl, sl_of MT3.at_, atI_p (v := .ref a) r.1 (by rw [List.getElem?_map, ha]; rfl), _, rfl, a, zs, _, pr.2.toNat, rfl, rfl, e2, ixN_p r.2.2.1 (by omega), ?_⟩
      refine ⟨_, _, rfl, same_mut (sG.trans s3) (fresh a (List.mem_of_getElem? ha)), ?_⟩
      have := mut_set (j := pr.2.toNat) MT3 ha e2 (tabQ_at i0) hp
      unfold withQ at this
      rw [tabQ_set i0] at this
      unfold withQ
      rw [take_at hpr]
      rw [show (fun (a b : Nat) => if ((a : Int), (b : Int)) ∈ ps.take k ++ [pr] then z else if a = b then line[a]?.getD ((0 : Int), (1 : Int)) else (0, 1)) = fun a b => if a = pr.1.toNat ∧ b = pr.2.toNat then z else if ((a : Int), (b : Int)) ∈ ps.take k then z else if a = b then line[a]?.getD (0, 1) else (0, 1) from ?_]
      · exact this
      · funext a b
        by_cases c : a = pr.1.toNat ∧ b = pr.2.toNat
        · have e : ((a : Int), (b : Int)) = pr := Prod.ext (by show (a : Int) = pr.1; omega) (by show (b : Int) = pr.2; omega)
          rw [if_pos c, if_pos (by rw [e]; simp)]
        · have e : ((a : Int), (b : Int)) ≠ pr := fun e => c ⟨by rw [← e]; simp, by rw [← e]; simp⟩
          rw [if_neg c]
          by_cases c2 : ((a : Int), (b : Int)) ∈ ps.take k
          · rw [if_pos c2, if_pos (List.mem_append_left _ c2)]
          · rw [if_neg c2, if_neg (fun y => (List.mem_append.mp y).elim c2 fun y => e (List.mem_singleton.mp y))]
    · rintro σ G ⟨v6, v7, rfl, sG, MT⟩
      rw [ly, List.take_length] at MT
      refine ⟨_, rfl, q G D (s1.trans sG) (s1.free hD) (mut_rtt MT) ⟨_, MT.at_, fun x hx => ?_⟩⟩
      obtain ⟨a, ha, rfl⟩ := List.mem_map.mp hx
      exact ⟨a, rfl, s1.free (fresh a ha)⟩
theorem sc_idleT : FnScope ["size"] ["size"] (defScope sIdleT) := ⟨rfl, rfl, rfl, by decide +kernel, rfl, by decide +kernel, by decide +kernel⟩
theorem nums_ints {C : Addr} {H : Hp} : ∀ {is : List Int}, NumsP C H (is.map V.int) (is.map fun i => (i, 1))
  | [] => trivial
  | i :: is => ⟨.inr ⟨i, rfl, rfl⟩, nums_ints⟩
theorem with_idle {n : Nat} {z : Int × Int} : withQ n (List.replicate n (1, 1)) [] z = idleQ n := by
  unfold withQ idleQ tabQ
  refine List.map_congr_left fun a ha => List.map_congr_left fun b hb => ?_
  have := List.mem_range.mp ha
  dsimp only
  rw [if_neg (by simp)]
  by_cases c : a = b
  · rw [if_pos c, if_pos c, List.getElem?_replicate, if_pos this]
    rfl
  · rw [if_neg c, if_neg c]
theorem ok_idleT {f f1 f2 C : Addr} {fd fd1 fd2 : FuncData} (F : Fun K "idle" "idle" sIdleT f fd) (D1 : Df K mg "check_size" sChkSize ["size"] f1 fd1) (G1 : FnOk P w K mg base CX0 4 f1 fd1 ["size"] spChkSize) (D2 : Df K mg "table_with" sTabWith ["line", "pairs", "number"] f2 fd2) (G2 : FnOk P w K mg base CX0 5 f2 fd2 ["line", "pairs", "number"] (spTabWith K C)) :
    FnOk P w K mg base CX0 6 f fd ["size"] (spIdleT C) := by
  refine F.ok sc_idleT (fun vs H Q E h => ?_) (fun cdv A outer s H vs Q E hr h => ?_)
  · obtain ⟨n, rfl, _⟩ := h
    rfl
  · obtain ⟨n, rfl, n6, q⟩ := h
    refine ⟨_, pss_cons (ps_expr (pe_call G1 (hr.mono (by decide)) rfl D1.g D1.F.kp D1.b .nil pass0 (pa_cons (pv 0) pa_nil)))
      (pss_one (ps_ret (pe_call G2 hr rfl D2.g D2.F.kp D2.b .nil pass0 (pa_cons (pe_op op_rep (pe_lst (pa_cons pe_int pa_nil)) (pv 0)) (pa_cons (pe_lst pa_nil) (pa_cons pe_int pa_nil)))))), ?_⟩
    refine ⟨_, rfl, n, rfl, by omega, by omega, ?_⟩
    refine ⟨szle (by show 1 ≤ 100000; decide), fun a ha => ?_⟩
    have s1 := same_new (o := .lst [.int 1]) ha
    refine ⟨_, rfl, a, n, [.int 1], rfl, rfl, upd_same, by omega, by omega, szle (by show 1 * (n : Int).toNat ≤ 100000; omega), fun b hb => ?_⟩
    have s2 := same_new (o := .lst (List.replicate (n : Int).toNat [V.int 1]).flatten) hb
    refine ⟨szle (by show 0 ≤ 100000; decide), fun u hu => ?_⟩
    have s3 := same_new (o := .lst []) hu
    have e1 : (List.replicate (n : Int).toNat [V.int 1]).flatten = (List.replicate n (1 : Int)).map V.int := by
      rw [Int.toNat_natCast]
      clear q n6 s2 s3 hb hu s1
      induction n with
      | zero => rfl
      | succ n ih => rw [List.replicate_succ, List.flatten_cons, ih, List.replicate_succ]; rfl
    rw [e1] at s2 s3 hu ⊢
    have e2 : (List.replicate n (1 : Int)).map (fun i => (i, (1 : Int))) = List.replicate n (1, 1) := by rw [List.map_replicate]
    have e3 := with_idle (n := n) (z := ((0 : Int), (1 : Int)))
    refine ⟨b, u, .int 0, _, _, [], (0, 1), rfl, sl_of (s3 _ _ upd_same), nums_ints, by rw [e2, List.length_replicate]; exact n6, ⟨[], sl_of upd_same, .nil⟩, (fun p h => nomatch h), .inr ⟨0, rfl, rfl⟩, ?_⟩
    rw [e2, List.length_replicate, e3]
    exact fun H' r sH hr0 ht ⟨ys, hy, hN⟩ => q H' r (((s1.trans s2).trans s3).trans sH) (((s1.trans s2).trans s3).free hr0) ht ⟨ys, hy, newl_le hN ((s1.trans s2).trans s3)⟩
end
end Tk

namespace Tk
open PySem PySem.Spec PyProof.Rows L2 ClX
/-! ## the law's own tables: lists of lists of pairs -/
def PtRows (K : PySem.W.Frag) (H : Hp) : List V → List (List (Int × Int)) → Prop
  | [], [] => True
  | x :: xs, q :: qs => (∃ a ys, x = .ref a ∧ H a = some (.lst ys) ∧ PrsP K H ys q) ∧ PtRows K H xs qs
  | _, _ => False
theorem pt_s {K : PySem.W.Frag} {H H' : Hp} (e : Same H H') : ∀ {xs : List V} {qs : List (List (Int × Int))}, PtRows K H xs qs → PtRows K H' xs qs
  | [], [], _ => trivial
  | _ :: _, _ :: _, ⟨⟨a, ys, h1, h2, h3⟩, h⟩ => ⟨⟨a, ys, h1, e _ _ h2, prs_sR e h3⟩, pt_s e h⟩
  | [], _ :: _, h => h.elim
  | _ :: _, [], h => h.elim
theorem pt_app {K : PySem.W.Frag} {H : Hp} : ∀ {xs ys : List V} {qs rs : List (List (Int × Int))}, PtRows K H xs qs → PtRows K H ys rs → PtRows K H (xs ++ ys) (qs ++ rs)
  | [], _, [], _, _, h => h
  | _ :: _, _, _ :: _, _, ⟨h1, h2⟩, h => ⟨h1, pt_app h2 h⟩
  | [], _, _ :: _, _, h, _ => h.elim
  | _ :: _, _, [], _, h, _ => h.elim
theorem pt_len {K : PySem.W.Frag} {H : Hp} : ∀ {xs : List V} {qs : List (List (Int × Int))}, PtRows K H xs qs → xs.length = qs.length
  | [], [], _ => rfl
  | _ :: _, _ :: _, ⟨_, h⟩ => by rw [List.length_cons, List.length_cons, pt_len h]
  | [], _ :: _, h => h.elim
  | _ :: _, [], h => h.elim
theorem pt_at {K : PySem.W.Frag} {H : Hp} : ∀ {xs : List V} {qs : List (List (Int × Int))}, PtRows K H xs qs → ∀ (i : Nat) (x : V), xs[i]? = some x → ∃ q a ys, qs[i]? = some q ∧ x = .ref a ∧ H a = some (.lst ys) ∧ PrsP K H ys q
  | [], [], _, i, x, h => by simp at h
  | x :: xs, q :: qs, ⟨⟨a, ys, h1, h2, h3⟩, h⟩, i, y, hy => by
    cases i with
    | zero =>
      simp at hy
      subst hy
      exact ⟨q, a, ys, rfl, h1, h2, h3⟩
    | succ i => exact pt_at h i y (by simpa using hy)
  | [], _ :: _, h, _, _, _ => h.elim
  | _ :: _, [], h, _, _, _ => h.elim
theorem prs_at {K : PySem.W.Frag} {H : Hp} : ∀ {xs : List V} {qs : List (Int × Int)}, PrsP K H xs qs → xs.length = qs.length ∧ ∀ (i : Nat) (x : V), xs[i]? = some x → ∃ q p, qs[i]? = some q ∧ x = .ref p ∧ PairAt K H p q
  | [], [], _ => ⟨rfl, fun i x h => by simp at h⟩
  | x :: xs, q :: qs, ⟨⟨p, h1, h2⟩, h⟩ => by
    obtain ⟨l, g⟩ := prs_at h
    refine ⟨by simp [l], fun i y hy => ?_⟩
    cases i with
    | zero =>
      simp at hy
      subst hy
      exact ⟨q, p, rfl, h1, h2⟩
    | succ i => exact g i y (by simpa using hy)
  | [], _ :: _, h => h.elim
  | _ :: _, [], h => h.elim
/-- rows stay where a list changes that is none of theirs: told by what rows are new -/
theorem pt_but {K : PySem.W.Frag} {L : Addr} {H : Hp} {zs : List V} {o : HO} (hl : H L = some (.lst zs)) : ∀ {xs : List V} {qs : List (List (Int × Int))}, (∀ x ∈ xs, x ≠ .ref L) → PtRows K H xs qs → PtRows K (upd H L o) xs qs
  | [], [], _, _ => trivial
  | x :: xs, _ :: _, n, ⟨⟨a, ys, h1, h2, h3⟩, h⟩ => ⟨⟨a, ys, h1, by rw [upd_ne (fun e => n x (by simp) (by rw [h1, e]))]; exact h2, prs_butR hl smx_upd h3⟩, pt_but hl (fun y hy => n y (List.mem_cons_of_mem _ hy)) h⟩
  | [], _ :: _, _, h => h.elim
  | _ :: _, [], _, h => h.elim
def LTab (K : PySem.W.Frag) (H : Hp) (r : Addr) (qss : List (List (Int × Int))) : Prop := ∃ xs, H r = some (.lst xs) ∧ PtRows K H xs qss
theorem lt_s {K : PySem.W.Frag} {H H' : Hp} {r : Addr} {qss : List (List (Int × Int))} (h : LTab K H r qss) (e : Same H H') : LTab K H' r qss := let ⟨xs, h1, h2⟩ := h; ⟨xs, e _ _ h1, pt_s e h2⟩
def NewLT (K : PySem.W.Frag) (H : Hp) (Q : VK) (qss : List (List (Int × Int))) : Prop := ∀ (H' : Hp) (r : Addr), Same H H' → H r = none → LTab K H' r qss → NewIn H H' r → Q (.ref r) H'
/-- a table as data -/
def tabD (qss : List (List (Int × Int))) : PyData := .list (qss.map fun qs => .list (qs.map dP))
theorem pt_dps {K : PySem.W.Frag} {H : Hp} : ∀ {xs : List V} {qs : List (List (Int × Int))}, PtRows K H xs qs → DpAll K H xs (qs.map fun q => .list (q.map dP))
  | [], [], _ => .nil
  | x :: xs, q :: qs, ⟨⟨a, ys, h1, h2, h3⟩, h⟩ => by
    rw [h1]
    exact .cons (.lst (sl_of h2) (prs_dps h3)) (pt_dps h)
  | [], _ :: _, h => h.elim
  | _ :: _, [], h => h.elim
theorem lt_dp {K : PySem.W.Frag} {H : Hp} {r : Addr} {qss : List (List (Int × Int))} (h : LTab K H r qss) : Dp K H (.ref r) (tabD qss) := let ⟨xs, h1, h2⟩ := h; .lst (sl_of h1) (pt_dps h2)
theorem eqvs_tab : ∀ {ps qs : List (List (Int × Int))}, PyData.eqvAll (ps.map fun q => .list (q.map dP)) (qs.map fun q => .list (q.map dP)) = decide (ps = qs)
  | [], [] => by simp [PyData.eqvAll]
  | [], q :: qs => by simp [PyData.eqvAll]
  | p :: ps, [] => by simp [PyData.eqvAll]
  | p :: ps, q :: qs => by
    show (PyData.eqv (.list (p.map dP)) (.list (q.map dP)) && PyData.eqvAll (ps.map fun q => .list (q.map dP)) (qs.map fun q => .list (q.map dP))) = _
    rw [eqv_prs, eqvs_tab]
    by_cases c1 : p = q <;> by_cases c2 : ps = qs <;> simp [c1, c2]
theorem eqv_tab {ps qs : List (List (Int × Int))} : PyData.eqv (tabD ps) (tabD qs) = decide (ps = qs) := by
  unfold tabD
  simp only [PyData.eqv]
  exact eqvs_tab
def Sums (qs rs : List (Int × Int)) : Prop := (∀ z ∈ prodsQ qs rs, Small z) ∧ ∀ i, i ≤ (prodsQ qs rs).length → Small (sumQ ((prodsQ qs rs).take i))
def spDotR (K : PySem.W.Frag) : Sp := fun vs H Q _ => ∃ (a b : Addr) (xs ys : List V) (qs rs : List (Int × Int)), vs = [.ref a, .ref b] ∧ SqL K H a xs ∧ PrsP K H xs qs ∧ SqL K H b ys ∧ PrsP K H ys rs ∧ qs.length = rs.length ∧ qs.length ≤ 60 ∧
  (∀ q ∈ qs, Small q) ∧ (∀ r ∈ rs, Small r) ∧ Sums qs rs ∧ ∀ H' r, Same H H' → PairAt K H' r (sumQ (prodsQ qs rs)) → Q (.ref r) H'
def spColR (K : PySem.W.Frag) : Sp := fun vs H Q _ => ∃ (a : Addr) (n : Nat) (qss : List (List (Int × Int))), vs = [.ref a] ∧ LTab K H a qss ∧ qss.length = n ∧ (∀ qs ∈ qss, qs.length = n) ∧ 0 < n ∧ n ≤ 60 ∧ NewLT K H Q (colsQ n qss)
def spLedR (K : PySem.W.Frag) : Sp := fun vs H Q _ => ∃ (a b : Addr) (n : Nat) (xs : List V) (qs : List (Int × Int)) (rss : List (List (Int × Int))), vs = [.ref a, .ref b] ∧ H a = some (.lst xs) ∧ PrsP K H xs qs ∧ qs.length = n ∧ LTab K H b rss ∧ rss.length = n ∧ (∀ rs ∈ rss, rs.length = n) ∧ 0 < n ∧ n ≤ 60 ∧
  (∀ q ∈ qs, Small q) ∧ (∀ cs ∈ colsQ n rss, (∀ r ∈ cs, Small r) ∧ Sums qs cs) ∧ ∀ (H' : Hp) (r : Addr) (ys : List V), Same H H' → H r = none → H' r = some (.lst ys) → PrsP K H' ys ((colsQ n rss).map fun cs => sumQ (prodsQ qs cs)) → Q (.ref r) H'
def spTimR (K : PySem.W.Frag) : Sp := fun vs H Q _ => ∃ (a b : Addr) (n : Nat) (qss rss : List (List (Int × Int))), vs = [.ref a, .ref b] ∧ LTab K H a qss ∧ LTab K H b rss ∧ qss.length = n ∧ rss.length = n ∧ (∀ qs ∈ qss, qs.length = n) ∧ (∀ qs ∈ rss, qs.length = n) ∧ 0 < n ∧ n ≤ 60 ∧
  (∀ qs ∈ qss, (∀ q ∈ qs, Small q) ∧ ∀ cs ∈ colsQ n rss, (∀ r ∈ cs, Small r) ∧ Sums qs cs) ∧ NewLT K H Q (timesQ n qss rss)
def spIdleR (K : PySem.W.Frag) : Sp := fun vs H Q _ => ∃ n : Nat, vs = [.int n] ∧ n ≤ 60 ∧ NewLT K H Q (idleQ n)
section
variable {P : Program} {w : World} {K : PySem.W.Frag} {mg : Str → Option Value} {base : Heap}
abbrev nDotR : List Str := ["_law_row_here", "_law_other", "_law_near", "_law_far"]
abbrev nColR : List Str := ["_law_table_here", "_law_place", "_law_row_here"]
abbrev nLedR : List Str := ["_law_row_here", "_law_table_here", "_law_column"]
abbrev nTimR : List Str := ["_law_table_here", "_law_other", "_law_row_here"]
abbrev nIdleR : List Str := ["_law_size", "_law_at", "_law_to"]
abbrev teIdle : L2.TE := tTup (tCons (tCB (fun xs H Q => (∃ i, xs = [V.int i] ∧ Q (.int i) H) ∨ ∃ k, xs = [V.bl k] ∧ Q (.int (if k then 1 else 0)) H) (tCons (tOp rEq (tVar 1) (tVar 2)) tNil)) (tCons (tC (.int 1)) tNil))
end
end Tk

namespace Tk
open PySem PySem.Spec PyProof.Rows L2
/-! ## a heap without two of its places -/
def xr (a D : Addr) (H : Hp) : Hp := fun b => if b = a ∨ b = D then none else H b
theorem xr_le {a D : Addr} {H : Hp} : Same (xr a D H) H := fun b o h => by
  unfold xr at h
  split at h
  · cases h
  · exact h
theorem xr_get {a D b : Addr} {H : Hp} {o : HO} (h1 : b ≠ a) (h2 : b ≠ D) (h : H b = some o) : xr a D H b = some o := by
  unfold xr
  rw [if_neg (by rintro (h | h); exact h1 h; exact h2 h)]
  exact h
theorem xr_x {a D : Addr} {H H' : Hp} (e : SmX a H H') : Same (xr a D H) (xr a D H') := fun b o h => by
  unfold xr at h ⊢
  split at h
  · cases h
  · rename_i c
    rw [if_neg c]
    exact e b o (fun z => c (.inl z)) h
theorem xr_s {a D : Addr} {H H' : Hp} (e : Same H H') : Same (xr a D H) (xr a D H') := xr_x (smx_of e)
theorem xr_up {a D : Addr} {H : Hp} {o : HO} : Same (xr a D H) (xr a D (upd H D o)) := fun b o' h => by
  unfold xr at h ⊢
  split at h
  · cases h
  · rename_i c
    rw [if_neg c, upd_ne (fun z => c (.inr z))]
    exact h
theorem xr_new {a D : Addr} {H : Hp} {o : HO} (hD : H D = none) : Same (xr a a H) (xr a D (upd H D o)) := fun b o' h => by
  unfold xr at h ⊢
  split at h
  · cases h
  · rename_i c
    have nb : b ≠ D := fun z => by rw [z, hD] at h; cases h
    rw [if_neg (by rintro (z | z); exact c (.inl z); exact nb z), upd_ne nb]
    exact h
theorem xr_sub {a D : Addr} {H : Hp} : Same (xr a D H) (xr a a H) := fun b o h => by
  unfold xr at h ⊢
  split at h
  · cases h
  · rename_i c
    rw [if_neg (fun z => c (.inl (z.elim id id)))]
    exact h
theorem xr_ne {a D b : Addr} {H : Hp} {o : HO} (h : xr a D H b = some o) : b ≠ a ∧ b ≠ D := by
  unfold xr at h
  split at h
  · cases h
  · rename_i c
    exact ⟨fun z => c (.inl z), fun z => c (.inr z)⟩
theorem potF {H : Hp} {a c : Addr} (p : Pot H a) (h : H c = none) : c ≠ a := fun e => by obtain ⟨u, v, g, _⟩ := p; rw [e, g] at h; cases h
theorem potS {G G' : Hp} {a : Addr} (h : Pot G a) (e : Same G G') : Pot G' a := let ⟨x, y, g, o⟩ := h; ⟨x, y, e _ _ g, o⟩
theorem potU {G : Hp} {a D : Addr} {o : HO} (h : Pot G a) (n : D ≠ a) : Pot (upd G D o) a := let ⟨x, y, g, z⟩ := h; ⟨x, y, by rw [upd_ne n.symm]; exact g, z⟩
theorem smxU {H G : Hp} {a D : Addr} {o : HO} (h : SmX a H G) (n : H D = none) : SmX a H (upd G D o) := fun b z nb hb => by
  rw [upd_ne (fun e => by rw [e, n] at hb; cases hb)]
  exact h b z nb hb
theorem smxF {H G : Hp} {a D : Addr} (h : SmX a H G) (n : D ≠ a) (hD : G D = none) : H D = none := smx_free h n hD
end Tk

namespace Tk
open PySem PySem.Spec PyProof.Rows L2
/-! ## the law's own walks within a lot -/
def freshU (as : List (Int × Int)) (l fo : List Int) (x : Int) : List Int := (as.filter fun p => decide (p.2 = x) && decide (p.1 ∈ l) && !decide (p.1 ∈ fo)).map (·.1)
theorem mem_freshU {as : List (Int × Int)} {l fo : List Int} {x y : Int} : y ∈ freshU as l fo x ↔ (x, y) ∈ upLaw as l ∧ y ∉ fo := by
  rw [mem_upLaw]
  unfold freshU
  simp only [List.mem_map, List.mem_filter, Bool.and_eq_true, decide_eq_true_eq, Bool.not_eq_true', decide_eq_false_iff_not]
  constructor
  · rintro ⟨⟨a, b⟩, ⟨h1, ⟨h2, h3⟩, h4⟩, rfl⟩
    simp at h2
    subst h2
    exact ⟨⟨h1, h3⟩, h4⟩
  · rintro ⟨⟨h1, h2⟩, h3⟩
    exact ⟨(y, x), ⟨h1, ⟨rfl, h2⟩, h3⟩, rfl⟩
theorem freshU_nd {as : List (Int × Int)} (hn : as.Nodup) (l fo : List Int) (x : Int) : (freshU as l fo x).Nodup := by
  unfold freshU
  show List.Pairwise _ _
  rw [List.pairwise_map]
  have h : (as.filter fun p => decide (p.2 = x) && decide (p.1 ∈ l) && !decide (p.1 ∈ fo)).Nodup := hn.filter _
  refine List.Pairwise.imp_of_mem (fun {a b} ha hb hne e => hne ?_) h
  have h1 := (List.mem_filter.mp ha).2
  have h2 := (List.mem_filter.mp hb).2
  simp at h1 h2
  exact Prod.ext e (h1.1.1.trans h2.1.1.symm)
theorem freshU_len (as : List (Int × Int)) (l fo : List Int) (x : Int) : (freshU as l fo x).length ≤ as.length := by
  unfold freshU
  rw [List.length_map]
  exact List.length_filter_le ..
theorem freshU_take {as : List (Int × Int)} {l fo : List Int} {x : Int} {i : Nat} {p : Int × Int} (h : as[i]? = some p) :
    freshU (as.take (i + 1)) l fo x = if p.2 = x ∧ p.1 ∈ l ∧ p.1 ∉ fo then freshU (as.take i) l fo x ++ [p.1] else freshU (as.take i) l fo x := by
  unfold freshU
  rw [take_at h, List.filter_append, List.map_append]
  by_cases c : p.2 = x ∧ p.1 ∈ l ∧ p.1 ∉ fo
  · rw [if_pos c]
    simp [c.1, c.2.1, c.2.2]
  · rw [if_neg c]
    by_cases c1 : p.2 = x
    · by_cases c2 : p.1 ∈ l
      · have c3 : p.1 ∈ fo := Classical.byContradiction fun z => c ⟨c1, c2, z⟩
        simp [c3]
      · simp [c2]
    · simp [c1]
theorem range_up {n : Nat} {as : List (Int × Int)} {l : List Int} (lot : Lot n l) : ∀ p ∈ upLaw as l, p.2 ∈ things n := fun ⟨x, y⟩ hp => lot.2 y (mem_upLaw.mp hp).2
theorem at_nat {l : List Int} {k : Nat} {x : Int} (h : l[k]? = some x) : atI (l.map V.int) ((k : Nat) : Int) = some (V.int x) := atI_nat (by rw [List.getElem?_map, h]; rfl)
def spLeaders (K : PySem.W.Frag) : Sp := fun vs H Q _ => ∃ (a b : Addr) (n : Nat) (as : List (Int × Int)) (l : List Int) (x : Int), vs = [.ref a, .ref b, .int x] ∧ PL K H a as ∧ n ≤ 60 ∧ Prs n as ∧ SqL K H b (l.map V.int) ∧ Lot n l ∧ x ∈ l ∧
  ∀ (H' : Hp) (r : Addr) (ns : List Int), Same H H' → H r = none → H' r = some (.lst (ns.map V.int)) → (ns = l ↔ IsHead as l x) → Q (.ref r) H'
def spHeads (K : PySem.W.Frag) : Sp := fun vs H Q _ => ∃ (a b : Addr) (n : Nat) (as : List (Int × Int)) (l : List Int), vs = [.ref a, .ref b] ∧ PL K H a as ∧ n ≤ 60 ∧ Prs n as ∧ SqL K H b (l.map V.int) ∧ Lot n l ∧
  ∀ (H' : Hp) (r : Addr), Same H H' → H r = none → H' r = some (.lst ((headsL as l).map V.int)) → Q (.ref r) H'
section
variable {P : Program} {w : World} {K : PySem.W.Frag} {mg : Str → Option Value} {base : Heap}
abbrev nLead : List Str := ["_law_arrows", "_law_lot", "_law_thing", "_law_found", "_law_ahead", "_law_one", "_law_other"]
theorem headsL_take {as : List (Int × Int)} {l : List Int} {i : Nat} {x : Int} (h : l[i]? = some x) : (l.take (i + 1)).filter (headB as l) = if headB as l x = true then (l.take i).filter (headB as l) ++ [x] else (l.take i).filter (headB as l) := by
  rw [take_at h, List.filter_append]
  by_cases c : headB as l x = true
  · rw [if_pos c, List.filter_cons_of_pos c]; rfl
  · rw [if_neg c, List.filter_cons_of_neg c]; simp
end
end Tk

namespace Tk
open PySem PySem.Spec PyProof.Rows L2
def one1 (l : List Int) (p : Int × Int) : List (Int × Int) := if p.2 ∈ l then [p] else []
def dnT (l : List Int) (ts : List (Int × Int)) : List (Int × Int) := ts.flatMap fun p => one1 l p ++ one1 l (swp p)
theorem dnT_take {l : List Int} {ts : List (Int × Int)} {i : Nat} {p : Int × Int} (h : ts[i]? = some p) : dnT l (ts.take (i + 1)) = dnT l (ts.take i) ++ one1 l p ++ one1 l (swp p) := by
  unfold dnT
  rw [take_at h, List.flatMap_append]
  simp
theorem dnT_full {l : List Int} {ts : List (Int × Int)} {p : Int × Int} (h : p ∈ tieLaw ts l) : p ∈ dnT l ts := by
  obtain ⟨x, y⟩ := p
  obtain ⟨h1, h2⟩ := mem_tieLaw.mp h
  unfold dnT
  rw [List.mem_flatMap]
  rcases h1 with h1 | h1
  · refine ⟨(x, y), h1, List.mem_append_left _ ?_⟩
    unfold one1
    rw [if_pos h2]; simp
  · refine ⟨(y, x), h1, List.mem_append_right _ ?_⟩
    unfold one1
    rw [if_pos (show (swp (y, x)).2 ∈ l from h2)]
    simp [swp]
theorem hinv_len {n : Nat} {ps : List (Int × Int)} {st x : Int} {fo0 fo : List Int} {dn : List (Int × Int)} (h : HInv n ps st x fo0 fo dn) : fo.length ≤ n := by
  have := nodup_le h.nd (m := things n) (fun x hx => h.th x hx)
  rw [things_len] at this
  exact this
/-- one of the two looks at a tie -/
theorem half {K : PySem.W.Frag} {D : Ends} {σ : L2.St} {G : Hp} {i k : Nat} {T : String} {b pf : Addr} {n ka : Nat} {ps dn : List (Int × Int)} {st x u v : Int} {fo0 fo1 l : List Int}
    (h1 : σ[1]? = some (some (.ref b))) (h3 : σ[3]? = some (some (.ref pf))) (h4 : σ[4]? = some (some (.int (ka : Int)))) (hi : σ[i]? = some (some (.int u))) (hk : σ[k]? = some (some (.int v)))
    (hl : SqL K G b (l.map V.int)) (hf : G pf = some (.lst (fo1.map V.int))) (e0 : fo0[ka]? = some x) (inv : HInv n ps st x fo0 fo1 dn) (hx : Reach ps st x) (hn : n ≤ 60)
    (hp : v ∈ l → (u, v) ∈ ps) (lv : ∀ y ∈ l, y ∈ things n) (hT : T = "list")
    (q : ∀ (G' : Hp) (fo2 : List Int), (G' = G ∨ ∃ o, G' = upd G pf o) → G' pf = some (.lst (fo2.map V.int)) → HInv n ps st x fo0 fo2 (dn ++ one1 l (u, v)) → D.nx σ G') :
    tIfS (tAnd (tTest (tOp rEq (tVar i) (tOp (rIxL K) (tVar 3) (tVar 4)))) (tAnd (tTest (tOp (rIn K false) (tVar k) (tVar 1))) (tTest (tOp (rIn K true) (tVar k) (tVar 3)))))
      (tDrop (tBM K T rAppend (tVar 3) (tCons (tVar k) tNil))) tNext D σ G := by
  subst hT
  have at1 : fo1[ka]? = some x := pre_at inv.pre e0
  have few := hinv_len inv
  refine ⟨_, hi, _, h3, _, h4, pf, _, _, _, rfl, rfl, sl_of hf, at_nat at1, rfl, decide (u = x), dec_bl, ?_⟩
  by_cases c1 : u = x
  · rw [decide_eq_true c1]
    refine ⟨_, hk, _, h1, b, _, rfl, .inl hl, rfl, flat_ints l, _, in_bl, ?_⟩
    by_cases c2 : v ∈ l
    · rw [decide_eq_true c2]
      have eo : one1 l (u, v) = [(u, v)] := if_pos c2
      rw [eo] at q
      refine ⟨_, hk, _, h3, pf, _, rfl, .inl (sl_of hf), rfl, flat_ints fo1, _, notin_bl, ?_⟩
      by_cases c3 : v ∈ fo1
      · rw [decide_eq_true c3]
        exact iteF (q G fo1 (.inl rfl) hf (hinv_no inv fun _ => c3))
      · rw [decide_eq_false c3]
        refine ⟨_, h3, .inl ⟨rfl, _, sl_of hf⟩, _, hk, pf, _, _, rfl, rfl, hf, szlt (by rw [List.length_map]; omega), ?_⟩
        refine q _ (fo1 ++ [v]) (.inr ⟨_, rfl⟩) (by rw [upd_same, List.map_append]; rfl) ?_
        have := hinv_put inv hx (y := v) (by rw [← c1]; exact hp c2) (lv v c2) c3
        rw [← c1] at this
        rw [← c1]
        exact this
    · rw [decide_eq_false c2]
      have eo : one1 l (u, v) = [] := if_neg c2
      rw [eo, List.append_nil] at q
      exact iteF (q G fo1 (.inl rfl) hf inv)
  · rw [decide_eq_false c1]
    refine iteF (q G fo1 (.inl rfl) hf ?_)
    unfold one1
    by_cases c2 : v ∈ l
    · rw [if_pos c2]
      exact hinv_no inv fun e => absurd e c1
    · rw [if_neg c2, List.append_nil]
      exact inv
theorem range_tie {n : Nat} {ts : List (Int × Int)} {l : List Int} (lot : Lot n l) : ∀ p ∈ tieLaw ts l, p.2 ∈ things n := fun ⟨x, y⟩ hp => lot.2 y (mem_tieLaw.mp hp).2
def spHungX (K : PySem.W.Frag) : Sp := fun vs H Q _ => ∃ (a b : Addr) (n : Nat) (ts : List (Int × Int)) (l : List Int) (x : Int), vs = [.ref a, .ref b, .int x] ∧ PL K H a ts ∧ n ≤ 60 ∧ SqL K H b (l.map V.int) ∧ Lot n l ∧ x ∈ l ∧
  ∀ (H' : Hp) (r : Addr) (ns : List Int), Same H H' → H r = none → H' r = some (.lst (ns.map V.int)) → (ns = l ↔ ∀ y ∈ l, Reach (tieIn ts l) x y) → (∀ y, y ∈ ns ↔ Reach (tieIn ts l) x y) → Q (.ref r) H'
def spHung (K : PySem.W.Frag) : Sp := fun vs H Q _ => ∃ (a b : Addr) (n : Nat) (ts : List (Int × Int)) (l : List Int) (x : Int), vs = [.ref a, .ref b, .int x] ∧ PL K H a ts ∧ n ≤ 60 ∧ SqL K H b (l.map V.int) ∧ Lot n l ∧ x ∈ l ∧
  ∀ (H' : Hp) (r : Addr) (ns : List Int), Same H H' → H r = none → H' r = some (.lst (ns.map V.int)) → (ns = l ↔ ∀ y ∈ l, Reach (tieIn ts l) x y) → Q (.ref r) H'
def spLHangs (K : PySem.W.Frag) : Sp := fun vs H Q _ => ∃ (a b : Addr) (n : Nat) (ts : List (Int × Int)) (l : List Int), vs = [.ref a, .ref b] ∧ PL K H a ts ∧ n ≤ 60 ∧ SqL K H b (l.map V.int) ∧ Lot n l ∧
  ∀ (H' : Hp), Same H H' → Q (.bl (hangB ts l)) H'
section
variable {P : Program} {w : World} {K : PySem.W.Frag} {mg : Str → Option Value} {base : Heap}
abbrev nHung : List Str := ["_law_ties", "_law_lot", "_law_thing", "_law_found", "_law_ahead", "_law_one", "_law_other"]
theorem eqv_lnil (l : List Int) : PyData.eqv (.list (l.map .int)) (.list []) = decide (l = []) := by
  have := @eqv_lints l []
  exact this
end
end Tk

namespace Tk
open PySem PySem.Spec PyProof.Rows L2
/-! ## sorted, of lists of ints -/
section
open PySem.W
variable {X : Cx}
def rSortedR (K : PySem.W.Frag) : List V → Hp → VK → Prop := fun vs H Q => ∃ (a : Addr) (xs : List V) (os : List (List Int)), vs = [V.ref a] ∧ SqL K H a xs ∧ LsAt H xs os ∧
  ∀ (ys : List V) (os' : List (List Int)) (p : Addr), os'.Perm os → os'.Pairwise (· ≤ ·) → LsAt H ys os' → (∀ y ∈ ys, y ∈ xs) → H p = none → Q (.ref p) (upd H p (.lst ys))
theorem ls_zip {G : Hp} : ∀ {xs : List V} {os : List (List Int)}, LsAt G xs os → xs = (xs.zip os).map Prod.fst ∧ os = (xs.zip os).map Prod.snd ∧ ∀ b ∈ xs.zip os, ∃ r : Addr, b.1 = .ref r ∧ G r = some (.lst (b.2.map V.int))
  | [], [], _ => ⟨rfl, rfl, fun _ h => nomatch h⟩
  | x :: xs, o :: os, ⟨h1, h3⟩ => by
    obtain ⟨a, b, c⟩ := ls_zip h3
    refine ⟨by simp only [List.zip_cons_cons, List.map_cons]; rw [← a], by simp only [List.zip_cons_cons, List.map_cons]; rw [← b], fun z hz => ?_⟩
    simp only [List.zip_cons_cons] at hz
    rcases List.mem_cons.mp hz with e | e
    · rw [e]; exact h1
    · exact c z e
  | [], _ :: _, h => h.elim
  | _ :: _, [], h => h.elim
theorem ls_of {G : Hp} : ∀ {bs : List (V × List Int)}, (∀ b ∈ bs, ∃ r : Addr, b.1 = .ref r ∧ G r = some (.lst (b.2.map V.int))) → LsAt G (bs.map Prod.fst) (bs.map Prod.snd)
  | [], _ => trivial
  | b :: bs, h => ⟨h b (List.mem_cons_self ..), ls_of fun c hc => h c (List.mem_cons_of_mem _ hc)⟩
theorem each_vals : ∀ {bs : List (V × List Int)} {us : List Value}, Vals (bs.map Prod.fst) us → EachIs (fun (v : Value) (b : V × List Int) => RelV b.1 v) us bs
  | [], _, h => by cases h; exact .nil
  | b :: bs, _, h => by
    cases h with
    | cons h1 h2 => exact .cons h1 (each_vals h2)
theorem vals_each : ∀ {bs : List (V × List Int)} {us : List Value}, EachIs (fun (v : Value) (b : V × List Int) => RelV b.1 v) us bs → Vals (bs.map Prod.fst) us
  | _, _, .nil => .nil
  | _, _, .cons h1 h2 => .cons h1 (vals_each h2)
theorem cr_sortedR (hu : X.A.units + 64 < cLine) : CallR X (.builtin "sorted") (rSortedR X.K) := by
  intro pins s σ H vs us Q I r h
  obtain ⟨a, xs, os, rfl, hs, ls, q⟩ := h
  obtain ⟨its, rv, hl, hz⟩ := I.list hs
  rw [Vals.ref1 r]
  obtain ⟨e1, e2, e3⟩ := ls_zip ls
  generalize xs.zip os = bs at e1 e2 e3
  subst e1
  subst e2
  have each := each_vals rv
  have reads : EachIs (fun (v : Value) (b : V × List Int) => ∃ as, Reads s.heap v (PyData.list (b.2.map .int)) as) its bs := by
    clear q hs ls hl hz r
    induction each with
    | nil => exact .nil
    | @cons v b vs' bs' h1 h2 ih =>
      refine .cons ?_ (ih (fun c hc => e3 c (List.mem_cons_of_mem _ hc)) (by cases rv with | cons _ r2 => exact r2))
      obtain ⟨r0, er, hr⟩ := e3 b (List.mem_cons_self ..)
      rw [er] at h1
      exact Dp.reads I _ (.ref r0) v (.lst (sl_of hr) (dps_ints b.2)) h1
  refine sorted_data (enc := fun b : V × List Int => PyData.list (b.2.map .int)) (R := fun (v : Value) (b : V × List Int) => RelV b.1 v) hl.isList each reads (AllAlike.of fun b b' => by simp [alike, alike_ints]) (Sortable.others fun b => ⟨by simp, by simp⟩) (by rw [List.length_map] at hz; exact hz) (fun b hb => ?_) fun out hlen ho => ?_
  · have : PyData.depth (PyData.list (b.2.map .int)) ≤ 1 := by rw [PyData.depth, depth_ints]; exact Nat.le_refl _
    omega
  · rw [dataLe_rows (fun b : V × List Int => b.2)] at ho
    obtain ⟨ep, he'⟩ := PyProof.Rows.sortedAll_at s.heap its out.toArray
    have vo := vals_each ho
    generalize hbs : bs.mergeSort (fun p q => decide (p.2 ≤ q.2)) = bs' at ho vo
    have pm : bs'.Perm bs := by rw [← hbs]; exact List.mergeSort_perm ..
    have srt : bs'.Pairwise (fun p q => decide (p.2 ≤ q.2) = true) := by
      rw [← hbs]
      refine List.pairwise_mergeSort (fun a b c h1 h2 => ?_) (fun a b => ?_) bs
      · simp only [decide_eq_true_eq] at h1 h2 ⊢
        exact List.le_trans h1 h2
      · simp only [Bool.or_eq_true, decide_eq_true_eq]
        exact List.le_total _ _
    refine ⟨.ref _, upd H (s.heap.objs.size + 1) (.lst (bs'.map Prod.fst)), I.laid (t' := s.toks) (fun _ _ => PyProof.Rows.sortedAll_old) (Nat.le_succ _) ⟨by rw [List.length_map, pm.length_eq]; rw [List.length_map] at hz; exact hz, out, ep, vo, he'⟩, rfl, ?_⟩
    refine q _ (bs'.map Prod.snd) _ (pm.map _) ?_ (ls_of fun b hb => e3 b (pm.mem_iff.mp hb)) (fun y hy => ?_) (I.hok.fresh (Nat.le_succ _))
    · rw [List.pairwise_map]
      exact srt.imp fun h => of_decide_eq_true h
    · obtain ⟨b, hb, rfl⟩ := List.mem_map.mp hy
      exact List.mem_map.mpr ⟨b, pm.mem_iff.mp hb, rfl⟩
end
theorem perm_erase {α : Type} : ∀ {l : List α} {i : Nat} (h : i < l.length), ([l[i]] ++ l.eraseIdx i).Perm l
  | [], _, h => by simp at h
  | x :: l, 0, _ => by simp
  | x :: l, i + 1, h => by
    have ih := perm_erase (l := l) (i := i) (by simpa using h)
    simp only [List.getElem_cons_succ, List.eraseIdx_cons_succ]
    refine List.Perm.trans (List.Perm.swap x _ _) ?_
    exact List.Perm.cons x ih

/-! ## all lots, a drawn order -/
def FreshA (H : Hp) (D : Addr) (xs : List V) : Prop := ∀ x ∈ xs, ∃ r : Addr, x = .ref r ∧ H r = none ∧ r ≠ D
def spLots : Sp := fun vs H Q _ => ∃ n : Nat, vs = [.int n] ∧ n ≤ 5 ∧
  ∀ (H' : Hp) (r : Addr) (xs : List V) (os : List (List Int)), Same H H' → H r = none → H' r = some (.lst xs) → LsAt H' xs os → (∀ x ∈ xs, ∃ q : Addr, x = .ref q ∧ H q = none) → os.Perm (allLots n) → os.Pairwise (· ≤ ·) → Q (.ref r) H'
def spOrder : Sp := fun vs H Q _ => ∃ (a : Addr) (n : Nat), vs = [.ref a, .int n] ∧ Pot H a ∧ n ≤ 60 ∧
  ∀ (H' : Hp) (p : Addr) (o : List Int), SmX a H H' → Pot H' a → H p = none → p ≠ a → H' p = some (.lst (o.map V.int)) → o.Perm (things n) → Q (.ref p) H'
theorem ints_of {ys : List V} {l : List Int} (h : ys.Perm (l.map V.int)) : ∃ o : List Int, ys = o.map V.int ∧ o.Perm l := by
  refine ⟨ys.map (fun v => match v with | .int i => i | _ => 0), ?_, ?_⟩
  · rw [List.map_map]
    refine (List.map_id ys).symm.trans (List.map_congr_left fun v hv => ?_)
    obtain ⟨i, _, rfl⟩ := List.mem_map.mp (h.mem_iff.mp hv)
    rfl
  · have := h.map (fun v => match v with | V.int i => i | _ => 0)
    rw [List.map_map] at this
    have e : ((fun v => match v with | V.int i => i | _ => 0) ∘ V.int) = (id : Int → Int) := by funext z; rfl
    rw [e, List.map_id] at this
    exact this
theorem pow5 {k : Nat} (h : k ≤ 5) : 2 ^ k ≤ 32 := Nat.le_trans (Nat.pow_le_pow_right (by decide) h) (by decide)
section
variable {P : Program} {w : World} {K : PySem.W.Frag} {mg : Str → Option Value} {base : Heap}
abbrev nLots : List Str := ["_law_many", "_law_found", "_law_thing", "_law_lot"]
abbrev nOrder : List Str := ["_law_pot_here", "_law_many", "_law_left", "_law_found", "_law_turn"]
end
end Tk

namespace Tk
open PySem PySem.Spec PyProof.Rows L2
theorem ta_x {a : Addr} {G G' : Hp} {acc : List V} {ps : List (Int × Int)} {k : Nat} (h : TA G acc ps k) (pa : Pot G a) (e : SmX a G G') : TA G' acc ps k :=
  ⟨h.1, fun i x hx => by
    obtain ⟨t, z, h1, h2, h3⟩ := h.2 i x hx
    obtain ⟨u, v, g, _⟩ := pa
    exact ⟨t, z, h1, h2, e _ _ (fun q => by rw [q, g] at h3; cases h3) h3⟩⟩
theorem ta_upd {G : Hp} {acc o : List V} {O : HO} {ps : List (Int × Int)} {k : Nat} {D : Addr} (h : TA G acc ps k) (hD : G D = some (.lst o)) : TA (upd G D O) acc ps k :=
  ⟨h.1, fun i x hx => by
    obtain ⟨t, z, h1, h2, h3⟩ := h.2 i x hx
    exact ⟨t, z, h1, h2, by rw [upd_ne (fun q => by rw [q, hD] at h3; cases h3)]; exact h3⟩⟩
theorem ta_more {G : Hp} {acc : List V} {ps qs : List (Int × Int)} {k : Nat} (h : TA G acc ps k) : TA G acc (ps ++ qs) k :=
  ⟨h.1, fun i x hx => by
    obtain ⟨t, z, h1, h2, h3⟩ := h.2 i x hx
    exact ⟨t, z, h1, by rw [List.getElem?_append_left (lt_of_at h2)]; exact h2, h3⟩⟩
/-- a list at D of new tuples for these pairs -/
def LT (G : Hp) (D : Addr) (ps : List (Int × Int)) : Prop := ∃ acc, G D = some (.lst acc) ∧ TA G acc ps ps.length
theorem lt_put {G : Hp} {D v : Addr} {ps : List (Int × Int)} {acc : List V} {x y : Int} (hD : G D = some (.lst acc)) (h : TA G acc ps ps.length) (hv : G v = none) :
    LT (upd (upd G v (.tup [.int x, .int y])) D (.lst (acc ++ [.ref v]))) D (ps ++ [(x, y)]) := by
  refine ⟨acc ++ [.ref v], upd_same, ?_⟩
  have := ta_put (z := (x, y)) (ta_more (qs := [(x, y)]) h) hD hv (by simp)
  rw [List.length_append]
  exact this
theorem lt_other {G : Hp} {D E v : Addr} {ps : List (Int × Int)} {O O' : HO} {e : List V} (h : LT G D ps) (ne : D ≠ E) (hE : G E = some (.lst e)) (hv : G v = none) : LT (upd (upd G v O) E O') D ps := by
  obtain ⟨acc, h1, h2⟩ := h
  have nD : D ≠ v := fun q => by rw [q, hv] at h1; cases h1
  have nE : E ≠ v := fun q => by rw [q, hv] at hE; cases hE
  refine ⟨acc, by rw [upd_ne ne, upd_ne nD]; exact h1, ?_⟩
  refine ta_upd (o := e) ?_ (by rw [upd_ne nE]; exact hE)
  exact ta_s h2 (same_new hv)
theorem lt_x {a : Addr} {G G' : Hp} {D : Addr} {ps : List (Int × Int)} (h : LT G D ps) (n : D ≠ a) (pa : Pot G a) (e : SmX a G G') : LT G' D ps :=
  let ⟨acc, h1, h2⟩ := h; ⟨acc, e _ _ n h1, ta_x h2 pa e⟩
theorem pot_s {G G' : Hp} {a : Addr} (h : Pot G a) (e : Same G G') : Pot G' a := let ⟨x, y, g, o⟩ := h; ⟨x, y, e _ _ g, o⟩
theorem plan_x {K : PySem.W.Frag} {C a : Addr} {H H' : Hp} {p : Addr} {n : Nat} {as ts : List (Int × Int)} (h : PlanAt K C H p n as ts) (pa : Pot H a) (e : SmX a H H') : PlanAt K C H' p n as ts := by
  obtain ⟨⟨dx, l, m, h1, h2, h3⟩, n6, h4, h5, h6, h7, h8, h9⟩ := h
  obtain ⟨x, y, ha, _⟩ := id pa
  have key : ∀ {l : Addr} {ps : List (Int × Int)}, PL K H l ps → PL K H' l ps := by
    rintro l ps ⟨xs, g1, g2⟩
    have g1' : SqL K H' l xs := by
      rcases g1 with (g | ⟨o, g⟩) | g
      · by_cases c : l = a
        · subst c
          rw [ha] at g
          cases g
          cases ps with
          | nil => cases g2
          | cons z zs =>
            cases g2 with
            | cons k1 _ =>
              obtain ⟨t, q, _⟩ := dP_inv k1
              cases q
        · exact .inl (.inl (e _ _ c g))
      · exact .inl (.inr ⟨o, e _ _ (fun c => by rw [c, ha] at g; cases g) g⟩)
      · exact .inr g
    refine ⟨xs, g1', ?_⟩
    clear g1 g1'
    induction ps generalizing xs with
    | nil => cases g2; exact .nil
    | cons z zs ih =>
      cases g2 with
      | cons k1 k2 =>
        obtain ⟨t, rfl, ht⟩ := dP_inv k1
        exact .cons (dP_mk (smx_t pa e ht)) (ih _ k2)
  exact ⟨⟨dx, l, m, e _ _ (fun c => by rw [c, ha] at h1; cases h1) h1, key h2, key h3⟩, n6, h4, h5, h6, h7, h8, h9⟩
theorem dps_x {K : PySem.W.Frag} {a : Addr} {G G' : Hp} {xs : List V} {ps : List (Int × Int)} (h : DpAll K G xs (ps.map dP)) (pg : Pot G a) (e : SmX a G G') : DpAll K G' xs (ps.map dP) := by
  induction ps generalizing xs with
  | nil => cases h; exact .nil
  | cons z zs ih =>
    cases h with
    | cons h1 h2 =>
      obtain ⟨t, rfl, ht⟩ := dP_inv h1
      exact .cons (dP_mk (smx_t pg e ht)) (ih h2)
/-- where the drawing of a plan stands -/
structure LP (a po pa pt : Addr) (H0 H1 : Hp) (o : List Int) (ixA ixT : List (Nat × Nat)) : Prop where
  sx : SmX a H0 H1
  pot : Pot H1 a
  ho : H1 po = some (.lst (o.map V.int))
  hA : LT H1 pa (ixA.map (prA o))
  hT : LT H1 pt (ixT.map (prT o))
structure Dist (a po pa pt : Addr) (H0 : Hp) : Prop where
  n1 : po ≠ a
  n2 : pa ≠ a
  n3 : pt ≠ a
  n4 : po ≠ pa
  n5 : po ≠ pt
  n6 : pa ≠ pt
  fA : H0 pa = none
  fT : H0 pt = none
section
variable {a po pa pt : Addr} {H0 H1 H2 : Hp} {o : List Int} {ixA ixT : List (Nat × Nat)}
theorem lp_draw (d : Dist a po pa pt H0) (h : LP a po pa pt H0 H1 o ixA ixT) (e : SmX a H1 H2) (p : Pot H2 a) : LP a po pa pt H0 H2 o ixA ixT :=
  ⟨h.sx.trans e, p, e _ _ d.n1 h.ho, lt_x h.hA d.n2 h.pot e, lt_x h.hT d.n3 h.pot e⟩
theorem lp_arr (d : Dist a po pa pt H0) (h : LP a po pa pt H0 H1 o ixA ixT) {acc : List V} (hD : H1 pa = some (.lst acc)) {v : Addr} (hv : H1 v = none) (q : Nat × Nat) :
    LP a po pa pt H0 (upd (upd H1 v (.tup [.int (it o q.1), .int (it o q.2)])) pa (.lst (acc ++ [.ref v]))) o (ixA ++ [q]) ixT := by
  obtain ⟨acc', e1, e2⟩ := h.hA
  rw [hD] at e1
  cases e1
  obtain ⟨x, y, g, gg⟩ := h.pot
  have nva : a ≠ v := fun z => by rw [z, hv] at g; cases g
  have nvo : po ≠ v := fun z => by have := h.ho; rw [z, hv] at this; cases this
  refine ⟨?_, ⟨x, y, by rw [upd_ne d.n2.symm, upd_ne nva]; exact g, gg⟩, by rw [upd_ne d.n4, upd_ne nvo]; exact h.ho, ?_, ?_⟩
  · exact smx_mut (h.sx.trans (smx_of (same_new hv))) d.fA
  · rw [List.map_append]
    exact lt_put hD e2 hv
  · exact lt_other h.hT d.n6.symm hD hv
theorem lp_tie (d : Dist a po pa pt H0) (h : LP a po pa pt H0 H1 o ixA ixT) {acc : List V} (hD : H1 pt = some (.lst acc)) {v : Addr} (hv : H1 v = none) (q : Nat × Nat) :
    LP a po pa pt H0 (upd (upd H1 v (.tup [.int (prT o q).1, .int (prT o q).2])) pt (.lst (acc ++ [.ref v]))) o ixA (ixT ++ [q]) := by
  obtain ⟨acc', e1, e2⟩ := h.hT
  rw [hD] at e1
  cases e1
  obtain ⟨x, y, g, gg⟩ := h.pot
  have nva : a ≠ v := fun z => by rw [z, hv] at g; cases g
  have nvo : po ≠ v := fun z => by have := h.ho; rw [z, hv] at this; cases this
  refine ⟨?_, ⟨x, y, by rw [upd_ne d.n3.symm, upd_ne nva]; exact g, gg⟩, by rw [upd_ne d.n5, upd_ne nvo]; exact h.ho, ?_, ?_⟩
  · exact smx_mut (h.sx.trans (smx_of (same_new hv))) d.fT
  · exact lt_other h.hA d.n6 hD hv
  · rw [List.map_append]
    exact lt_put hD e2 hv
end

theorem at_it {o : List Int} {i : Nat} (h : i < o.length) : atI (o.map V.int) (i : Int) = some (V.int (it o i)) := atI_nat (by rw [List.getElem?_map, it_some h]; rfl)
theorem dps_rev {K : PySem.W.Frag} {H : Hp} : ∀ {xs : List V} {ps : List (Int × Int)}, DpAll K H xs (ps.map dP) → DpAll K H xs.reverse (ps.reverse.map dP)
  | _, [], h => by cases h; exact .nil
  | _, p :: ps, h => by
    cases h with
    | cons h1 h2 =>
      rw [List.reverse_cons, List.reverse_cons, List.map_append]
      exact dps_app (dps_rev h2) (.cons h1 .nil)
/-- sorted, the tuples still are themselves -/
theorem ta_sort {G : Hp} {xs ys : List V} {ps : List (Int × Int)} (ta : TA G xs ps ps.length) (stb : SrtO.Stb (ltP (prV G)) ys xs) : TA G ys (ys.map (prV G)) (ys.map (prV G)).length :=
  ⟨by simp, fun i y hy => by
    obtain ⟨k, hk⟩ := List.getElem?_of_mem (stb.perm.mem_iff.mp (List.mem_of_getElem? hy))
    obtain ⟨t, p, rfl, _, h3⟩ := ta.2 k y hk
    exact ⟨t, p, rfl, by rw [List.getElem?_map, hy]; show some (prV G (.ref t)) = _; rw [prV_eq h3], h3⟩⟩
def spWorldX (K : PySem.W.Frag) : Sp := fun vs H Q _ => ∃ (a : Addr) (n : Nat), vs = [.ref a, .int n] ∧ Pot H a ∧ n ≤ 6 ∧
  ∀ (H' : Hp) (p l m : Addr) (xs ys : List V) (as ts : List (Int × Int)), SmX a H H' → Pot H' a → H' p = some (.tup [.int n, .ref l, .ref m]) → H l = none → H m = none → l ≠ m → l ≠ a → m ≠ a →
    H' l = some (.lst xs) → H' m = some (.lst ys) → DpAll K H' xs (as.map dP) → DpAll K H' ys (ts.map dP) → Prs n as → Acy as → Prs n ts → (∀ q ∈ ts, q.1 < q.2) → TA H' xs as as.length → TA H' ys ts ts.length → Q (.ref p) H'
def spWorld (K : PySem.W.Frag) : Sp := fun vs H Q _ => ∃ (a : Addr) (n : Nat), vs = [.ref a, .int n] ∧ Pot H a ∧ n ≤ 6 ∧
  ∀ (H' : Hp) (p l m : Addr) (xs ys : List V) (as ts : List (Int × Int)), SmX a H H' → Pot H' a → H' p = some (.tup [.int n, .ref l, .ref m]) → H l = none → H m = none → l ≠ m → l ≠ a → m ≠ a →
    H' l = some (.lst xs) → H' m = some (.lst ys) → DpAll K H' xs (as.map dP) → DpAll K H' ys (ts.map dP) → Prs n as → Acy as → Prs n ts → (∀ q ∈ ts, q.1 < q.2) → Q (.ref p) H'
def spMade (K : PySem.W.Frag) (C : Addr) : Sp := fun vs H Q _ => ∃ (a p l m : Addr) (n : Nat) (xs ys : List V) (as ts : List (Int × Int)), vs = [.ref a, .ref p] ∧ Pot H a ∧ H p = some (.tup [.int n, .ref l, .ref m]) ∧ l ≠ a ∧ m ≠ a ∧
  H l = some (.lst xs) ∧ H m = some (.lst ys) ∧ DpAll K H xs (as.map dP) ∧ DpAll K H ys (ts.map dP) ∧ n ≤ 6 ∧ Prs n as ∧ Acy as ∧ Prs n ts ∧ (∀ q ∈ ts, q.1 < q.2) ∧
  ∀ (H' : Hp) (x : Addr) (as' ts' : List (Int × Int)), SmX a H H' → Pot H' a → as'.Perm as → ts'.Perm ts → PlanAt K C H' x n as' ts' → Q (.ref x) H'
section
variable {P : Program} {w : World} {K : PySem.W.Frag} {mg : Str → Option Value} {base : Heap}
abbrev nWorld : List Str := ["_law_pot_here", "_law_many", "_law_order_here", "_law_arrows", "_law_ties", "_law_dense", "_law_at", "_law_to"]
abbrev nMade : List Str := ["_law_pot_here", "_law_world_here", "_law_arrows", "_law_ties"]
end
end Tk

namespace Tk
open PySem PySem.Spec PyProof.Rows L2
theorem reach_sub {ps qs : List (Int × Int)} {a b : Int} (s : ∀ p ∈ ps, p ∈ qs) (h : Reach ps a b) : Reach qs a b := by
  induction h with
  | refl => exact .refl
  | tail _ hp ih => exact .tail ih (s _ hp)
theorem heads_congr {as as' : List (Int × Int)} {l : List Int} (e : as'.Perm as) : headsL as' l = headsL as l := by
  unfold headsL
  refine List.filter_congr fun x _ => ?_
  rw [Bool.eq_iff_iff, headB_iff, headB_iff]
  unfold IsHead
  constructor
  · exact fun h y hy => reach_sub (fun ⟨u, v⟩ hp => by rw [mem_upIn] at hp ⊢; exact ⟨e.mem_iff.mp hp.1, hp.2⟩) (h y hy)
  · exact fun h y hy => reach_sub (fun ⟨u, v⟩ hp => by rw [mem_upIn] at hp ⊢; exact ⟨e.mem_iff.mpr hp.1, hp.2⟩) (h y hy)
theorem hang_congr {ts ts' : List (Int × Int)} {l : List Int} (e : ts'.Perm ts) : hangB ts' l = hangB ts l := by
  rw [Bool.eq_iff_iff, hangB_iff, hangB_iff]
  cases l with
  | nil => exact Iff.rfl
  | cons x l =>
    constructor
    · exact fun h y hy => reach_sub (fun ⟨u, v⟩ hp => by rw [mem_tieIn] at hp ⊢; rw [e.mem_iff, e.mem_iff] at hp; exact hp) (h y hy)
    · exact fun h y hy => reach_sub (fun ⟨u, v⟩ hp => by rw [mem_tieIn] at hp ⊢; rw [e.mem_iff, e.mem_iff]; exact hp) (h y hy)
theorem pl_x {K : PySem.W.Frag} {a l : Addr} {H H' : Hp} {ps : List (Int × Int)} (h : PL K H l ps) (pa : Pot H a) (e : SmX a H H') : PL K H' l ps := by
  obtain ⟨x, y, ha, _⟩ := id pa
  obtain ⟨xs, g1, g2⟩ := h
  refine ⟨xs, ?_, dps_x g2 pa e⟩
  rcases g1 with (g | ⟨o, g⟩) | g
  · by_cases c : l = a
    · subst c
      rw [ha] at g
      cases g
      cases ps with
      | nil => cases g2
      | cons z zs =>
        cases g2 with
        | cons k1 _ =>
          obtain ⟨t, q, _⟩ := dP_inv k1
          cases q
    · exact .inl (.inl (e _ _ c g))
  · exact .inl (.inr ⟨o, e _ _ (fun c => by rw [c, ha] at g; cases g) g⟩)
  · exact .inr g
theorem str_eq {d e : PyData} (h : d = e) : V.bl (decide (V.str d.shown = V.str e.shown)) = V.bl true := by subst h; simp
theorem str_ne {d e : PyData} (h : d = e) : V.bl (!decide (V.str d.shown = V.str e.shown)) = V.bl false := by subst h; simp
/-- the data of the first of a list, or None -/
def topD : List Int → PyData
  | [] => .none
  | x :: _ => .int x
theorem dp_top {K : PySem.W.Frag} {H : Hp} : ∀ (l : List Int), Dp K H (topV l) (topD l)
  | [] => .non
  | x :: _ => .int x
theorem goodD_none : GoodD .none 0 64 := ⟨by simp [PyData.showable], by simp [PyData.hasDict], by simp [PyData.depth], by simp [PyData.canLay0], by simp [PyData.intsShort], by simp [PyData.weight]⟩
theorem goodD_int {x : Int} (h : x.natAbs < 10 ^ 12) : GoodD (.int x) 0 64 := by
  have g := goodA_ints (ns := [x]) fun y hy => by rw [List.mem_singleton.mp hy]; exact h
  refine ⟨?_, by simp [PyData.hasDict], by simp [PyData.depth], by simp [PyData.canLay0], ?_, ?_⟩
  · have := g.sh
    simpa [PyData.showableAll] using this
  · have := g.ish
    simpa [PyData.intsShortAll] using this
  · have := g.wt
    simp only [List.map_cons, List.map_nil, PyData.weightAll, List.length_cons, List.length_nil] at this
    omega
theorem top_rep {l : List Int} (h : ∀ x ∈ l, x.natAbs < 10 ^ 12) : RepOk (.list [topD l, topD l]) := by
  have g : GoodD (topD l) 0 64 := by
    cases l with
    | nil => exact goodD_none
    | cons x l => exact goodD_int (h x (List.mem_cons_self ..))
  exact goodD_rep (goodD_list (goodA_cons g (goodA_cons g goodA_nil))) (by decide) (by decide)
theorem rep_tup {ns : List Int} (h : ∀ n ∈ ns, n.natAbs < 10 ^ 12) (hl : ns.length ≤ 1000) : RepOk (.tuple (ns.map .int)) := by
  obtain ⟨a, b, c, d, e⟩ := ints_facts h
  refine ⟨by simp only [PyData.showable]; exact a, by simp only [PyData.hasDict]; exact b, by simp only [PyData.depth]; omega, ?_⟩
  refine PyData.shown_fits (B := 13) (by decide) (by decide) ?_ ?_
  · simp only [PyData.leavesShort]
    exact PyData.leavesShortAll_of_canLay0 13 _ d (PyData.intsShortAll_ints ns h)
  · simp only [PyData.weight]; omega
/-- what is given stands as a tuple or as a list -/
def GivenAt (K : PySem.W.Frag) (H : Hp) (g : Addr) (l : List Int) (d : PyData) : Prop := (SqT K H g (l.map V.int) ∧ d = .tuple (l.map .int)) ∨ (SqL K H g (l.map V.int) ∧ d = .list (l.map .int))
theorem given_s {K : PySem.W.Frag} {H H' : Hp} {g : Addr} {l : List Int} {d : PyData} (h : GivenAt K H g l d) (e : Same H H') : GivenAt K H' g l d :=
  h.elim (fun z => .inl ⟨same_t e z.1, z.2⟩) (fun z => .inr ⟨same_l e z.1, z.2⟩)
theorem given_a {K : PySem.W.Frag} {H : Hp} {g : Addr} {l : List Int} {d : PyData} (h : GivenAt K H g l d) : SqA K H g (l.map V.int) := h.elim (fun z => .inr z.1) (fun z => .inl z.1)
theorem given_d {K : PySem.W.Frag} {H : Hp} {g : Addr} {l : List Int} {d : PyData} (h : GivenAt K H g l d) : Dp K H (.ref g) d := by
  rcases h with ⟨h, rfl⟩ | ⟨h, rfl⟩
  · exact .tup h (dps_ints l)
  · exact .lst h (dps_ints l)
theorem given_rep {K : PySem.W.Frag} {H : Hp} {g : Addr} {l : List Int} {d : PyData} (h : GivenAt K H g l d) (sm : ∀ n ∈ l, n.natAbs < 10 ^ 12) (hl : l.length ≤ 1000) : RepOk d := by
  rcases h with ⟨h, rfl⟩ | ⟨h, rfl⟩
  · exact rep_tup sm hl
  · exact rep_ints sm hl
theorem lot_small {n : Nat} {l : List Int} (h : Lot n l) (n6 : n ≤ 6) : ∀ x ∈ l, x.natAbs < 10 ^ 12 := fun x hx => by
  have := mem_things.mp (h.2 x hx)
  have : (10 : Nat) ^ 12 = 1000000000000 := by decide
  omega
/-! which of the bent lots are lots -/
def LotY (n : Nat) (o : Option (List (Option Int))) (b : Bool) : Prop := b = true ↔ ∃ l, LotO n o l
theorem loty_rev {n : Nat} {l : List Int} (h : Lot n l) : LotY n (some (l.reverse.map some)) (decide (l.length < 2)) := by
  unfold LotY
  rw [decide_eq_true_eq]
  constructor
  · intro hl
    refine ⟨l, ?_, h⟩
    match l, hl with
    | [], _ => rfl
    | [x], _ => rfl
  · rintro ⟨m, e, hm⟩
    have e' := some_inj (Option.some.inj e)
    subst e'
    match l, h, hm with
    | [], _, _ => simp
    | [x], _, _ => simp
    | x :: y :: l, h, hm =>
      have h1 := (List.pairwise_cons.mp h.1).1 y (by simp)
      have h2 := List.pairwise_reverse.mp hm.1
      have h3 := (List.pairwise_cons.mp h2).1 y (by simp)
      omega
theorem loty_dup {n : Nat} {l : List Int} (h : Lot n l) : LotY n (some ((l ++ l.take 1).map some)) (decide (l = [])) := by
  unfold LotY
  rw [decide_eq_true_eq]
  constructor
  · rintro rfl
    exact ⟨[], rfl, h⟩
  · rintro ⟨m, e, hm⟩
    have e' := some_inj (Option.some.inj e)
    subst e'
    cases l with
    | nil => rfl
    | cons x l =>
      have nd := lt_nd hm.1
      simp at nd
theorem loty_big {n : Nat} {l : List Int} : LotY n (some ((l ++ [(n : Int)]).map some)) false := by
  refine ⟨fun z => (nomatch z), ?_⟩
  rintro ⟨m, e, hm⟩
  have e' := some_inj (Option.some.inj e)
  subst e'
  have := mem_things.mp (hm.2 (n : Int) (by simp))
  omega
theorem loty_none {n : Nat} {os : List (Option Int)} : LotY n (some (none :: os)) false := by
  refine ⟨fun z => (nomatch z), ?_⟩
  rintro ⟨m, e, hm⟩
  cases m with
  | nil => cases Option.some.inj e
  | cons x m =>
    have := (List.cons.inj (Option.some.inj e)).1
    cases this
theorem each_app {K : PySem.W.Frag} {H : Hp} : ∀ {xs ys : List V} {os ps : List (Option Int)}, EachV K H xs os → EachV K H ys ps → EachV K H (xs ++ ys) (os ++ ps)
  | [], _, [], _, _, h => h
  | x :: xs, _, o :: os, _, ⟨h1, h2⟩, h => ⟨h1, each_app h2 h⟩
  | [], _, _ :: _, _, h, _ => h.elim
  | _ :: _, _, [], _, h, _ => h.elim
theorem tail_cut (l : List Int) : cutV (l.map V.int) (some 1) none = (l.drop 1).map V.int := by
  cases l with
  | nil => rfl
  | cons x l =>
    unfold cutV HT.sIx
    simp
    exact List.take_of_length_le (by simp)
theorem head_cut (l : List Int) : cutV (l.map V.int) none (some 1) = (l.take 1).map V.int := by
  cases l with
  | nil => rfl
  | cons n ns =>
    unfold cutV HT.sIx
    simp [List.length_map]
end Tk

namespace Tk
open PySem PySem.Spec PyProof.Rows L2
def spPick (K : PySem.W.Frag) : Sp := fun vs H Q _ => ∃ (a b : Addr) (xs : List V), vs = [.ref a, .ref b] ∧ Pot H a ∧ H b = some (.lst xs) ∧ b ≠ a ∧ xs ≠ [] ∧ xs.length ≤ 1000 ∧
  ∀ (H' : Hp) (i : Nat) (v : V), SmX a H H' → Pot H' a → xs[i]? = some v → Q v H'
section
variable {P : Program} {w : World} {K : PySem.W.Frag} {mg : Str → Option Value} {base : Heap}
theorem sc_pick : FnScope ["_law_pot_here", "_law_some"] ["_law_pot_here", "_law_some"] (defScope sPick) := ⟨rfl, rfl, rfl, by decide +kernel, rfl, by decide +kernel, by decide +kernel⟩
theorem ok_pick {f f1 : Addr} {fd fd1 : FuncData} (F : Fun K "_law_pick" "_law_pick" sPick f fd) (D1 : Df K mg "_law_draw" sDraw ["_law_pot_here", "_law_room"] f1 fd1) (B : Bl mg) :
    FnOk P w K mg base CX0 2 f fd ["_law_pot_here", "_law_some"] (spPick K) := by
  have G1 : FnOk P w K mg base CX0 1 f1 fd1 ["_law_pot_here", "_law_room"] spDraw := ok_draw D1.F B
  refine F.ok sc_pick (fun vs H Q E h => ?_) (fun cdv A outer s H vs Q E hr h => ?_)
  · obtain ⟨a, b, xs, rfl, _⟩ := h
    rfl
  · obtain ⟨a, b, xs, rfl, pa, hb, nba, ne, few, q⟩ := h
    refine ⟨_, pss_one (ps_ret (pe_ix ix_list (pv 1) (pe_call G1 hr rfl D1.g D1.F.kp D1.b .nil pass0 (pa_cons (pv 0) (pa_cons (pe_callB call_len_seq (by rfl) B.len PySem.boot_len (pa_cons (pv 1) pa_nil)) pa_nil))) (fun _ _ => rfl))), ?_⟩
    have pos := List.length_pos_iff.mpr ne
    refine ⟨_, rfl, _, rfl, _, rfl, b, xs, rfl, .inl (sl_of hb), a, _, rfl, pa, by omega, by omega, fun H1 d s1 p1 d0 d1 => ?_⟩
    obtain ⟨i, rfl⟩ : ∃ i : Nat, d = (i : Int) := ⟨d.toNat, by omega⟩
    have il : i < xs.length := by omega
    exact ⟨b, xs, _, xs[i], rfl, rfl, sl_of (s1 _ _ nba hb), atI_nat (List.getElem?_eq_getElem il), q H1 i _ s1 p1 (List.getElem?_eq_getElem il)⟩

end
end Tk

namespace Tk
open PySem PySem.Spec PyProof.Rows L2
/-! ## lowest terms -/
theorem com_dvd {t b : Int} : comQ t b ∣ t ∧ comQ t b ∣ b := by
  have h1 : ((Nat.gcd t.natAbs b.natAbs : Nat) : Int) ∣ t := by
    have := Nat.gcd_dvd_left t.natAbs b.natAbs
    exact Int.ofNat_dvd_left.mpr this
  have h2 : ((Nat.gcd t.natAbs b.natAbs : Nat) : Int) ∣ b := by
    have := Nat.gcd_dvd_right t.natAbs b.natAbs
    exact Int.ofNat_dvd_left.mpr this
  unfold comQ
  split
  · exact ⟨h1, h2⟩
  · exact ⟨Int.neg_dvd.mpr h1, Int.neg_dvd.mpr h2⟩
theorem low_fac {t b : Int} (b0 : b ≠ 0) : ∃ k l : Int, lowQ t b = (k, l) ∧ t = comQ t b * k ∧ b = comQ t b * l := by
  obtain ⟨⟨k, hk⟩, ⟨l, hl⟩⟩ := com_dvd (t := t) (b := b)
  refine ⟨k, l, ?_, hk, hl⟩
  have c0 := com_ne (t := t) b0
  have e1 : t.fdiv (comQ t b) = k := by
    conv => lhs; rw [hk]
    rw [← hk]
    conv => lhs; arg 1; rw [hk]
    exact Int.mul_fdiv_cancel_left k c0
  have e2 : b.fdiv (comQ t b) = l := by
    conv => lhs; arg 1; rw [hl]
    exact Int.mul_fdiv_cancel_left l c0
  unfold lowQ
  rw [e1, e2]
structure LowOk (t b : Int) (q : Int × Int) : Prop where
  pos : 0 < q.2
  cop : Nat.gcd q.1.natAbs q.2.natAbs = 1
  top : q.1.natAbs ≤ t.natAbs
  bot : q.2.natAbs ≤ b.natAbs
  sgn : 0 < b → (q.1 < 0 ↔ t < 0) ∧ (q.1 = 0 ↔ t = 0)
theorem low_ok {t b : Int} (b0 : b ≠ 0) : LowOk t b (lowQ t b) := by
  obtain ⟨k, l, e, hk, hl⟩ := low_fac (t := t) b0
  rw [e]
  have c0 := com_ne (t := t) b0
  have ca := com_abs t b
  have g0 : 0 < Nat.gcd t.natAbs b.natAbs := Nat.gcd_pos_of_pos_right _ (by omega)
  have ak : t.natAbs = (comQ t b).natAbs * k.natAbs := by conv => lhs; rw [hk]; rw [Int.natAbs_mul]
  have al : b.natAbs = (comQ t b).natAbs * l.natAbs := by conv => lhs; rw [hl]; rw [Int.natAbs_mul]
  have cs : (0 < b → 0 < comQ t b) ∧ (¬ 0 < b → comQ t b < 0) := by
    unfold comQ
    refine ⟨fun h => ?_, fun h => ?_⟩
    · rw [if_pos h]; omega
    · rw [if_neg h]; omega
  generalize comQ t b = c at *
  refine ⟨?_, ?_, ?_, ?_, fun hb => ?_⟩
  · show 0 < l
    by_cases hb : 0 < b
    · have := cs.1 hb
      rw [hl] at hb
      rcases Int.lt_trichotomy l 0 with h | h | h
      · have := Int.mul_neg_of_pos_of_neg this h
        omega
      · rw [h] at hb; simp at hb
      · exact h
    · have h1 := cs.2 hb
      have hb2 : c * l < 0 := by rw [← hl]; omega
      rcases Int.lt_trichotomy l 0 with h | h | h
      · have := Int.mul_pos_of_neg_of_neg h1 h
        omega
      · rw [h] at hb2; simp at hb2
      · exact h
  · show Nat.gcd k.natAbs l.natAbs = 1
    have h := ca
    rw [ak, al, Nat.gcd_mul_left] at h
    have hc : 0 < c.natAbs := by omega
    have h2 : c.natAbs * 1 = c.natAbs * Nat.gcd k.natAbs l.natAbs := by rw [Nat.mul_one]; exact h
    exact (Nat.eq_of_mul_eq_mul_left hc h2).symm
  · show k.natAbs ≤ t.natAbs
    rw [ak]
    exact Nat.le_mul_of_pos_left _ (by omega)
  · show l.natAbs ≤ b.natAbs
    rw [al]
    exact Nat.le_mul_of_pos_left _ (by omega)
  · have h1 := cs.1 hb
    show (k < 0 ↔ t < 0) ∧ (k = 0 ↔ t = 0)
    rcases Int.lt_trichotomy k 0 with h | h | h
    · have : c * k < 0 := Int.mul_neg_of_pos_of_neg h1 h
      constructor <;> constructor <;> intro <;> omega
    · subst h
      simp at hk
      constructor <;> constructor <;> intro <;> omega
    · have : 0 < c * k := Int.mul_pos h1 h
      constructor <;> constructor <;> intro <;> omega
/-- in lowest terms already -/
theorem low_self {k l : Int} (l0 : 0 < l) (h : Nat.gcd k.natAbs l.natAbs = 1) : lowQ k l = (k, l) := by
  have c1 : comQ k l = 1 := by
    unfold comQ
    rw [if_pos l0, h]
    rfl
  unfold lowQ
  rw [c1, Int.fdiv_one, Int.fdiv_one]
theorem add_comQ (x y : Int × Int) : addQ x y = addQ y x := by
  unfold addQ
  rw [Int.add_comm, Int.mul_comm x.2 y.2]
theorem mul_comQ (x y : Int × Int) : mulQ x y = mulQ y x := by
  unfold mulQ
  rw [Int.mul_comm x.1 y.1, Int.mul_comm x.2 y.2]
/-- what the law draws, not in lowest terms -/
structure RawOk (q : Int × Int) : Prop where
  ne : q.2 ≠ 0
  top : q.1.natAbs < 2 ^ 120
  bot : q.2.natAbs < 2 ^ 110
structure Fine (q : Int × Int) : Prop where
  pos : 0 < q.2
  cop : Nat.gcd q.1.natAbs q.2.natAbs = 1
  top : q.1.natAbs < 2 ^ 120
  bot : q.2.natAbs < 2 ^ 110
theorem raw_fine {q : Int × Int} (h : RawOk q) : Fine (lowQ q.1 q.2) := by
  have g := low_ok (t := q.1) h.ne
  exact ⟨g.pos, g.cop, Nat.lt_of_le_of_lt g.top h.top, Nat.lt_of_le_of_lt g.bot h.bot⟩
theorem log_of {n k : Nat} (h : n < 2 ^ k) (k0 : 0 < k) : n.log2 < k := by
  by_cases h0 : n = 0
  · rw [h0]; simpa using k0
  · exact (Nat.log2_lt h0).mpr h
theorem fine_small {q : Int × Int} (h : Fine q) : Small q := ⟨h.pos, Nat.lt_of_lt_of_le (log_of h.bot (by decide)) (by decide), Nat.lt_of_lt_of_le (log_of h.top (by decide)) (by decide)⟩
theorem fine_tiny {q : Int × Int} (h : Fine q) : Tiny q := ⟨Nat.lt_trans h.top (by decide), Nat.lt_trans h.bot (by decide)⟩
theorem fine_top {q : Int × Int} (h : Fine q) : q.1.natAbs.log2 < 4000 := Nat.lt_of_lt_of_le (log_of h.top (by decide)) (by decide)
theorem fine_int {i : Int} (h : i.natAbs < 1000) : Fine (i, 1) := ⟨by show (0 : Int) < 1; decide, by show Nat.gcd i.natAbs 1 = 1; simp, Nat.lt_trans h (by decide), by show (1 : Nat) < 2 ^ 110; decide⟩
theorem neg_fine {q : Int × Int} (h : Fine q) : lowQ (-q.1) q.2 = (0 - q.1, q.2) := by
  rw [low_self h.pos (by rw [Int.natAbs_neg]; exact h.cop), Int.zero_sub]
theorem sub_zero {q : Int × Int} (h : Fine q) : subQ (0, 1) q = (0 - q.1, q.2) := by
  unfold subQ
  show lowQ (0 * q.2 - q.1 * 1) (1 * q.2) = _
  rw [Int.zero_mul, Int.mul_one, Int.one_mul, low_self h.pos (by rw [Int.zero_sub, Int.natAbs_neg]; exact h.cop)]
theorem abs_fine {q : Int × Int} (h : Fine q) : lowQ (if q.1 < 0 then -q.1 else q.1) q.2 = (if q.1 < 0 then -q.1 else q.1, q.2) := by
  refine low_self h.pos ?_
  split
  · rw [Int.natAbs_neg]; exact h.cop
  · exact h.cop
theorem sub_sgn {x y : Int × Int} (hx : 0 < x.2) (hy : 0 < y.2) : (sgnQ (subQ x y).1 < 0 ↔ x.1 * y.2 < y.1 * x.2) ∧ (sgnQ (subQ x y).1 ≤ 0 ↔ x.1 * y.2 ≤ y.1 * x.2) := by
  have b0 : 0 < x.2 * y.2 := Int.mul_pos hx hy
  have g := (low_ok (t := x.1 * y.2 - y.1 * x.2) (Int.ne_of_gt b0)).sgn b0
  have e : (subQ x y) = lowQ (x.1 * y.2 - y.1 * x.2) (x.2 * y.2) := rfl
  rw [← e] at g
  generalize x.1 * y.2 = u at g
  generalize y.1 * x.2 = v at g
  unfold sgnQ
  constructor
  · split
    · constructor <;> intro <;> omega
    · split <;> constructor <;> intro <;> omega
  · split
    · constructor <;> intro <;> omega
    · split <;> constructor <;> intro <;> omega
end Tk

namespace Tk
/-! ## the fractions as rational numbers -/
def valQ (q : Int × Int) : Rat := Rat.divInt q.1 q.2
def toQ (r : Rat) : Int × Int := (r.num, (r.den : Int))
theorem toQ_val {q : Int × Int} (h : 0 < q.2) (c : Nat.gcd q.1.natAbs q.2.natAbs = 1) : toQ (valQ q) = q := by
  obtain ⟨k, l⟩ := q
  obtain ⟨n, rfl⟩ : ∃ n : Nat, l = (n : Int) := ⟨l.toNat, by have : 0 < l := h; omega⟩
  have n0 : n ≠ 0 := by
    intro e
    subst e
    simp at h
  have e : (⟨k, n, n0, by simpa [Nat.Coprime] using c⟩ : Rat) = Rat.divInt k n := Rat.mk_eq_divInt
  unfold valQ toQ
  show ((Rat.divInt k n).num, ((Rat.divInt k n).den : Int)) = (k, (n : Int))
  rw [← e]
theorem val_low {t b : Int} (h : b ≠ 0) : valQ (lowQ t b) = Rat.divInt t b := by
  obtain ⟨k, l, e, e1, e2⟩ := low_fac (t := t) h
  rw [e]
  have c0 := com_ne (t := t) h
  unfold valQ
  show Rat.divInt k l = Rat.divInt t b
  generalize comQ t b = m at e1 e2 c0
  rw [e1, e2]
  exact (Rat.divInt_mul_left c0).symm
theorem low_toQ {t b : Int} (h : b ≠ 0) : lowQ t b = toQ (Rat.divInt t b) := by
  rw [← val_low h]
  have g := low_ok (t := t) h
  exact (toQ_val g.pos g.cop).symm
theorem add_toQ {x y : Int × Int} (hx : x.2 ≠ 0) (hy : y.2 ≠ 0) : addQ x y = toQ (valQ x + valQ y) := by
  unfold addQ valQ
  rw [low_toQ (Int.mul_ne_zero hx hy), Rat.divInt_add_divInt _ _ hx hy]
theorem sub_toQ {x y : Int × Int} (hx : x.2 ≠ 0) (hy : y.2 ≠ 0) : subQ x y = toQ (valQ x - valQ y) := by
  unfold subQ valQ
  rw [low_toQ (Int.mul_ne_zero hx hy), Rat.divInt_sub_divInt _ _ hx hy]
theorem mul_toQ {x y : Int × Int} (hx : x.2 ≠ 0) (hy : y.2 ≠ 0) : mulQ x y = toQ (valQ x * valQ y) := by
  unfold mulQ valQ
  rw [low_toQ (Int.mul_ne_zero hx hy), Rat.divInt_mul_divInt]
theorem val_toQ (r : Rat) : valQ (toQ r) = r := Rat.num_divInt_den r
theorem val_add {x y : Int × Int} (hx : x.2 ≠ 0) (hy : y.2 ≠ 0) : valQ (addQ x y) = valQ x + valQ y := by rw [add_toQ hx hy, val_toQ]
theorem val_sub {x y : Int × Int} (hx : x.2 ≠ 0) (hy : y.2 ≠ 0) : valQ (subQ x y) = valQ x - valQ y := by rw [sub_toQ hx hy, val_toQ]
theorem val_mul {x y : Int × Int} (hx : x.2 ≠ 0) (hy : y.2 ≠ 0) : valQ (mulQ x y) = valQ x * valQ y := by rw [mul_toQ hx hy, val_toQ]
/-- in lowest terms -/
structure LowQ (q : Int × Int) : Prop where
  pos : 0 < q.2
  cop : Nat.gcd q.1.natAbs q.2.natAbs = 1
theorem LowQ.ne {q : Int × Int} (h : LowQ q) : q.2 ≠ 0 := Int.ne_of_gt h.pos
theorem low_low {t b : Int} (h : b ≠ 0) : LowQ (lowQ t b) := by
  have g := low_ok (t := t) h
  exact ⟨g.pos, g.cop⟩
theorem low_add {x y : Int × Int} (hx : LowQ x) (hy : LowQ y) : LowQ (addQ x y) := low_low (Int.mul_ne_zero hx.ne hy.ne)
theorem low_sub {x y : Int × Int} (hx : LowQ x) (hy : LowQ y) : LowQ (subQ x y) := low_low (Int.mul_ne_zero hx.ne hy.ne)
theorem low_mul {x y : Int × Int} (hx : LowQ x) (hy : LowQ y) : LowQ (mulQ x y) := low_low (Int.mul_ne_zero hx.ne hy.ne)
/-- alike in value, alike -/
theorem low_ext {x y : Int × Int} (hx : LowQ x) (hy : LowQ y) (e : valQ x = valQ y) : x = y := by rw [← toQ_val hx.pos hx.cop, ← toQ_val hy.pos hy.cop, e]
theorem fold_low {qs : List (Int × Int)} : ∀ {z : Int × Int}, LowQ z → (∀ q ∈ qs, LowQ q) → LowQ (qs.foldl addQ z) ∧ valQ (qs.foldl addQ z) = valQ z + (qs.map valQ).sum := by
  induction qs with
  | nil =>
    intro z hz _
    exact ⟨hz, by simp [Rat.add_zero]⟩
  | cons q qs ih =>
    intro z hz h
    have hq := h q (by simp)
    obtain ⟨i1, i2⟩ := ih (low_add hz hq) fun r hr => h r (by simp [hr])
    refine ⟨i1, ?_⟩
    show valQ (qs.foldl addQ (addQ z q)) = _
    rw [i2, val_add hz.ne hq.ne, List.map_cons, List.sum_cons, Rat.add_assoc]
theorem val_0 : valQ (0, 1) = 0 := by decide +kernel
theorem sum_low {qs : List (Int × Int)} (h : ∀ q ∈ qs, LowQ q) : LowQ (qs.foldl addQ (0, 1)) ∧ valQ (qs.foldl addQ (0, 1)) = (qs.map valQ).sum := by
  obtain ⟨i1, i2⟩ := fold_low (z := (0, 1)) ⟨by decide, by decide⟩ h
  exact ⟨i1, by rw [i2, val_0, Rat.zero_add]⟩
end Tk

namespace Tk
open PySem PySem.Spec PyProof.Rows L2 ClX
abbrev sEntR : Stmt := top 53
abbrev sRowR : Stmt := top 54
abbrev sListR : Stmt := top 55
abbrev sTableR : Stmt := top 56
/-! ## drawn tables -/
theorem pe_wkR {X : Cx} {e : Expr} {t t' : TE} (h : PE X e t) (wk : ∀ σ H Q, t' σ H Q → t σ H Q) : PE X e t' := ⟨fun pins s σ H Q I g => h.run pins s σ H Q I (wk σ H Q g)⟩
theorem pe_negR {X : Cx} {i : Int} {tk : Nat} {p pos : Pos} : PE X (.UnaryOp .USub (.Constant (.int i) tk p) pos) (tC (.int (-i))) := pe_wkR (pe_un un_neg pe_int) fun σ H Q h => ⟨_, rfl, h⟩
/-- a list of pairs, written out -/
def tPairsR : List (Int × Int) → L2.TA
  | [] => tNil
  | q :: qs => tCons (tTup (tCons (tC (.int q.1)) (tCons (tC (.int q.2)) tNil))) (tPairsR qs)
theorem tPairs_go {K : PySem.W.Frag} {σ : L2.St} : ∀ {qs : List (Int × Int)} {H : Hp} {k : List V → Hp → Prop}, (∀ H' xs, Same H H' → PrsP K H' xs qs → k xs H') → tPairsR qs σ H k
  | [], H, k, h => h H [] (fun _ _ e => e) trivial
  | q :: qs, H, k, h => by
    refine ⟨szle (by show 2 ≤ 100000; decide), fun p hp => ?_⟩
    have s1 := same_new (o := .tup [V.int q.1, V.int q.2]) hp
    exact tPairs_go fun H' xs s2 hP => h H' (.ref p :: xs) (s1.trans s2) ⟨⟨p, rfl, pair_sR (st_of upd_same) s2⟩, hP⟩
/-- what an entry is -/
structure EntQ (q : Int × Int) : Prop where
  low : LowQ q
  top : q.1.natAbs ≤ 25
  bot : q.2 ≤ 9
theorem ent_small {q : Int × Int} (h : EntQ q) : Small q := by
  have h1 := h.low.pos
  have h2 := h.bot
  have h3 := h.top
  refine ⟨h1, ?_, ?_⟩
  · exact Nat.lt_of_lt_of_le (log_of (k := 10) (by omega) (by decide)) (by decide)
  · exact Nat.lt_of_lt_of_le (log_of (k := 10) (by omega) (by decide)) (by decide)
abbrev entL : List (Int × Int) := [(0, 1), (0, 1), (1, 1), (-1, 1), (2, 1), (3, 1), (-2, 1), (1, 2), (-5, 3), (0, 1)]
theorem ent_of {q : Int × Int} (h : q ∈ entL) : EntQ q ∧ q.1.natAbs ≤ 5 ∧ q.2 ≤ 3 := by
  simp only [List.mem_cons, List.not_mem_nil, or_false] at h
  rcases h with rfl | rfl | rfl | rfl | rfl | rfl | rfl | rfl | rfl | rfl <;> exact ⟨⟨⟨by decide, by decide⟩, by decide, by decide⟩, by decide, by decide⟩
theorem ent_mul {x y : Int × Int} (hx : LowQ x) (hy : LowQ y) (h1 : x.1.natAbs ≤ 5) (h2 : x.2 ≤ 3) (h3 : y.1.natAbs ≤ 5) (h4 : y.2 ≤ 3) : EntQ (mulQ x y) := by
  have g := low_ok (t := x.1 * y.1) (Int.mul_ne_zero hx.ne hy.ne)
  have g1 := g.top
  have g2 := g.bot
  have p1 := hx.pos
  have p2 := hy.pos
  have b1 : (x.1 * y.1).natAbs ≤ 25 := by rw [Int.natAbs_mul]; exact Nat.mul_le_mul h1 h3
  have b2 : (x.2 * y.2).natAbs ≤ 9 := by rw [Int.natAbs_mul]; exact Nat.mul_le_mul (show x.2.natAbs ≤ 3 by omega) (show y.2.natAbs ≤ 3 by omega)
  have e : mulQ x y = lowQ (x.1 * y.1) (x.2 * y.2) := rfl
  have g3 := g.pos
  rw [← e] at g1 g2 g3
  exact ⟨low_mul hx hy, by omega, by omega⟩
def Ent5 (q : Int × Int) : Prop := EntQ q ∧ q.1.natAbs ≤ 5 ∧ q.2 ≤ 3
theorem pair_xr {K : PySem.W.Frag} {a D p : Addr} {H : Hp} {q : Int × Int} {xs ys : List V} (h : PairAt K H p q) (ha : H a = some (.lst xs)) (hD : H D = some (.lst ys)) : PairAt K (xr a D H) p q := by
  have go : ∀ {o : HO}, H p = some o → (∀ zs, o ≠ .lst zs) → xr a D H p = some o := fun {o} e n => xr_get (fun z => by rw [z, ha] at e; exact n xs (Option.some.inj e).symm) (fun z => by rw [z, hD] at e; exact n ys (Option.some.inj e).symm) e
  rcases h with (h | ⟨o, h⟩) | h
  · exact .inl (.inl (go h fun zs e => nomatch e))
  · exact .inl (.inr ⟨o, go h fun zs e => nomatch e⟩)
  · exact .inr h
theorem prs_xr {K : PySem.W.Frag} {a D : Addr} {H : Hp} {us vs : List V} (ha : H a = some (.lst us)) (hD : H D = some (.lst vs)) : ∀ {xs : List V} {qs : List (Int × Int)}, PrsP K H xs qs → PrsP K (xr a D H) xs qs
  | [], [], _ => trivial
  | _ :: _, _ :: _, ⟨⟨p, h1, h2⟩, h⟩ => ⟨⟨p, h1, pair_xr h2 ha hD⟩, prs_xr ha hD h⟩
  | [], _ :: _, h => h.elim
  | _ :: _, [], h => h.elim
theorem prs_x {K : PySem.W.Frag} {a : Addr} {H H' : Hp} {xs : List V} {qs : List (Int × Int)} (h : PrsP K H xs qs) (pot : Pot H a) (e : SmX a H H') : PrsP K H' xs qs := let ⟨_, _, g, _⟩ := pot; prs_butR g e h
def spEntR (K : PySem.W.Frag) : Sp := fun vs H Q _ => ∃ a : Addr, vs = [.ref a] ∧ Pot H a ∧ ∀ (H' : Hp) (p : Addr) (q : Int × Int), SmX a H H' → Pot H' a → PairAt K H' p q → Ent5 q → Q (.ref p) H'
def spRowR (K : PySem.W.Frag) : Sp := fun vs H Q _ => ∃ (a : Addr) (n : Nat), vs = [.ref a, .int n] ∧ Pot H a ∧ n ≤ 60 ∧
  ∀ (H' : Hp) (r : Addr) (xs : List V) (qs : List (Int × Int)), SmX a H H' → Pot H' a → H r = none → H' r = some (.lst xs) → PrsP K H' xs qs → qs.length = n → (∀ q ∈ qs, Ent5 q) → Q (.ref r) H'
def spListR (K : PySem.W.Frag) : Sp := fun vs H Q _ => ∃ (a : Addr) (n m : Nat), vs = [.ref a, .int n, .int m] ∧ Pot H a ∧ n ≤ 60 ∧ m ≤ 60 ∧
  ∀ (H' : Hp) (r : Addr) (xs : List V) (qss : List (List (Int × Int))), SmX a H H' → Pot H' a → H r = none → H' r = some (.lst xs) → PtRows K (xr a r H') xs qss → qss.length = m → (∀ qs ∈ qss, qs.length = n ∧ ∀ q ∈ qs, Ent5 q) → Q (.ref r) H'
def spTableR (K : PySem.W.Frag) : Sp := fun vs H Q _ => ∃ (a : Addr) (n : Nat), vs = [.ref a, .int n] ∧ Pot H a ∧ n ≤ 60 ∧
  ∀ (H' : Hp) (r : Addr) (qss : List (List (Int × Int))), SmX a H H' → Pot H' a → H r = none → LTab K (xr a a H') r qss → qss.length = n → (∀ qs ∈ qss, qs.length = n ∧ ∀ q ∈ qs, EntQ q) → Q (.ref r) H'
section
variable {P : Program} {w : World} {K : PySem.W.Frag} {mg : Str → Option Value} {base : Heap}
theorem sc_entR : FnScope ["_law_pot_here"] ["_law_pot_here"] (defScope sEntR) := ⟨rfl, rfl, rfl, by decide +kernel, rfl, by decide +kernel, by decide +kernel⟩
theorem ok_entR {f f1 : Addr} {fd fd1 : FuncData} (F : Fun K "_law_entry" "_law_entry" sEntR f fd) (D1 : Df K mg "_law_pick" sPick ["_law_pot_here", "_law_some"] f1 fd1) (G1 : FnOk P w K mg base CX0 2 f1 fd1 ["_law_pot_here", "_law_some"] (spPick K)) : FnOk P w K mg base CX0 3 f fd ["_law_pot_here"] (spEntR K) := by
  refine F.ok sc_entR (fun vs H Q E h => ?_) (fun cdv A outer s H vs Q E hr h => ?_)
  · obtain ⟨a, rfl, _⟩ := h
    rfl
  · obtain ⟨a, rfl, pot, q⟩ := h
    refine ⟨_, pss_one (ps_ret (pe_call G1 hr rfl D1.g D1.F.kp D1.b .nil pass0 (pa_cons (pv 0) (pa_cons (pe_lst (t := tPairsR entL) (pa_cons (pe_tup (pa_cons pe_int (pa_cons pe_int pa_nil))) (pa_cons (pe_tup (pa_cons pe_int (pa_cons pe_int pa_nil))) (pa_cons (pe_tup (pa_cons pe_int (pa_cons pe_int pa_nil))) (pa_cons (pe_tup (pa_cons pe_negR (pa_cons pe_int pa_nil))) (pa_cons (pe_tup (pa_cons pe_int (pa_cons pe_int pa_nil)))
      (pa_cons (pe_tup (pa_cons pe_int (pa_cons pe_int pa_nil))) (pa_cons (pe_tup (pa_cons pe_negR (pa_cons pe_int pa_nil))) (pa_cons (pe_tup (pa_cons pe_int (pa_cons pe_int pa_nil))) (pa_cons (pe_tup (pa_cons pe_negR (pa_cons pe_int pa_nil))) (pa_cons (pe_tup (pa_cons pe_int (pa_cons pe_int pa_nil))) pa_nil))))))))))) pa_nil)))), ?_⟩
    refine ⟨_, rfl, tPairs_go (K := K) fun H1 xs s1 hP => ?_⟩
    obtain ⟨lx, hat⟩ := prs_at hP
    have l10 : xs.length = 10 := lx
    refine ⟨szle (by omega), fun b hb => ?_⟩
    have s2 := same_new (o := .lst xs) hb
    have p2 := potS (potS pot s1) s2
    refine ⟨a, b, xs, rfl, p2, upd_same, potF (potS pot s1) hb, (fun e => by rw [e] at l10; cases l10), by omega, fun H2 i v s3 p3 hv => ?_⟩
    obtain ⟨z, p, hz, rfl, hp⟩ := hat i v hv
    obtain ⟨u, u', hu, _⟩ := p2
    exact q H2 p z (((smx_of s1).trans (smx_of s2)).trans s3) p3 (pair_but (pair_sR hp s2) hu s3) (ent_of (List.mem_of_getElem? hz))
abbrev nRowR : List Str := ["_law_pot_here", "_law_wide", "_law_place"]
theorem sc_rowR : FnScope nRowR ["_law_pot_here", "_law_wide"] (defScope sRowR) := ⟨rfl, rfl, rfl, by decide +kernel, rfl, by decide +kernel, by decide +kernel⟩
theorem ok_rowR {f f1 : Addr} {fd fd1 : FuncData} (F : Fun K "_law_row" "_law_row" sRowR f fd) (D1 : Df K mg "_law_entry" sEntR ["_law_pot_here"] f1 fd1) (G1 : FnOk P w K mg base CX0 3 f1 fd1 ["_law_pot_here"] (spEntR K)) (B : Bl mg) : FnOk P w K mg base CX0 4 f fd ["_law_pot_here", "_law_wide"] (spRowR K) := by
  refine F.ok sc_rowR (fun vs H Q E h => ?_) (fun cdv A outer s H vs Q E hr h => ?_)
  · obtain ⟨a, n, rfl, _⟩ := h
    rfl
  · obtain ⟨a, n, rfl, pot, few, q⟩ := h
    refine ⟨_, pss_one (ps_ret (pe_lc (own := [("_law_place", 2)]) (g := gName 2) (tt := tYes) (te := tCall (spEntR K) [] E0 (tCons (tVar 0) tNil)) rfl sc_rowR.nd (pi_range1 rfl B.range (pa_cons (pv 1) pa_nil)) (blkOk_by (N := nRowR) (sc := defScope sRowR) (by decide +kernel))
      (fun _ _ _ _ _ => pg_name (i := 2) sc_rowR.nd rfl (Or.inl rfl)) (fun _ _ _ _ _ => pts_nil) (fun _ _ _ _ _ => pe_call G1 hr rfl D1.g D1.F.kp D1.b .nil pass0 (pa_cons (pv 0) pa_nil)))), ?_⟩
    refine ⟨_, rfl, n, rfl, by omega, by omega, fun D hD => ?_⟩
    rw [Int.toNat_natCast]
    have nDa := potF pot hD
    refine lc_range (lo := 0) (n := n) (fun k G => SmX a H G ∧ Pot G a ∧ ∃ acc qs, G D = some (.lst acc) ∧ PrsP K G acc qs ∧ qs.length = k ∧ ∀ q ∈ qs, Ent5 q) ⟨smx_of (same_new hD), potS pot (same_new hD), [], [], upd_same, trivial, rfl, fun q h => nomatch h⟩ ?_ ?_
    · rintro k G hk ⟨xS, pG, acc, qs, hacc, hP, hl, hE⟩
      refine ⟨rfl, _, rfl, a, rfl, pG, fun G2 p z x2 p2 hp hz => ?_⟩
      have l1 := (prs_at hP).1
      refine ⟨acc, x2 _ _ nDa hacc, szlt (by omega), smxU (xS.trans x2) hD, potU p2 nDa, acc ++ [.ref p], qs ++ [z], upd_same, ?_, by rw [List.length_append, hl]; rfl, fun q hq => ?_⟩
      · exact prs_butR (x2 _ _ nDa hacc) smx_upd (prs_appR (prs_x hP pG x2) ⟨⟨p, rfl, hp⟩, trivial⟩)
      · rcases List.mem_append.mp hq with h | h
        · exact hE q h
        · rw [List.mem_singleton.mp h]; exact hz
    · rintro G ⟨xS, pG, acc, qs, hacc, hP, hl, hE⟩
      exact q G D acc qs xS pG hD hacc hP hl hE
abbrev nListR : List Str := ["_law_pot_here", "_law_wide", "_law_many", "_law_found", "_law_turn"]
theorem sc_listR : FnScope nListR ["_law_pot_here", "_law_wide", "_law_many"] (defScope sListR) := ⟨rfl, rfl, rfl, by decide +kernel, rfl, by decide +kernel, by decide +kernel⟩
theorem ok_listR {f f1 : Addr} {fd fd1 : FuncData} (F : Fun K "_law_list" "_law_list" sListR f fd) (D1 : Df K mg "_law_row" sRowR ["_law_pot_here", "_law_wide"] f1 fd1) (G1 : FnOk P w K mg base CX0 4 f1 fd1 ["_law_pot_here", "_law_wide"] (spRowR K)) (B : Bl mg) : FnOk P w K mg base CX0 5 f fd ["_law_pot_here", "_law_wide", "_law_many"] (spListR K) := by
  refine F.ok sc_listR (fun vs H Q E h => ?_) (fun cdv A outer s H vs Q E hr h => ?_)
  · obtain ⟨a, n, m, rfl, _⟩ := h
    rfl
  · obtain ⟨a, n, m, rfl, pot, few, few2, q⟩ := h
    refine ⟨_, pss_cons (ps_set (i := 3) sc_listR.nd rfl (Or.inl rfl) (pe_lst pa_nil))
      (pss_cons (ps_for PassesOwn.never rfl (pi_range1 rfl B.range (pa_cons (pv 2) pa_nil)) (pg_name (i := 4) sc_listR.nd rfl (Or.inl rfl))
        (pss_one (ps_expr (pe_bm PySem.F.plainAttrs_list PySem.F.slot_list_append PySem.F.type_list_append mt_append (pv 3) (pa_cons (pe_call G1 hr rfl D1.g D1.F.kp D1.b .nil pass0 (pa_cons (pv 0) (pa_cons (pv 1) pa_nil))) pa_nil)))))
      (pss_one (ps_ret (pv 3)))), ?_⟩
    refine ⟨szle (by show 0 ≤ 100000; decide), fun D hD => ?_⟩
    have nDa := potF pot hD
    refine ⟨_, rfl, m, rfl, by omega, by omega, ?_⟩
    rw [Int.toNat_natCast]
    refine for_range (lo := 0) (n := m) (fun k σ G => ∃ (v4 : Option V) (acc : List V) (qss : List (List (Int × Int))), σ = [some (.ref a), some (.int n), some (.int m), some (.ref D), v4] ∧ SmX a H G ∧ Pot G a ∧ G D = some (.lst acc) ∧ PtRows K (xr a D G) acc qss ∧ qss.length = k ∧ ∀ qs ∈ qss, qs.length = n ∧ ∀ q ∈ qs, Ent5 q)
      ⟨_, [], [], rfl, smx_of (same_new hD), potS pot (same_new hD), upd_same, trivial, rfl, fun q h => nomatch h⟩ ?_ ?_
    · rintro k σ G hk ⟨v4, acc, qss, rfl, xS, pG, hacc, hP, hl, hE⟩
      refine ⟨_, rfl, .inl ⟨rfl, _, sl_of hacc⟩, ?_⟩
      refine ⟨_, rfl, _, rfl, a, n, rfl, pG, few, fun G2 r xs qs x2 p2 hr0 hr2 hP2 hl2 hE2 => ?_⟩
      have hacc2 := x2 _ _ nDa hacc
      have nra := potF pG hr0
      have nrD : r ≠ D := fun e => by rw [e, hacc] at hr0; cases hr0
      have l1 := pt_len hP
      obtain ⟨u, u', hu, _⟩ := id p2
      refine ⟨D, acc, _, rfl, rfl, hacc2, szlt (by omega), _, acc ++ [.ref r], qss ++ [qs], rfl, smxU (xS.trans x2) hD, potU p2 nDa, upd_same, ?_, by rw [List.length_append, hl]; rfl, fun z hz => ?_⟩
      · refine pt_app (pt_s ((xr_x x2).trans xr_up) hP) ⟨⟨r, xs, rfl, xr_up _ _ (xr_get nra nrD hr2), prs_sR xr_up (prs_xr hu hacc2 hP2)⟩, trivial⟩
      · rcases List.mem_append.mp hz with h | h
        · exact hE z h
        · rw [List.mem_singleton.mp h]; exact ⟨hl2, hE2⟩
    · rintro σ G ⟨v4, acc, qss, rfl, xS, pG, hacc, hP, hl, hE⟩
      exact ⟨_, rfl, q G D acc qss xS pG hD hacc hP hl hE⟩
theorem pt_set {H : Hp} {b : Addr} {ys : List V} {q : List (Int × Int)} (hb : H b = some (.lst ys)) (hP : PrsP K H ys q) : ∀ {xs : List V} {qs : List (List (Int × Int))} {i : Nat}, PtRows K H xs qs → PtRows K H (xs.set i (.ref b)) (qs.set i q)
  | [], [], _, _ => by simp [PtRows]
  | x :: xs, z :: qs, 0, ⟨_, h⟩ => ⟨⟨b, ys, rfl, hb, hP⟩, h⟩
  | x :: xs, z :: qs, i + 1, ⟨h1, h⟩ => ⟨h1, pt_set hb hP h⟩
  | [], _ :: _, _, h => h.elim
  | _ :: _, [], _, h => h.elim
theorem prs_rep {H : Hp} {p : Addr} {q : Int × Int} (h : PairAt K H p q) : ∀ {n : Nat}, PrsP K H (List.replicate n (.ref p)) (List.replicate n q)
  | 0 => trivial
  | n + 1 => ⟨⟨p, rfl, h⟩, prs_rep h⟩
abbrev nTableR : List Str := ["_law_pot_here", "_law_size", "_law_found", "_law_one", "_law_other", "_law_number", "_law_entry_here"]
theorem sc_tableR : FnScope nTableR ["_law_pot_here", "_law_size"] (defScope sTableR) := ⟨rfl, rfl, rfl, by decide +kernel, rfl, by decide +kernel, by decide +kernel⟩
theorem ok_tableR {f f1 f2 f3 f4 : Addr} {fd fd1 fd2 fd3 fd4 : FuncData} (F : Fun K "_law_table" "_law_table" sTableR f fd) (D1 : Df K mg "_law_list" sListR ["_law_pot_here", "_law_wide", "_law_many"] f1 fd1) (G1 : FnOk P w K mg base CX0 5 f1 fd1 ["_law_pot_here", "_law_wide", "_law_many"] (spListR K))
    (D2 : Df K mg "_law_draw" sDraw ["_law_pot_here", "_law_room"] f2 fd2) (D3 : Df K mg "_law_entry" sEntR ["_law_pot_here"] f3 fd3) (G3 : FnOk P w K mg base CX0 3 f3 fd3 ["_law_pot_here"] (spEntR K)) (D4 : Df K mg "_law_by" sByR ["_law_one", "_law_other"] f4 fd4) (G4 : FnOk P w K mg base CX0 2 f4 fd4 ["_law_one", "_law_other"] (spTwoR K mulQ)) (B : Bl mg) :
    FnOk P w K mg base CX0 6 f fd ["_law_pot_here", "_law_size"] (spTableR K) := by
  have G2 : FnOk P w K mg base CX0 1 f2 fd2 ["_law_pot_here", "_law_room"] spDraw := ok_draw D2.F B
  refine F.ok sc_tableR (fun vs H Q E h => ?_) (fun cdv A outer s H vs Q E hr h => ?_)
  · obtain ⟨a, n, rfl, _⟩ := h
    rfl
  · obtain ⟨a, n, rfl, pot, few, q⟩ := h
    have hr1 : Room 1 _ := hr.mono (by decide)
    have hr2 : Room 2 _ := hr.mono (by decide)
    have hr3 : Room 3 _ := hr.mono (by decide)
    refine ⟨_, pss_cons (ps_set (i := 2) sc_tableR.nd rfl (Or.inl rfl) (pe_call G1 hr rfl D1.g D1.F.kp D1.b .nil pass0 (pa_cons (pv 0) (pa_cons (pv 1) (pa_cons (pv 1) pa_nil)))))
      (C8.pss_cut (ps_if (PW.pt (pw_and (pt_cmpR op_gt (pv 1) pe_int (nomark _)) (pw_and1 (pt_cmpR op_eq (pe_call G2 hr1 rfl D2.g D2.F.kp D2.b .nil pass0 (pa_cons (pv 0) (pa_cons pe_int pa_nil))) pe_int (nomark _)))))
          (pss_cons (ps_asg (pe_tup (pa_cons (pe_call G2 hr1 rfl D2.g D2.F.kp D2.b .nil pass0 (pa_cons (pv 0) (pa_cons (pv 1) pa_nil))) (pa_cons (pe_call G2 hr1 rfl D2.g D2.F.kp D2.b .nil pass0 (pa_cons (pv 0) (pa_cons (pv 1) pa_nil))) (pa_cons (pe_call G3 hr3 rfl D3.g D3.F.kp D3.b .nil pass0 (pa_cons (pv 0) pa_nil)) pa_nil))))
              (pg_tup rfl (pgs_cons (pg_name (i := 3) sc_tableR.nd rfl (Or.inl rfl)) (pgs_cons (pg_name (i := 4) sc_tableR.nd rfl (Or.inl rfl)) (pgs_cons (pg_name (i := 5) sc_tableR.nd rfl (Or.inr rfl)) pgs_nil)))))
          (pss_one (ps_asg (pe_ifExp (pt_cmpR op_ne (pv 3) (pv 4) (nomark _))
              (pe_lc (own := [("_law_entry_here", 6)]) (g := gName 6) (tt := tYes) (te := tCall (spTwoR K mulQ) [] E0 (tCons (tVar 5) (tCons (tVar 6) tNil))) rfl sc_tableR.nd (pi_list (pe_ix ix_list (pv 2) (pv 4) (fun _ _ => rfl))) (blkOk_by (N := nTableR) (sc := defScope sTableR) (by decide +kernel))
                (fun _ _ _ _ _ => pg_name (i := 6) sc_tableR.nd rfl (Or.inl rfl)) (fun _ _ _ _ _ => pts_nil) (fun _ _ _ _ _ => pe_call G4 hr2 rfl D4.g D4.F.kp D4.b .nil pass0 (pa_cons (pv 5) (pa_cons (pv 6) pa_nil))))
              (pe_op op_rep (pe_lst (pa_cons (pe_tup (pa_cons pe_int (pa_cons pe_int pa_nil))) pa_nil)) (pv 1))) (pg_sub (pv 2) (pv 3) set_list)))) pss_nil)
      (pss_one (ps_ret (pv 2)))), ?_⟩
    refine ⟨_, rfl, _, rfl, _, rfl, a, n, n, rfl, pot, few, few, fun H1 D acc qss x1 p1 hD hacc hP hl hE => ?_⟩
    have nDa := potF pot hD
    refine ⟨fun σ G => ∃ (v3 v4 v5 : Option V) (acc' : List V) (qss' : List (List (Int × Int))), σ = [some (V.ref a), some (V.int n), some (V.ref D), v3, v4, v5, none] ∧ SmX a H G ∧ Pot G a ∧ G D = some (.lst acc') ∧ PtRows K (xr a D G) acc' qss' ∧ qss'.length = n ∧ (∀ qs ∈ qss', qs.length = n ∧ ∀ q ∈ qs, EntQ q), ?_, ?_⟩
    · have hE2 : ∀ qs ∈ qss, qs.length = n ∧ ∀ q ∈ qs, EntQ q := fun qs h => ⟨(hE qs h).1, fun q hq => ((hE qs h).2 q hq).1⟩
      have lx := pt_len hP
      refine ⟨_, rfl, _, _, rfl, rfl, _, rfl, ?_⟩
      refine ite2 (fun c => ?_) (fun c => ?_)
      · have n1 : 1 < n := by have := of_decide_eq_true c; omega
        refine ⟨_, rfl, a, 3, rfl, p1, by decide, by decide, fun H2 d x2 p2 d0 d1 => ⟨rfl, _, rfl, ?_⟩⟩
        refine ite2 (fun c2 => ?_) (fun c2 => ?_)
        · refine ⟨_, rfl, _, rfl, a, n, rfl, p2, by omega, by omega, fun H3 i x3 p3 i0 i1 => ?_⟩
          refine ⟨_, rfl, _, rfl, a, n, rfl, p3, by omega, by omega, fun H4 j x4 p4 j0 j1 => ?_⟩
          refine ⟨_, rfl, a, rfl, p4, fun H5 p z x5 p5 hp hz => ⟨szle (by show 3 ≤ 100000; decide), fun t ht => ?_⟩⟩
          have st := same_new (o := .tup [V.int i, V.int j, V.ref p]) ht
          have x15 := (((x2.trans x3).trans x4).trans x5).trans (smx_of st)
          have p6 := potS p5 st
          refine ⟨t, _, rfl, st_of upd_same, rfl, _, _, rfl, _, _, rfl, _, _, rfl, rfl, ?_⟩
          have hp6 := pair_sR hp st
          have x6 := x1.trans x15
          have hacc6 := x15 _ _ nDa hacc
          have hP6 := pt_s (xr_x (D := D) x15) hP
          generalize upd H5 t (.tup [V.int i, V.int j, V.ref p]) = G at hp6 x6 hacc6 hP6 p6
          clear x15 st ht hP hacc x5 x4 x3 x2 p5 p4 p3 p2 hp
          have fin : ∀ (G' : Hp) (D2 : Addr) (ac : List V) (row : List (Int × Int)), Same G G' → G D2 = none → G' D2 = some (.lst ac) → PrsP K G' ac row → row.length = n → (∀ q ∈ row, EntQ q) →
              gSub (tVar 2) (tVar 3) rSetL (.ref D2) [some (V.ref a), some (V.int n), some (V.ref D), some (V.int i), some (V.int j), some (V.ref p), none] G' (fun σ G => ∃ (v3 v4 v5 : Option V) (acc' : List V) (qss' : List (List (Int × Int))), σ = [some (V.ref a), some (V.int n), some (V.ref D), v3, v4, v5, none] ∧ SmX a H G ∧ Pot G a ∧ G D = some (.lst acc') ∧ PtRows K (xr a D G) acc' qss' ∧ qss'.length = n ∧ (∀ qs ∈ qss', qs.length = n ∧ ∀ q ∈ qs, EntQ q)) := by
            intro G' D2 ac row sG hD2 hac hQ hlr hEr
            have nD2a := potF p6 hD2
            have nD2D : D2 ≠ D := fun e => by rw [e, hacc6] at hD2; cases hD2
            have haccG := sG _ _ hacc6
            obtain ⟨u, u', hu, _⟩ := potS p6 sG
            refine ⟨_, rfl, _, rfl, D, acc, _, i.toNat, rfl, rfl, haccG, ixN_p i0 (by omega), ?_⟩
            refine ⟨_, _, _, _, qss.set i.toNat row, rfl, smxU (x6.trans (smx_of sG)) hD, potU (potS p6 sG) nDa, upd_same, ?_, by rw [List.length_set]; exact hl, fun qs hqs => ?_⟩
            · exact pt_set (xr_up _ _ (xr_get nD2a nD2D hac)) (prs_sR xr_up (prs_xr hu haccG hQ)) (pt_s ((xr_s sG).trans xr_up) hP6)
            · rcases List.mem_or_eq_of_mem_set hqs with h | h
              · exact hE2 qs h
              · rw [h]; exact ⟨hlr, hEr⟩
          refine ⟨_, rfl, _, rfl, rfl, _, rfl, ?_⟩
          refine ite2 (fun c3 => ?_) (fun c3 => ?_)
          · have jl : j.toNat < acc.length := by omega
            obtain ⟨q1, b, zs, f1, f2, f3, f4⟩ := pt_at hP6 j.toNat _ (List.getElem?_eq_getElem jl)
            have e1 := hE q1 (List.mem_of_getElem? f1)
            have lz := (prs_at f4).1
            refine ⟨_, rfl, _, rfl, D, acc, _, _, rfl, rfl, sl_of hacc6, atI_p j0 (List.getElem?_eq_getElem jl), b, f2, ⟨zs, sl_of (xr_le _ _ f3)⟩, fun D2 hD2 => ?_⟩
            refine lc_list (xs := zs) (fun k G' => Same G G' ∧ ∃ ac, G' D2 = some (.lst ac) ∧ PrsP K G' ac ((q1.map fun e => mulQ z e).take k)) ⟨same_new hD2, [], upd_same, by simp [PrsP]⟩ (fun k G' _ p => sl_of (p.1 _ _ (xr_le _ _ f3))) ?_ ?_
            · rintro k y G' hy ⟨sG, ac, hac, hQ⟩
              obtain ⟨z2, p2, hz2, rfl, hp2⟩ := (prs_at f4).2 k y hy
              have fewk := (prs_at hQ).1
              have : ((q1.map fun e => mulQ z e).take k).length ≤ 60 := by rw [List.length_take, List.length_map]; omega
              refine ⟨rfl, _, rfl, _, rfl, p, p2, z, z2, rfl, pair_sR hp6 sG, pair_sR hp2 (xr_le.trans sG), ent_small hz.1, ent_small (e1.2 z2 (List.mem_of_getElem? hz2)).1, fun G2 r s2 _ hr2 => ?_⟩
              refine ⟨ac, s2 _ _ hac, szlt (by omega), same_mut (sG.trans s2) hD2, ac ++ [.ref r], upd_same, ?_⟩
              rw [take_at (x := mulQ z z2) (by rw [List.getElem?_map, hz2]; rfl)]
              exact prs_butR (s2 _ _ hac) smx_upd (prs_appR (prs_sR s2 hQ) ⟨⟨r, rfl, hr2⟩, trivial⟩)
            · rintro G' ⟨sG, ac, hac, hQ⟩
              rw [show (q1.map fun e => mulQ z e).take zs.length = q1.map fun e => mulQ z e from List.take_of_length_le (by rw [List.length_map]; omega)] at hQ
              refine fin G' D2 ac _ sG hD2 hac hQ (by rw [List.length_map]; exact e1.1) fun q hq => ?_
              obtain ⟨y, hy, rfl⟩ := List.mem_map.mp hq
              have e2 := e1.2 y hy
              exact ent_mul hz.1.low e2.1.low hz.2.1 hz.2.2 e2.2.1 e2.2.2
          · refine ⟨szle (by show 2 ≤ 100000; decide), fun t ht => ⟨szle (by show 1 ≤ 100000; decide), fun b hb => ?_⟩⟩
            have s1 := same_new (o := .tup [V.int 0, V.int 1]) ht
            have s2 := same_new (o := .lst [V.ref t]) hb
            refine ⟨_, rfl, b, n, [V.ref t], rfl, rfl, upd_same, by omega, by omega, szle (by show 1 * (n : Int).toNat ≤ 100000; omega), fun D2 hD2 => ?_⟩
            have s3 := same_new (o := .lst (List.replicate (n : Int).toNat [V.ref t]).flatten) hD2
            refine fin _ D2 _ (List.replicate n (0, 1)) ((s1.trans s2).trans s3) ((s1.trans s2).free hD2) upd_same ?_ (List.length_replicate ..) fun q hq => ?_
            · rw [show (List.replicate (n : Int).toNat [V.ref t]).flatten = List.replicate n (V.ref t) by rw [Int.toNat_natCast, List.flatten_replicate_singleton]]
              exact prs_rep (pair_sR (K := K) (q := (0, 1)) (st_of upd_same) (s2.trans (same_new hD2)))
            · rw [(List.mem_replicate.mp hq).2]
              exact (ent_of (q := (0, 1)) (by decide)).1
        · exact ⟨_, _, _, acc, qss, rfl, x1.trans x2, p2, x2 _ _ nDa hacc, pt_s (xr_x x2) hP, hl, hE2⟩
      · exact ⟨_, _, _, acc, qss, rfl, x1, p1, hacc, hP, hl, hE2⟩
    · rintro σ G ⟨v3, v4, v5, acc', qss', rfl, xS, pG, hacc', hP', hl', hE'⟩
      exact ⟨_, rfl, q G D qss' xS pG hD ⟨acc', xr_get nDa nDa hacc', pt_s xr_sub hP'⟩ hl' hE'⟩
end
end Tk

namespace Tk
open PySem PySem.Spec PyProof.Rows L2 ClX
/-! ## tables whose lists and tuples stand as such: they show as a text -/
def EqA (H : Hp) (a : Addr) (xs : List V) : Prop := H a = some (.lst xs) ∨ H a = some (.tup xs)
theorem eqA_s {H H' : Hp} {a : Addr} {xs : List V} (h : EqA H a xs) (e : Same H H') : EqA H' a xs := h.elim (fun h => .inl (e _ _ h)) (fun h => .inr (e _ _ h))
theorem eqA_a {K : PySem.W.Frag} {H : Hp} {a : Addr} {xs : List V} (h : EqA H a xs) : SqA K H a xs := h.elim (fun h => .inl (sl_of h)) (fun h => .inr (st_of h))
def RowX (C : Addr) (H : Hp) (v : V) (qs : List (Int × Int)) : Prop := ∃ a xs, v = .ref a ∧ EqA H a xs ∧ NumsP C H xs qs
theorem rowX_s {C : Addr} {H H' : Hp} {v : V} {qs : List (Int × Int)} (h : RowX C H v qs) (e : Same H H') : RowX C H' v qs := let ⟨a, xs, h1, h2, h3⟩ := h; ⟨a, xs, h1, eqA_s h2 e, nums_s e h3⟩
theorem rowX_row {K : PySem.W.Frag} {C : Addr} {H : Hp} {v : V} {qs : List (Int × Int)} (h : RowX C H v qs) : RowAt K C H v qs := let ⟨a, xs, h1, h2, h3⟩ := h; ⟨a, xs, h1, eqA_a h2, h3⟩
def RowsX (C : Addr) (H : Hp) : List V → List (List (Int × Int)) → Prop
  | [], [] => True
  | x :: xs, q :: qs => RowX C H x q ∧ RowsX C H xs qs
  | _, _ => False
theorem rowsX_s {C : Addr} {H H' : Hp} (e : Same H H') : ∀ {xs : List V} {qs : List (List (Int × Int))}, RowsX C H xs qs → RowsX C H' xs qs
  | [], [], _ => trivial
  | _ :: _, _ :: _, ⟨h1, h⟩ => ⟨rowX_s h1 e, rowsX_s e h⟩
  | [], _ :: _, h => h.elim
  | _ :: _, [], h => h.elim
theorem rowsX_app {C : Addr} {H : Hp} : ∀ {xs ys : List V} {qs rs : List (List (Int × Int))}, RowsX C H xs qs → RowsX C H ys rs → RowsX C H (xs ++ ys) (qs ++ rs)
  | [], _, [], _, _, h => h
  | _ :: _, _, _ :: _, _, ⟨h1, h2⟩, h => ⟨h1, rowsX_app h2 h⟩
  | [], _, _ :: _, _, h, _ => h.elim
  | _ :: _, _, [], _, h, _ => h.elim
theorem rowsX_len {C : Addr} {H : Hp} : ∀ {xs : List V} {qs : List (List (Int × Int))}, RowsX C H xs qs → xs.length = qs.length
  | [], [], _ => rfl
  | _ :: _, _ :: _, ⟨_, h⟩ => by rw [List.length_cons, List.length_cons, rowsX_len h]
  | [], _ :: _, h => h.elim
  | _ :: _, [], h => h.elim
theorem rowsX_rows {K : PySem.W.Frag} {C : Addr} {H : Hp} : ∀ {xs : List V} {qs : List (List (Int × Int))}, RowsX C H xs qs → RowsP K C H xs qs
  | [], [], _ => trivial
  | _ :: _, _ :: _, ⟨h1, h⟩ => ⟨rowX_row h1, rowsX_rows h⟩
  | [], _ :: _, h => h.elim
  | _ :: _, [], h => h.elim
def TabX (C : Addr) (H : Hp) (v : V) (n : Nat) (qss : List (List (Int × Int))) : Prop := n ≤ 6 ∧ qss.length = n ∧ (∀ qs ∈ qss, qs.length = n) ∧ ∃ a xs, v = .ref a ∧ EqA H a xs ∧ RowsX C H xs qss
theorem tabX_s {C : Addr} {H H' : Hp} {v : V} {n : Nat} {qss : List (List (Int × Int))} (h : TabX C H v n qss) (e : Same H H') : TabX C H' v n qss := let ⟨h1, h2, h3, a, xs, h4, h5, h6⟩ := h; ⟨h1, h2, h3, a, xs, h4, eqA_s h5 e, rowsX_s e h6⟩
theorem tabX_tab {K : PySem.W.Frag} {C : Addr} {H : Hp} {v : V} {n : Nat} {qss : List (List (Int × Int))} (h : TabX C H v n qss) : TabAt K C H v n qss := let ⟨h1, h2, h3, a, xs, h4, h5, h6⟩ := h; ⟨h1, h2, h3, a, xs, h4, eqA_a h5, rowsX_rows h6⟩
/-! texts -/
theorem tupText_len (ts : List Str) : (tupleText ts).length ≤ (ts.map (·.length)).sum + 2 * ts.length + 4 := by
  have h1 := listText_len_le ts
  have h2 := listText_eq_join ts
  rw [h2] at h1
  unfold tupleText
  simp only [strLen_append] at h1 ⊢
  have e1 : (("[" : String) : Str).length = 1 := rfl
  have e2 : (("]" : String) : Str).length = 1 := rfl
  have e3 : (("(" : String) : Str).length = 1 := rfl
  have e4 : ((if (ts.length == 1) = true then (",)" : String) else ")" : String) : Str).length ≤ 2 := by split <;> decide +kernel
  omega
theorem sum_len_le {b : Nat} : ∀ {ts : List Str}, (∀ t ∈ ts, t.length ≤ b) → (ts.map (·.length)).sum ≤ ts.length * b
  | [], _ => by simp
  | t :: ts, h => by
    have h1 := h t (by simp)
    have h2 := sum_len_le (b := b) (ts := ts) fun u hu => h u (by simp [hu])
    simp only [List.map_cons, List.sum_cons, List.length_cons, Nat.succ_mul]
    omega
theorem txa_nums {C : Addr} {H : Hp} : ∀ {xs : List V} {qs : List (Int × Int)}, NumsP C H xs qs → (∀ q ∈ qs, Tiny q) → ∃ ts, TxA (ShowQ C) H xs ts 0 ∧ ∀ t ∈ ts, t.length ≤ 500
  | [], [], _, _ => ⟨[], .nil, fun t h => nomatch h⟩
  | x :: xs, q :: qs, ⟨h1, h⟩, hq => by
    obtain ⟨ts, h2, h3⟩ := txa_nums h fun r hr => hq r (by simp [hr])
    have tq := hq q (by simp)
    have a1 := int_len tq.1
    have a2 := int_len tq.2
    rcases h1 with ⟨p, rfl, hp⟩ | ⟨i, rfl, rfl⟩
    · refine ⟨rpQ q :: ts, .cons (m := 0) (n := 0) (.own ⟨q, hp, tq, rfl⟩) h2, fun t ht => ?_⟩
      rcases List.mem_cons.mp ht with rfl | ht
      · unfold rpQ
        simp only [strLen_append]
        have e1 : (("Ratio(" : String) : Str).length = 6 := rfl
        have e2 : ((", " : String) : Str).length = 2 := rfl
        have e3 : ((")" : String) : Str).length = 1 := rfl
        omega
      · exact h3 t ht
    · refine ⟨(PyData.int i).shown :: ts, .cons (m := 0) (n := 0) (.int i ?_) h2, fun t ht => ?_⟩
      · simp only [PyData.showable]
        exact decide_eq_true (tiny_log tq.1)
      · rcases List.mem_cons.mp ht with rfl | ht
        · have : (PyData.int i).shown.length ≤ 201 := a1
          omega
        · exact h3 t ht
  | [], _ :: _, h, _ => h.elim
  | _ :: _, [], h, _ => h.elim
theorem tx_eqA {R : Hp → Addr → Str → Prop} {H : Hp} {a : Addr} {xs : List V} {ts : List Str} {n b : Nat} (h : EqA H a xs) (f : xs.length ≤ 6) (g : TxA R H xs ts n) (hb : ∀ t ∈ ts, t.length ≤ b) : ∃ t, Tx R H (.ref a) t (n + 1) ∧ t.length ≤ 6 * b + 16 := by
  have lt := txa_len g
  have s := sum_len_le hb
  have s2 : ts.length * b ≤ 6 * b := Nat.mul_le_mul_right _ (by omega)
  rcases h with h | h
  · refine ⟨_, .lst h (by omega) g, ?_⟩
    have := listText_len_le ts
    omega
  · refine ⟨_, .tup h (by omega) g, ?_⟩
    have := tupText_len ts
    omega
theorem txa_rowsX {C : Addr} {H : Hp} : ∀ {xs : List V} {qss : List (List (Int × Int))}, RowsX C H xs qss → (∀ qs ∈ qss, qs.length ≤ 6 ∧ ∀ q ∈ qs, Tiny q) → ∃ ts n, TxA (ShowQ C) H xs ts n ∧ n ≤ 1 ∧ ∀ t ∈ ts, t.length ≤ 3016
  | [], [], _, _ => ⟨[], 0, .nil, by omega, fun t h => nomatch h⟩
  | x :: xs, q :: qs, ⟨⟨a, ys, e0, h1, h2⟩, h⟩, hq => by
    subst e0
    obtain ⟨ts, n, g1, g2, g3⟩ := txa_rowsX h fun r hr => hq r (by simp [hr])
    obtain ⟨lq, tq⟩ := hq q (by simp)
    obtain ⟨us, f1, f2⟩ := txa_nums h2 tq
    obtain ⟨t, e1, e2⟩ := tx_eqA h1 (by rw [(nums_at h2).1]; exact lq) f1 f2
    refine ⟨t :: ts, _, .cons e1 g1, by omega, fun u hu => ?_⟩
    rcases List.mem_cons.mp hu with rfl | hu
    · omega
    · exact g3 u hu
  | [], _ :: _, h, _ => h.elim
  | _ :: _, [], h, _ => h.elim
theorem tx_tabX {C : Addr} {H : Hp} {v : V} {n : Nat} {qss : List (List (Int × Int))} (h : TabX C H v n qss) (hq : ∀ qs ∈ qss, ∀ q ∈ qs, Tiny q) : ∃ t m, Tx (ShowQ C) H v t m ∧ m ≤ 2 ∧ t.length ≤ 20000 := by
  obtain ⟨n6, hl, hw, a, xs, rfl, h1, h2⟩ := h
  obtain ⟨ts, m, g1, g2, g3⟩ := txa_rowsX h2 fun qs hqs => ⟨by rw [hw qs hqs]; exact n6, hq qs hqs⟩
  obtain ⟨t, e1, e2⟩ := tx_eqA h1 (by rw [rowsX_len h2]; omega) g1 g3
  exact ⟨t, _, e1, by omega, by omega⟩
end Tk

namespace Tk
open PySem PySem.Spec PyProof.Rows L2 ClX
abbrev sPasR : Stmt := top 49
abbrev sGivRow : Stmt := top 50
abbrev sGivR : Stmt := top 51
/-! ## tables as they are passed; told tables as the law's own -/
theorem rat_xr {C a D p : Addr} {H : Hp} {q : Int × Int} {xs ys : List V} (h : RatAt C H p q) (ha : H a = some (.lst xs)) (hD : H D = some (.lst ys)) : RatAt C (xr a D H) p q := by
  obtain ⟨dx, h⟩ := h
  exact ⟨dx, xr_get (fun z => by rw [z, ha] at h; cases h) (fun z => by rw [z, hD] at h; cases h) h⟩
theorem num_xr {C a D : Addr} {H : Hp} {v : V} {q : Int × Int} {xs ys : List V} (h : NumAt C H v q) (ha : H a = some (.lst xs)) (hD : H D = some (.lst ys)) : NumAt C (xr a D H) v q := by
  rcases h with ⟨p, e, h⟩ | h
  · exact .inl ⟨p, e, rat_xr h ha hD⟩
  · exact .inr h
theorem nums_xr {C a D : Addr} {H : Hp} {us vs : List V} (ha : H a = some (.lst us)) (hD : H D = some (.lst vs)) : ∀ {xs : List V} {qs : List (Int × Int)}, NumsP C H xs qs → NumsP C (xr a D H) xs qs
  | [], [], _ => trivial
  | _ :: _, _ :: _, ⟨h1, h⟩ => ⟨num_xr h1 ha hD, nums_xr ha hD h⟩
  | [], _ :: _, h => h.elim
  | _ :: _, [], h => h.elim
theorem num_but {C l : Addr} {H H' : Hp} {v : V} {q : Int × Int} {xs : List V} (h : NumAt C H v q) (hl : H l = some (.lst xs)) (e : SmX l H H') : NumAt C H' v q := by
  rcases h with ⟨p, e1, h⟩ | h
  · exact .inl ⟨p, e1, rat_but h hl e⟩
  · exact .inr h
theorem nums_but {C l : Addr} {H H' : Hp} {zs : List V} (hl : H l = some (.lst zs)) (e : SmX l H H') : ∀ {xs : List V} {qs : List (Int × Int)}, NumsP C H xs qs → NumsP C H' xs qs
  | [], [], _ => trivial
  | _ :: _, _ :: _, ⟨h1, h⟩ => ⟨num_but h1 hl e, nums_but hl e h⟩
  | [], _ :: _, h => h.elim
  | _ :: _, [], h => h.elim
theorem nums_app {C : Addr} {H : Hp} : ∀ {xs ys : List V} {qs rs : List (Int × Int)}, NumsP C H xs qs → NumsP C H ys rs → NumsP C H (xs ++ ys) (qs ++ rs)
  | [], _, [], _, _, h => h
  | _ :: _, _, _ :: _, _, ⟨h1, h2⟩, h => ⟨h1, nums_app h2 h⟩
  | [], _, _ :: _, _, h, _ => h.elim
  | _ :: _, _, [], _, h, _ => h.elim
theorem rows_app {K : PySem.W.Frag} {C : Addr} {H : Hp} : ∀ {xs ys : List V} {qs rs : List (List (Int × Int))}, RowsP K C H xs qs → RowsP K C H ys rs → RowsP K C H (xs ++ ys) (qs ++ rs)
  | [], _, [], _, _, h => h
  | _ :: _, _, _ :: _, _, ⟨h1, h2⟩, h => ⟨h1, rows_app h2 h⟩
  | [], _, _ :: _, _, h, _ => h.elim
  | _ :: _, _, [], _, h, _ => h.elim
/-- what is passed is good -/
structure GoodR (q : Int × Int) : Prop where
  low : LowQ q
  small : Small q
theorem ent_good {q : Int × Int} (h : EntQ q) : GoodR q := ⟨h.low, ent_small h⟩
def spPasR (K : PySem.W.Frag) (C : Addr) : Sp := fun vs H Q _ => ∃ (a p : Addr) (q : Int × Int), vs = [.ref a, .ref p] ∧ Pot H a ∧ PairAt K H p q ∧ GoodR q ∧ ∀ (H' : Hp) (v : V), SmX a H H' → Pot H' a → NumAt C H' v q → Q v H'
def spGivRow (K : PySem.W.Frag) (C : Addr) : Sp := fun vs H Q _ => ∃ (a r : Addr) (xs : List V) (qs : List (Int × Int)), vs = [.ref a, .ref r] ∧ Pot H a ∧ r ≠ a ∧ H r = some (.lst xs) ∧ PrsP K H xs qs ∧ qs.length ≤ 60 ∧ (∀ q ∈ qs, GoodR q) ∧
  ∀ (H' : Hp) (b : Addr), SmX a H H' → Pot H' a → H b = none → RowX C (xr a a H') (.ref b) qs → Q (.ref b) H'
def spGivR (K : PySem.W.Frag) (C : Addr) : Sp := fun vs H Q _ => ∃ (a r : Addr) (n : Nat) (qss : List (List (Int × Int))), vs = [.ref a, .ref r] ∧ Pot H a ∧ LTab K (xr a a H) r qss ∧ n ≤ 6 ∧ qss.length = n ∧ (∀ qs ∈ qss, qs.length = n ∧ ∀ q ∈ qs, GoodR q) ∧
  ∀ (H' : Hp) (b : Addr), SmX a H H' → Pot H' a → H b = none → TabX C (xr a a H') (.ref b) n qss → Q (.ref b) H'
def spPairsN (K : PySem.W.Frag) (C : Addr) : Sp := fun vs H Q _ => ∃ (a : Addr) (xs : List V) (qs : List (Int × Int)), vs = [.ref a] ∧ H a = some (.lst xs) ∧ RatsP C H xs qs ∧ qs.length ≤ 60 ∧
  ∀ (H' : Hp) (r : Addr) (ys : List V), Same H H' → H r = none → H' r = some (.lst ys) → PrsP K H' ys qs → Q (.ref r) H'
def spRowsN (K : PySem.W.Frag) (C : Addr) : Sp := fun vs H Q _ => ∃ (a : Addr) (qss : List (List (Int × Int))), vs = [.ref a] ∧ RtTab C H a qss ∧ qss.length ≤ 60 ∧ (∀ qs ∈ qss, qs.length ≤ 60) ∧ NewLT K H Q qss
section
variable {P : Program} {w : World} {K : PySem.W.Frag} {mg : Str → Option Value} {base : Heap}
abbrev nPasR : List Str := ["_law_pot_here", "_law_pair_here", "_law_is_small"]
theorem sc_pasR : FnScope nPasR ["_law_pot_here", "_law_pair_here"] (defScope sPasR) := ⟨rfl, rfl, rfl, by decide +kernel, rfl, by decide +kernel, by decide +kernel⟩
theorem ok_pasR {f f1 fI f3 C : Addr} {fd fd1 dI fd3 : FuncData} (F : Fun K "_law_passed" "_law_passed" sPasR f fd) (M : RtM K mg C fI dI) (D1 : Df K mg "_law_draw" sDraw ["_law_pot_here", "_law_room"] f1 fd1) (D3 : Df K mg "is_integer" sIsInt ["value"] f3 fd3) (B : Bl mg) :
    FnOk P w K mg base CX0 4 f fd ["_law_pot_here", "_law_pair_here"] (spPasR K C) := by
  have G1 : FnOk P w K mg base CX0 1 f1 fd1 ["_law_pot_here", "_law_room"] spDraw := ok_draw D1.F B
  have GI : FnOk P w K mg base CX0 2 fI dI ["self", "top", "bottom"] (spRInit C) := ok_rinit M.FI M.c D3 B
  refine F.ok sc_pasR (fun vs H Q E h => ?_) (fun cdv A outer s H vs Q E hr h => ?_)
  · obtain ⟨a, p, q, rfl, _⟩ := h
    rfl
  · obtain ⟨a, p, z, rfl, pot, hp, hz, q⟩ := h
    have hr1 : Room 1 _ := hr.mono (by decide)
    refine ⟨_, pss_cons (ps_set (i := 2) sc_pasR.nd rfl (Or.inl rfl) (pe_and (pe_cmpR op_eq (pe_ix ix_tup (pv 1) pe_int (fun _ _ => rfl)) pe_int (nomark _)) (pe_one (pe_cmpR op_lt (pe_callB call_abs (by rfl) B.abs PyProof.Rows.boot_abs (pa_cons (pe_ix ix_tup (pv 1) pe_int (fun _ _ => rfl)) pa_nil)) (pe_op op_pow pe_int pe_int) (nomark _)))))
      (pss_one (ps_ret (pe_ifExp (PW.pt (pw_and (pt_val (pv 2)) (pw_and1 (pt_cmpR op_eq (pe_call G1 hr1 rfl D1.g D1.F.kp D1.b .nil pass0 (pa_cons (pv 0) (pa_cons pe_int pa_nil))) pe_int (nomark _)))))
        (pe_ix ix_tup (pv 1) pe_int (fun _ _ => rfl))
        (pe_make M.mkr GI hr rfl M.c.mgC M.bI .nil pass0 (pa_cons (pe_ix ix_tup (pv 1) pe_int (fun _ _ => rfl)) (pa_cons (pe_ix ix_tup (pv 1) pe_int (fun _ _ => rfl)) pa_nil)))))), ?_⟩
    have mk : ∀ (G : Hp) (σ : L2.St), σ[1]? = some (some (.ref p)) → SmX a H G → Pot G a → tMake C (spRInit C) [] E0 (tCons (tOp (rIxT K) (tVar 1) (tC (.int 0))) (tCons (tOp (rIxT K) (tVar 1) (tC (.int 1))) tNil)) σ G Q := by
      intro G σ hσ xS pG
      obtain ⟨u, u', hu, _⟩ := pot
      have hpG := pair_but hp hu xS
      refine ⟨_, hσ, p, _, _, _, rfl, rfl, hpG, at_i0, _, hσ, p, _, _, _, rfl, rfl, hpG, at_i1, fun x dx nx ndx nex => ?_⟩
      have sm : Same G (upd (upd G dx (.own x)) x (.ins C dx [])) := fun b o e => by
        rw [upd_ne (ne_of_none e nx), upd_ne (ne_of_none e ndx)]
        exact e
      refine ⟨x, dx, z.1, z.2, rfl, upd_same, hz.low.ne, (by have := hz.small.bot; omega), fun H' keep hr' => ⟨rfl, ?_⟩⟩
      have s2 : Same G H' := fun b o e => keep b o (ne_of_none e nx) (sm b o e)
      rw [low_self hz.low.pos hz.low.cop] at hr'
      exact q H' (.ref x) (xS.trans (smx_of s2)) (potS pG s2) (.inl ⟨x, rfl, hr'⟩)
    refine ⟨_, rfl, p, _, _, _, rfl, rfl, hp, at_i1, ?_⟩
    refine ⟨rfl, _, rfl, ?_⟩
    refine ite2 (fun c => ?_) (fun c => ?_)
    · have z2 : z.2 = 1 := V.int.inj (of_decide_eq_true c)
      refine ⟨_, rfl, p, _, _, _, rfl, rfl, hp, at_i0, _, rfl, _, _, rfl, rfl, ⟨by decide, by decide, by decide⟩, _, _, rfl, rfl, ?_⟩
      refine ⟨_, rfl, _, rfl, ?_⟩
      refine ite2 (fun c2 => ?_) (fun c2 => ?_)
      · refine ⟨_, rfl, a, 2, rfl, pot, by decide, by decide, fun H1 d x1 p1 d0 d1 => ⟨rfl, _, rfl, ?_⟩⟩
        refine ite2 (fun c3 => ?_) (fun c3 => ?_)
        · obtain ⟨u, u', hu, _⟩ := pot
          exact ⟨_, rfl, p, _, _, _, rfl, rfl, pair_but hp hu x1, at_i0, q H1 _ x1 p1 (.inr ⟨z.1, rfl, Prod.ext rfl z2⟩)⟩
        · exact mk H1 _ rfl x1 p1
      · exact mk H _ rfl (SmX.refl a H) pot
    · exact ⟨_, rfl, false, rfl, mk H _ rfl (SmX.refl a H) pot⟩
abbrev nGivRow : List Str := ["_law_pot_here", "_law_row_here", "_law_found", "_law_pair_here"]
theorem sc_givRow : FnScope nGivRow ["_law_pot_here", "_law_row_here"] (defScope sGivRow) := ⟨rfl, rfl, rfl, by decide +kernel, rfl, by decide +kernel, by decide +kernel⟩
theorem ok_givRow {f f1 f2 C : Addr} {fd fd1 fd2 : FuncData} (F : Fun K "_law_given_row" "_law_given_row" sGivRow f fd) (D1 : Df K mg "_law_draw" sDraw ["_law_pot_here", "_law_room"] f1 fd1) (D2 : Df K mg "_law_passed" sPasR ["_law_pot_here", "_law_pair_here"] f2 fd2) (G2 : FnOk P w K mg base CX0 4 f2 fd2 ["_law_pot_here", "_law_pair_here"] (spPasR K C)) (B : Bl mg) :
    FnOk P w K mg base CX0 5 f fd ["_law_pot_here", "_law_row_here"] (spGivRow K C) := by
  have G1 : FnOk P w K mg base CX0 1 f1 fd1 ["_law_pot_here", "_law_room"] spDraw := ok_draw D1.F B
  refine F.ok sc_givRow (fun vs H Q E h => ?_) (fun cdv A outer s H vs Q E hr h => ?_)
  · obtain ⟨a, r, xs, qs, rfl, _⟩ := h
    rfl
  · obtain ⟨a, r, xs, qs, rfl, pot, nra, hr0, hP, few, hg, q⟩ := h
    have hr1 : Room 1 _ := hr.mono (by decide)
    refine ⟨_, pss_cons (ps_setLc (i := 2) (own := [("_law_pair_here", 3)]) (g := gName 3) (tt := tYes) (te := tCall (spPasR K C) [] E0 (tCons (tVar 0) (tCons (tVar 3) tNil))) rfl sc_givRow.nd rfl rfl (sw_true rfl rfl rfl (by decide +kernel)) (pi_list (pv 1)) (blkOk_by (N := nGivRow) (sc := defScope sGivRow) (by decide +kernel))
        (fun _ _ _ _ _ => pg_name (i := 3) sc_givRow.nd rfl (Or.inl rfl)) (fun _ _ _ _ _ => pts_nil) (fun _ _ _ _ _ => pe_call G2 hr rfl D2.g D2.F.kp D2.b .nil pass0 (pa_cons (pv 0) (pa_cons (pv 3) pa_nil))))
      (pss_one (ps_ret (pe_ifExp (pt_cmpR op_eq (pe_call G1 hr1 rfl D1.g D1.F.kp D1.b .nil pass0 (pa_cons (pv 0) (pa_cons pe_int pa_nil))) pe_int (nomark _)) (pe_callTy call_tuple_of (by rfl) B.tuple PySem.Pv.boot_tuple (pa_cons (pv 2) pa_nil)) (pv 2)))), ?_⟩
    obtain ⟨lx, hat⟩ := prs_at hP
    refine ⟨_, rfl, r, rfl, ⟨xs, sl_of hr0⟩, fun D hD => ?_⟩
    have nDa := potF pot hD
    refine lc_list (xs := xs) (fun k G => SmX a H G ∧ Pot G a ∧ ∃ acc, G D = some (.lst acc) ∧ NumsP C G acc (qs.take k)) ⟨smx_of (same_new hD), potS pot (same_new hD), [], upd_same, by simp [NumsP]⟩ (fun j G _ p => sl_of (p.1 _ _ nra hr0)) ?_ ?_
    · rintro k y G hy ⟨xS, pG, acc, hacc, hQ⟩
      obtain ⟨z, p, hz, rfl, hp⟩ := hat k y hy
      have l1 := (nums_at hQ).1
      have : (qs.take k).length ≤ 60 := by rw [List.length_take]; omega
      obtain ⟨u, u', hu, _⟩ := id pot
      obtain ⟨w1, w2, hw, _⟩ := id pG
      refine ⟨rfl, _, rfl, _, rfl, a, p, z, rfl, pG, pair_but hp hu xS, hg z (List.mem_of_getElem? hz), fun G2 v x2 p2 hv => ?_⟩
      refine ⟨acc, x2 _ _ nDa hacc, szlt (by omega), smxU (xS.trans x2) hD, potU p2 nDa, acc ++ [v], upd_same, ?_⟩
      rw [take_at hz]
      exact nums_but (x2 _ _ nDa hacc) smx_upd (nums_app (nums_but hw x2 hQ) ⟨hv, trivial⟩)
    · rintro G ⟨xS, pG, acc, hacc, hQ⟩
      rw [show qs.take xs.length = qs by rw [lx, List.take_length]] at hQ
      obtain ⟨w1, w2, hw, _⟩ := id pG
      refine ⟨_, rfl, a, 3, rfl, pG, by decide, by decide, fun G2 d x2 p2 d0 d1 => ⟨rfl, _, rfl, ?_⟩⟩
      have hacc2 := x2 _ _ nDa hacc
      have hQ2 := nums_but hw x2 hQ
      obtain ⟨w3, w4, hw2, _⟩ := id p2
      refine ite2 (fun c => ?_) (fun c => ?_)
      · refine ⟨_, rfl, D, acc, rfl, .inl ⟨sl_of hacc2, fun t ht => ?_⟩⟩
        have st := same_new (o := .tup acc) ht
        have nta := potF p2 ht
        refine q _ t ((xS.trans x2).trans (smx_of st)) (potS p2 st) (smxF (xS.trans x2) nta ht) ⟨t, acc, rfl, .inr (xr_get nta nta upd_same), ?_⟩
        exact nums_xr (st _ _ hw2) (st _ _ hw2) (nums_s st hQ2)
      · refine ⟨_, rfl, q G2 D (xS.trans x2) p2 hD ⟨D, acc, rfl, .inl (xr_get nDa nDa hacc2), nums_xr hw2 hw2 hQ2⟩⟩
abbrev nGivR : List Str := ["_law_pot_here", "_law_rows", "_law_found", "_law_row_here"]
theorem sc_givR : FnScope nGivR ["_law_pot_here", "_law_rows"] (defScope sGivR) := ⟨rfl, rfl, rfl, by decide +kernel, rfl, by decide +kernel, by decide +kernel⟩
theorem ok_givR {f f1 f2 C : Addr} {fd fd1 fd2 : FuncData} (F : Fun K "_law_given" "_law_given" sGivR f fd) (D1 : Df K mg "_law_draw" sDraw ["_law_pot_here", "_law_room"] f1 fd1) (D2 : Df K mg "_law_given_row" sGivRow ["_law_pot_here", "_law_row_here"] f2 fd2) (G2 : FnOk P w K mg base CX0 5 f2 fd2 ["_law_pot_here", "_law_row_here"] (spGivRow K C)) (B : Bl mg) :
    FnOk P w K mg base CX0 6 f fd ["_law_pot_here", "_law_rows"] (spGivR K C) := by
  have G1 : FnOk P w K mg base CX0 1 f1 fd1 ["_law_pot_here", "_law_room"] spDraw := ok_draw D1.F B
  refine F.ok sc_givR (fun vs H Q E h => ?_) (fun cdv A outer s H vs Q E hr h => ?_)
  · obtain ⟨a, r, n, qss, rfl, _⟩ := h
    rfl
  · obtain ⟨a, r, n, qss, rfl, pot, ⟨xs, hr0, hP⟩, n6, hl, hE, q⟩ := h
    have hr1 : Room 1 _ := hr.mono (by decide)
    refine ⟨_, pss_cons (ps_setLc (i := 2) (own := [("_law_row_here", 3)]) (g := gName 3) (tt := tYes) (te := tCall (spGivRow K C) [] E0 (tCons (tVar 0) (tCons (tVar 3) tNil))) rfl sc_givR.nd rfl rfl (sw_true rfl rfl rfl (by decide +kernel)) (pi_list (pv 1)) (blkOk_by (N := nGivR) (sc := defScope sGivR) (by decide +kernel))
        (fun _ _ _ _ _ => pg_name (i := 3) sc_givR.nd rfl (Or.inl rfl)) (fun _ _ _ _ _ => pts_nil) (fun _ _ _ _ _ => pe_call G2 hr rfl D2.g D2.F.kp D2.b .nil pass0 (pa_cons (pv 0) (pa_cons (pv 3) pa_nil))))
      (pss_one (ps_ret (pe_ifExp (pt_cmpR op_eq (pe_call G1 hr1 rfl D1.g D1.F.kp D1.b .nil pass0 (pa_cons (pv 0) (pa_cons pe_int pa_nil))) pe_int (nomark _)) (pe_callTy call_tuple_of (by rfl) B.tuple PySem.Pv.boot_tuple (pa_cons (pv 2) pa_nil)) (pv 2)))), ?_⟩
    have lx := pt_len hP
    have nra := (xr_ne hr0).1
    refine ⟨_, rfl, r, rfl, ⟨xs, sl_of (xr_le _ _ hr0)⟩, fun D hD => ?_⟩
    have nDa := potF pot hD
    refine lc_list (xs := xs) (fun k G => SmX a H G ∧ Pot G a ∧ ∃ acc, G D = some (.lst acc) ∧ RowsX C (xr a D G) acc (qss.take k)) ⟨smx_of (same_new hD), potS pot (same_new hD), [], upd_same, by simp [RowsX]⟩ (fun j G _ p => sl_of (p.1 _ _ nra (xr_le _ _ hr0))) ?_ ?_
    · rintro k y G hy ⟨xS, pG, acc, hacc, hQ⟩
      obtain ⟨qs, b, ys, f1, rfl, f3, f4⟩ := pt_at hP k y hy
      obtain ⟨e1, e2⟩ := hE qs (List.mem_of_getElem? f1)
      have l1 := rowsX_len hQ
      have : (qss.take k).length ≤ 60 := by rw [List.length_take]; omega
      obtain ⟨w1, w2, hw, _⟩ := id pot
      refine ⟨rfl, _, rfl, _, rfl, a, b, ys, qs, rfl, pG, (xr_ne f3).1, xS _ _ (xr_ne f3).1 (xr_le _ _ f3), prs_butR hw xS (prs_sR xr_le f4), by omega, e2, fun G2 t x2 p2 ht hrow => ?_⟩
      have nta := potF pG ht
      have ntD : t ≠ D := fun e => by rw [e, hacc] at ht; cases ht
      have hacc2 := x2 _ _ nDa hacc
      obtain ⟨w3, w4, hw2, _⟩ := id p2
      refine ⟨acc, hacc2, szlt (by omega), smxU (xS.trans x2) hD, potU p2 nDa, acc ++ [.ref t], upd_same, ?_⟩
      rw [take_at f1]
      refine rowsX_app (rowsX_s ((xr_x x2).trans xr_up) hQ) ⟨?_, trivial⟩
      obtain ⟨t', zs, e, hs, hn⟩ := hrow
      injection e with e
      subst e
      refine ⟨t, zs, rfl, ?_, nums_s xr_up (nums_xr hw2 hacc2 (nums_s xr_le hn))⟩
      have mv : ∀ {o : HO}, xr a a G2 t = some o → xr a D (upd G2 D (.lst (acc ++ [.ref t]))) t = some o := fun h => xr_up _ _ (xr_get nta ntD (xr_le _ _ h))
      rcases hs with h | h
      · exact .inl (mv h)
      · exact .inr (mv h)
    · rintro G ⟨xS, pG, acc, hacc, hQ⟩
      rw [show qss.take xs.length = qss by rw [lx, List.take_length]] at hQ
      refine ⟨_, rfl, a, 3, rfl, pG, by decide, by decide, fun G2 d x2 p2 d0 d1 => ⟨rfl, _, rfl, ?_⟩⟩
      have hacc2 := x2 _ _ nDa hacc
      have hQ2 := rowsX_s (xr_sub (a := a) (D := D) (H := G2)) (rowsX_s (xr_x x2) hQ)
      refine ite2 (fun c => ?_) (fun c => ?_)
      · refine ⟨_, rfl, D, acc, rfl, .inl ⟨sl_of hacc2, fun t ht => ?_⟩⟩
        have st := same_new (o := .tup acc) ht
        have nta := potF p2 ht
        exact q _ t ((xS.trans x2).trans (smx_of st)) (potS p2 st) (smxF (xS.trans x2) nta ht) ⟨n6, hl, fun qs h => (hE qs h).1, t, acc, rfl, .inr (xr_get nta nta upd_same), rowsX_s (xr_s st) hQ2⟩
      · exact ⟨_, rfl, q G2 D (xS.trans x2) p2 hD ⟨n6, hl, fun qs h => (hE qs h).1, D, acc, rfl, .inl (xr_get nDa nDa hacc2), hQ2⟩⟩
abbrev nRowsN : List Str := ["_law_value", "_law_row_here"]
end
end Tk

namespace Tk
/-! plain mathematics: sums of Rat over lists -/
section
variable {α β : Type}
theorem sum_mulL (c : Rat) (f : α → Rat) : ∀ l : List α, (l.map fun x => c * f x).sum = c * (l.map f).sum
  | [] => by simp [Rat.mul_zero]
  | x :: l => by simp only [List.map_cons, List.sum_cons, sum_mulL c f l, Rat.mul_add]
theorem sum_mulR (c : Rat) (f : α → Rat) : ∀ l : List α, (l.map fun x => f x * c).sum = (l.map f).sum * c
  | [] => by simp [Rat.zero_mul]
  | x :: l => by simp only [List.map_cons, List.sum_cons, sum_mulR c f l, Rat.add_mul]
theorem sum_addR (f g : α → Rat) : ∀ l : List α, (l.map fun x => f x + g x).sum = (l.map f).sum + (l.map g).sum
  | [] => by simp [Rat.add_zero]
  | x :: l => by
    simp only [List.map_cons, List.sum_cons, sum_addR f g l]
    rw [Rat.add_assoc, Rat.add_assoc, ← Rat.add_assoc (g x), ← Rat.add_assoc _ (g x), Rat.add_comm (g x)]
theorem sum_zero : ∀ l : List α, (l.map fun _ => (0 : Rat)).sum = 0
  | [] => by simp
  | x :: l => by simp only [List.map_cons, List.sum_cons, sum_zero l, Rat.add_zero]
theorem sum_commR (f : α → β → Rat) (m : List β) : ∀ l : List α, (l.map fun x => (m.map fun y => f x y).sum).sum = (m.map fun y => (l.map fun x => f x y).sum).sum
  | [] => by simp only [List.map_nil, List.sum_nil, sum_zero]
  | x :: l => by simp only [List.map_cons, List.sum_cons, sum_commR f m l, sum_addR]
theorem sum_negR (f : α → Rat) : ∀ l : List α, (l.map fun x => -f x).sum = -(l.map f).sum
  | [] => by simp
  | x :: l => by simp only [List.map_cons, List.sum_cons, sum_negR f l, Rat.neg_add]
theorem sum_subR (f g : α → Rat) (l : List α) : (l.map fun x => f x - g x).sum = (l.map f).sum - (l.map g).sum := by
  simp only [Rat.sub_eq_add_neg, sum_addR, sum_negR]
/-- (a b) c = a (b c), one place -/
theorem dot_assoc (a : α → Rat) (b : α → β → Rat) (c : β → Rat) (l : List α) (m : List β) :
    (m.map fun j => (l.map fun k => a k * b k j).sum * c j).sum = (l.map fun k => a k * (m.map fun j => b k j * c j).sum).sum := by
  have e1 : (m.map fun j => (l.map fun k => a k * b k j).sum * c j) = m.map fun j => (l.map fun k => a k * (b k j * c j)).sum := by
    congr 1
    funext j
    rw [← sum_mulR]
    congr 2
    funext k
    rw [Rat.mul_assoc]
  have e2 : (l.map fun k => a k * (m.map fun j => b k j * c j).sum) = l.map fun k => (m.map fun j => a k * (b k j * c j)).sum := by
    congr 1
    funext k
    rw [sum_mulL]
  rw [e1, e2, sum_commR]
end
end Tk

namespace Tk
/-! ## mathematics of tables -/
theorem tabQ_ext {n : Nat} {f g : Nat → Nat → Int × Int} (h : ∀ i, i < n → ∀ j, j < n → f i j = g i j) : tabQ n f = tabQ n g := by
  unfold tabQ
  exact List.map_congr_left fun i hi => List.map_congr_left fun j hj => h i (List.mem_range.mp hi) j (List.mem_range.mp hj)
theorem zip_maps {α : Type} {F : Int × Int → Int × Int → Int × Int} {a b : α → Int × Int} : ∀ l : List α, List.zipWith F (l.map a) (l.map b) = l.map fun k => F (a k) (b k)
  | [] => rfl
  | x :: l => by simp only [List.map_cons, List.zipWith_cons_cons, zip_maps l]
theorem tab_rep {n : Nat} {qss : List (List (Int × Int))} (hl : qss.length = n) (hw : ∀ qs ∈ qss, qs.length = n) : qss = tabQ n fun i j => (qss[i]?.getD [])[j]?.getD (0, 1) := by
  refine List.ext_getElem (by rw [hl, tabQ_len]) fun i h1 h2 => ?_
  have hi : i < n := by omega
  simp only [tabQ, List.getElem_map, List.getElem_range]
  have hq := hw qss[i] (List.getElem_mem h1)
  refine List.ext_getElem (by simp [hq]) fun j g1 g2 => ?_
  simp only [List.getElem_map, List.getElem_range]
  rw [List.getElem?_eq_getElem h1, Option.getD_some, List.getElem?_eq_getElem g1, Option.getD_some]
theorem tab_get {n i j : Nat} {f : Nat → Nat → Int × Int} (hi : i < n) (hj : j < n) : ((tabQ n f)[i]?.getD [])[j]?.getD (0, 1) = f i j := by
  rw [tabQ_at hi, Option.getD_some]
  simp [hj]
theorem cols_tab {n : Nat} {f : Nat → Nat → Int × Int} : colsQ n (tabQ n f) = tabQ n fun i j => f j i := by
  unfold colsQ
  show (List.range n).map (fun j => (tabQ n f).map fun qs => qs[j]?.getD (0, 1)) = (List.range n).map fun i => (List.range n).map fun j => f j i
  refine List.map_congr_left fun j hj => ?_
  have hj := List.mem_range.mp hj
  unfold tabQ
  rw [List.map_map]
  refine List.map_congr_left fun i hi => ?_
  simp [hj]
theorem times_tab {n : Nat} {f g : Nat → Nat → Int × Int} : timesQ n (tabQ n f) (tabQ n g) = tabQ n fun i j => sumQ ((List.range n).map fun k => mulQ (f i k) (g k j)) := by
  unfold timesQ
  rw [cols_tab]
  show (tabQ n f).map _ = _
  unfold tabQ
  rw [List.map_map]
  refine List.map_congr_left fun i hi => ?_
  show ((List.range n).map fun i => (List.range n).map fun j => g j i).map _ = _
  rw [List.map_map]
  refine List.map_congr_left fun j hj => ?_
  show sumQ (prodsQ _ _) = _
  unfold prodsQ
  rw [zip_maps]
theorem zip_tab {n : Nat} {f g : Nat → Nat → Int × Int} : lessL (tabQ n f) (tabQ n g) = tabQ n fun i j => subQ (f i j) (g i j) := by
  unfold lessL tabQ
  have z : ∀ l : List Nat, List.zipWith (List.zipWith subQ) (l.map fun i => (List.range n).map fun j => f i j) (l.map fun i => (List.range n).map fun j => g i j) = l.map fun i => (List.range n).map fun j => subQ (f i j) (g i j) := by
    intro l
    induction l with
    | nil => rfl
    | cons x l ih => simp only [List.map_cons, List.zipWith_cons_cons, ih, zip_maps]
  exact z _
/-! in lowest terms -/
def LowT (n : Nat) (f : Nat → Nat → Int × Int) : Prop := ∀ i, i < n → ∀ j, j < n → LowQ (f i j)
theorem low_sums {n : Nat} {F : Nat → Int × Int} (h : ∀ k, k < n → LowQ (F k)) : LowQ (sumQ ((List.range n).map F)) ∧ valQ (sumQ ((List.range n).map F)) = ((List.range n).map fun k => valQ (F k)).sum := by
  have g := sum_low (qs := (List.range n).map F) (fun q hq => by
    obtain ⟨k, hk, rfl⟩ := List.mem_map.mp hq
    exact h k (List.mem_range.mp hk))
  rw [List.map_map] at g
  exact g
theorem val_dot {n : Nat} {f g : Nat → Int × Int} (hf : ∀ k, k < n → LowQ (f k)) (hg : ∀ k, k < n → LowQ (g k)) : LowQ (sumQ ((List.range n).map fun k => mulQ (f k) (g k))) ∧ valQ (sumQ ((List.range n).map fun k => mulQ (f k) (g k))) = ((List.range n).map fun k => valQ (f k) * valQ (g k)).sum := by
  obtain ⟨h1, h2⟩ := low_sums (n := n) (F := fun k => mulQ (f k) (g k)) fun k hk => low_mul (hf k hk) (hg k hk)
  refine ⟨h1, h2.trans ?_⟩
  congr 1
  refine List.map_congr_left fun k hk => ?_
  have hk := List.mem_range.mp hk
  exact val_mul (hf k hk).ne (hg k hk).ne
theorem low_times {n : Nat} {f g : Nat → Nat → Int × Int} (hf : LowT n f) (hg : LowT n g) : LowT n fun i j => sumQ ((List.range n).map fun k => mulQ (f i k) (g k j)) :=
  fun i hi j hj => (val_dot (fun k hk => hf i hi k hk) fun k hk => hg k hk j hj).1
theorem low_lessT {n : Nat} {f g : Nat → Nat → Int × Int} (hf : LowT n f) (hg : LowT n g) : LowT n fun i j => subQ (f i j) (g i j) := fun i hi j hj => low_sub (hf i hi j hj) (hg i hi j hj)
theorem low_idle {n : Nat} : LowT n fun a b => if a = b then ((1 : Int), (1 : Int)) else (0, 1) := fun i _ j _ => by
  by_cases c : i = j
  · simp only [if_pos c]
    exact ⟨by decide, by decide⟩
  · simp only [if_neg c]
    exact ⟨by decide, by decide⟩
theorem val_1 : valQ (1, 1) = 1 := by decide +kernel
theorem sum_delta (c : Nat → Rat) (j : Nat) : ∀ n, ((List.range n).map fun k => c k * (if k = j then 1 else 0)).sum = if j < n then c j else 0
  | 0 => by simp
  | n + 1 => by
    rw [List.range_succ, List.map_append, List.sum_append, sum_delta c j n]
    simp only [List.map_cons, List.map_nil, List.sum_cons, List.sum_nil, Rat.add_zero]
    by_cases h : n = j
    · subst h
      rw [if_neg (Nat.lt_irrefl _), if_pos rfl, if_pos (Nat.lt_succ_self _), Rat.mul_one, Rat.zero_add]
    · rw [if_neg h, Rat.mul_zero, Rat.add_zero]
      by_cases h2 : j < n
      · rw [if_pos h2, if_pos (by omega)]
      · rw [if_neg h2, if_neg (by omega)]
theorem cols_cols {n : Nat} {qss : List (List (Int × Int))} (hl : qss.length = n) (hw : ∀ qs ∈ qss, qs.length = n) : colsQ n (colsQ n qss) = qss := by
  rw [tab_rep hl hw, cols_tab, cols_tab]
theorem cols_times {n : Nat} {A B : List (List (Int × Int))} (hA : A.length = n) (wA : ∀ qs ∈ A, qs.length = n) (hB : B.length = n) (wB : ∀ qs ∈ B, qs.length = n) : colsQ n (timesQ n A B) = timesQ n (colsQ n B) (colsQ n A) := by
  rw [tab_rep hA wA, tab_rep hB wB, times_tab, cols_tab, cols_tab, cols_tab, times_tab]
  refine tabQ_ext fun i hi j hj => ?_
  congr 1
  exact List.map_congr_left fun k hk => mul_comQ _ _
def LowR (A : List (List (Int × Int))) : Prop := ∀ qs ∈ A, ∀ q ∈ qs, LowQ q
theorem lowT_of {n : Nat} {A : List (List (Int × Int))} (hA : A.length = n) (wA : ∀ qs ∈ A, qs.length = n) (h : LowR A) : LowT n fun i j => (A[i]?.getD [])[j]?.getD (0, 1) := fun i hi j hj => by
  have h1 : i < A.length := by omega
  have h2 : j < A[i].length := by rw [wA _ (List.getElem_mem h1)]; exact hj
  show LowQ ((A[i]?.getD [])[j]?.getD (0, 1))
  rw [List.getElem?_eq_getElem h1, Option.getD_some, List.getElem?_eq_getElem h2, Option.getD_some]
  exact h _ (List.getElem_mem h1) _ (List.getElem_mem h2)
theorem lowR_tab {n : Nat} {f : Nat → Nat → Int × Int} (h : LowT n f) : LowR (tabQ n f) := fun qs hq q hqq => by
  unfold tabQ at hq
  obtain ⟨i, hi, rfl⟩ := List.mem_map.mp hq
  obtain ⟨j, hj, rfl⟩ := List.mem_map.mp hqq
  exact h i (List.mem_range.mp hi) j (List.mem_range.mp hj)
theorem times_idle {n : Nat} {A : List (List (Int × Int))} (hA : A.length = n) (wA : ∀ qs ∈ A, qs.length = n) (lA : LowR A) : timesQ n A (idleQ n) = A := by
  have L := lowT_of hA wA lA
  conv => rhs; rw [tab_rep hA wA]
  conv => lhs; rw [tab_rep hA wA]
  unfold idleQ
  rw [times_tab]
  refine tabQ_ext fun i hi j hj => ?_
  obtain ⟨h1, h2⟩ := val_dot (n := n) (f := fun k => (A[i]?.getD [])[k]?.getD (0, 1)) (g := fun k => if k = j then (1, 1) else (0, 1)) (fun k hk => L i hi k hk) fun k hk => low_idle (n := n) k hk j hj
  refine low_ext h1 (L i hi j hj) (h2.trans ?_)
  rw [show ((List.range n).map fun k => valQ ((A[i]?.getD [])[k]?.getD (0, 1)) * valQ (if k = j then ((1 : Int), (1 : Int)) else (0, 1))) = (List.range n).map fun k => valQ ((A[i]?.getD [])[k]?.getD (0, 1)) * (if k = j then 1 else 0) from List.map_congr_left fun k _ => by
    by_cases c : k = j
    · rw [if_pos c, if_pos c, val_1]
    · rw [if_neg c, if_neg c, val_0]]
  rw [sum_delta (fun k => valQ ((A[i]?.getD [])[k]?.getD (0, 1))) j n, if_pos hj]
theorem idle_tabT {n : Nat} : colsQ n (idleQ n) = idleQ n := by
  unfold idleQ
  rw [cols_tab]
  refine tabQ_ext fun i _ j _ => ?_
  by_cases c : i = j
  · rw [if_pos c, if_pos c.symm]
  · rw [if_neg c, if_neg (fun z => c z.symm)]
theorem cols_shape {n : Nat} {A : List (List (Int × Int))} (hA : A.length = n) : (colsQ n A).length = n ∧ ∀ qs ∈ colsQ n A, qs.length = n := by
  unfold colsQ
  refine ⟨by simp, fun qs h => ?_⟩
  obtain ⟨i, _, rfl⟩ := List.mem_map.mp h
  simp [hA]
theorem times_shape {n : Nat} {A B : List (List (Int × Int))} (hA : A.length = n) : (timesQ n A B).length = n ∧ ∀ qs ∈ timesQ n A B, qs.length = n := by
  unfold timesQ
  refine ⟨by simp [hA], fun qs h => ?_⟩
  obtain ⟨i, _, rfl⟩ := List.mem_map.mp h
  simp [colsQ]
theorem less_shape {n : Nat} {A B : List (List (Int × Int))} (hA : A.length = n) (wA : ∀ qs ∈ A, qs.length = n) (hB : B.length = n) (wB : ∀ qs ∈ B, qs.length = n) : (lessL A B).length = n ∧ ∀ qs ∈ lessL A B, qs.length = n := by
  rw [tab_rep hA wA, tab_rep hB wB, zip_tab]
  exact ⟨tabQ_len, tabQ_wide⟩
theorem idle_shape {n : Nat} : (idleQ n).length = n ∧ ∀ qs ∈ idleQ n, qs.length = n := ⟨tabQ_len, tabQ_wide⟩
theorem lowR_cols {n : Nat} {A : List (List (Int × Int))} (hA : A.length = n) (wA : ∀ qs ∈ A, qs.length = n) (lA : LowR A) : LowR (colsQ n A) := by
  have L := lowT_of hA wA lA
  rw [tab_rep hA wA, cols_tab]
  exact lowR_tab fun i hi j hj => L j hj i hi
theorem lowR_times {n : Nat} {A B : List (List (Int × Int))} (hA : A.length = n) (wA : ∀ qs ∈ A, qs.length = n) (lA : LowR A) (hB : B.length = n) (wB : ∀ qs ∈ B, qs.length = n) (lB : LowR B) : LowR (timesQ n A B) := by
  have L := lowT_of hA wA lA
  have M := lowT_of hB wB lB
  rw [tab_rep hA wA, tab_rep hB wB, times_tab]
  exact lowR_tab (low_times L M)
theorem lowR_less {n : Nat} {A B : List (List (Int × Int))} (hA : A.length = n) (wA : ∀ qs ∈ A, qs.length = n) (lA : LowR A) (hB : B.length = n) (wB : ∀ qs ∈ B, qs.length = n) (lB : LowR B) : LowR (lessL A B) := by
  have L := lowT_of hA wA lA
  have M := lowT_of hB wB lB
  rw [tab_rep hA wA, tab_rep hB wB, zip_tab]
  exact lowR_tab (low_lessT L M)
theorem lowR_idle {n : Nat} : LowR (idleQ n) := lowR_tab low_idle
theorem idle_times {n : Nat} {A : List (List (Int × Int))} (hA : A.length = n) (wA : ∀ qs ∈ A, qs.length = n) (lA : LowR A) : timesQ n (idleQ n) A = A := by
  obtain ⟨c1, c2⟩ := cols_shape hA
  have e := times_idle c1 c2 (lowR_cols hA wA lA)
  have e2 := cols_times (n := n) c1 c2 idle_shape.1 idle_shape.2
  rw [e, cols_cols hA wA, idle_tabT] at e2
  exact e2.symm
theorem times_assocT {n : Nat} {f g h : Nat → Nat → Int × Int} (L : LowT n f) (M : LowT n g) (N : LowT n h) : timesQ n (timesQ n (tabQ n f) (tabQ n g)) (tabQ n h) = timesQ n (tabQ n f) (timesQ n (tabQ n g) (tabQ n h)) := by
  rw [times_tab, times_tab, times_tab, times_tab]
  have LM := low_times L M
  have MN := low_times M N
  refine tabQ_ext fun i hi j hj => ?_
  obtain ⟨a1, a2⟩ := val_dot (n := n) (f := fun k => sumQ ((List.range n).map fun l => mulQ (f i l) (g l k))) (g := fun k => h k j) (fun k hk => LM i hi k hk) fun k hk => N k hk j hj
  obtain ⟨b1, b2⟩ := val_dot (n := n) (f := fun l => f i l) (g := fun l => sumQ ((List.range n).map fun k => mulQ (g l k) (h k j))) (fun k hk => L i hi k hk) fun k hk => MN k hk j hj
  refine low_ext a1 b1 ?_
  rw [a2, b2]
  rw [show ((List.range n).map fun k => valQ (sumQ ((List.range n).map fun l => mulQ (f i l) (g l k))) * valQ (h k j)) = (List.range n).map fun k => ((List.range n).map fun l => valQ (f i l) * valQ (g l k)).sum * valQ (h k j) from List.map_congr_left fun k hk => by
    rw [(val_dot (n := n) (f := fun l => f i l) (g := fun l => g l k) (fun l hl => L i hi l hl) fun l hl => M l hl k (List.mem_range.mp hk)).2]]
  rw [show ((List.range n).map fun l => valQ (f i l) * valQ (sumQ ((List.range n).map fun k => mulQ (g l k) (h k j)))) = (List.range n).map fun l => valQ (f i l) * ((List.range n).map fun k => valQ (g l k) * valQ (h k j)).sum from List.map_congr_left fun l hl => by
    rw [(val_dot (n := n) (f := fun k => g l k) (g := fun k => h k j) (fun k hk => M l (List.mem_range.mp hl) k hk) fun k hk => N k hk j hj).2]]
  exact dot_assoc (fun l => valQ (f i l)) (fun l k => valQ (g l k)) (fun k => valQ (h k j)) (List.range n) (List.range n)
theorem times_assoc {n : Nat} {A B C : List (List (Int × Int))} (hA : A.length = n) (wA : ∀ qs ∈ A, qs.length = n) (lA : LowR A) (hB : B.length = n) (wB : ∀ qs ∈ B, qs.length = n) (lB : LowR B) (hC : C.length = n) (wC : ∀ qs ∈ C, qs.length = n) (lC : LowR C) :
    timesQ n (timesQ n A B) C = timesQ n A (timesQ n B C) := by
  have e := times_assocT (lowT_of hA wA lA) (lowT_of hB wB lB) (lowT_of hC wC lC)
  rw [← tab_rep hA wA, ← tab_rep hB wB, ← tab_rep hC wC] at e
  exact e
theorem times_lessT {n : Nat} {f g h : Nat → Nat → Int × Int} (L : LowT n f) (M : LowT n g) (N : LowT n h) : timesQ n (lessL (tabQ n f) (tabQ n g)) (tabQ n h) = lessL (timesQ n (tabQ n f) (tabQ n h)) (timesQ n (tabQ n g) (tabQ n h)) := by
  rw [zip_tab, times_tab, times_tab, times_tab, zip_tab]
  refine tabQ_ext fun i hi j hj => ?_
  obtain ⟨a1, a2⟩ := val_dot (n := n) (f := fun k => subQ (f i k) (g i k)) (g := fun k => h k j) (fun k hk => low_sub (L i hi k hk) (M i hi k hk)) fun k hk => N k hk j hj
  obtain ⟨b1, b2⟩ := val_dot (n := n) (f := fun k => f i k) (g := fun k => h k j) (fun k hk => L i hi k hk) fun k hk => N k hk j hj
  obtain ⟨c1, c2⟩ := val_dot (n := n) (f := fun k => g i k) (g := fun k => h k j) (fun k hk => M i hi k hk) fun k hk => N k hk j hj
  refine low_ext a1 (low_sub b1 c1) ?_
  rw [a2, val_sub b1.ne c1.ne, b2, c2, ← sum_subR]
  congr 1
  refine List.map_congr_left fun k hk => ?_
  have hk := List.mem_range.mp hk
  rw [val_sub (L i hi k hk).ne (M i hi k hk).ne, Rat.sub_eq_add_neg, Rat.add_mul, Rat.neg_mul, ← Rat.sub_eq_add_neg]
theorem times_less {n : Nat} {A B C : List (List (Int × Int))} (hA : A.length = n) (wA : ∀ qs ∈ A, qs.length = n) (lA : LowR A) (hB : B.length = n) (wB : ∀ qs ∈ B, qs.length = n) (lB : LowR B) (hC : C.length = n) (wC : ∀ qs ∈ C, qs.length = n) (lC : LowR C) :
    timesQ n (lessL A B) C = lessL (timesQ n A C) (timesQ n B C) := by
  have e := times_lessT (lowT_of hA wA lA) (lowT_of hB wB lB) (lowT_of hC wC lC)
  rw [← tab_rep hA wA, ← tab_rep hB wB, ← tab_rep hC wC] at e
  exact e
theorem less_three {n : Nat} {A B : List (List (Int × Int))} (hA : A.length = n) (wA : ∀ qs ∈ A, qs.length = n) (lA : LowR A) (hB : B.length = n) (wB : ∀ qs ∈ B, qs.length = n) (lB : LowR B) : lessL (lessL A B) A = lessL (lessL B B) B := by
  have L := lowT_of hA wA lA
  have M := lowT_of hB wB lB
  rw [tab_rep hA wA, tab_rep hB wB, zip_tab, zip_tab, zip_tab, zip_tab]
  refine tabQ_ext fun i hi j hj => ?_
  have l := L i hi j hj
  have m := M i hi j hj
  refine low_ext (low_sub (low_sub l m) l) (low_sub (low_sub m m) m) ?_
  rw [val_sub (low_sub l m).ne l.ne, val_sub l.ne m.ne, val_sub (low_sub m m).ne m.ne, val_sub m.ne m.ne]
  generalize valQ _ = x
  generalize valQ _ = y
  rw [Rat.sub_self, Rat.sub_eq_add_neg, Rat.sub_eq_add_neg, Rat.sub_eq_add_neg, Rat.zero_add, Rat.add_comm x, Rat.add_assoc, ← Rat.sub_eq_add_neg x x, Rat.sub_self, Rat.add_zero]
/-! how long the numbers get -/
structure Bd (k : Nat) (q : Int × Int) : Prop where
  low : LowQ q
  top : q.1.natAbs < 2 ^ k
  bot : q.2.natAbs < 2 ^ k
theorem bd_le {k l : Nat} {q : Int × Int} (h : Bd k q) (e : k ≤ l) : Bd l q := ⟨h.low, Nat.lt_of_lt_of_le h.top (Nat.pow_le_pow_right (by decide) e), Nat.lt_of_lt_of_le h.bot (Nat.pow_le_pow_right (by decide) e)⟩
theorem bd_small {k : Nat} {q : Int × Int} (h : Bd k q) (e : k ≤ 3999) : Small q := by
  have h' := bd_le h (l := 4000) (by omega)
  exact ⟨h.low.pos, log_of h'.bot (by decide), Nat.lt_of_lt_of_le (log_of h'.top (by decide)) (by decide)⟩
theorem bd_mul {k l : Nat} {x y : Int × Int} (hx : Bd k x) (hy : Bd l y) : Bd (k + l) (mulQ x y) := by
  have g := low_ok (t := x.1 * y.1) (Int.mul_ne_zero hx.low.ne hy.low.ne)
  refine ⟨low_mul hx.low hy.low, Nat.lt_of_le_of_lt g.top ?_, Nat.lt_of_le_of_lt g.bot ?_⟩
  · rw [Int.natAbs_mul, Nat.pow_add]; exact Nat.mul_lt_mul'' hx.top hy.top
  · rw [Int.natAbs_mul, Nat.pow_add]; exact Nat.mul_lt_mul'' hx.bot hy.bot
theorem bd_num {k l : Nat} {x y : Int × Int} (hx : Bd k x) (hy : Bd l y) : (x.1 * y.2).natAbs + (y.1 * x.2).natAbs < 2 ^ (k + l + 1) ∧ (x.2 * y.2).natAbs < 2 ^ (k + l + 1) := by
  have h1 : (x.1 * y.2).natAbs < 2 ^ (k + l) := by rw [Int.natAbs_mul, Nat.pow_add]; exact Nat.mul_lt_mul'' hx.top hy.bot
  have h2 : (y.1 * x.2).natAbs < 2 ^ (k + l) := by rw [Int.natAbs_mul, Nat.pow_add, Nat.mul_comm]; exact Nat.mul_lt_mul'' hx.bot hy.top
  have h3 : (x.2 * y.2).natAbs < 2 ^ (k + l) := by rw [Int.natAbs_mul, Nat.pow_add]; exact Nat.mul_lt_mul'' hx.bot hy.bot
  have e : 2 ^ (k + l + 1) = 2 ^ (k + l) + 2 ^ (k + l) := by rw [Nat.pow_succ]; omega
  rw [e]
  exact ⟨by omega, by omega⟩
theorem bd_add {k l : Nat} {x y : Int × Int} (hx : Bd k x) (hy : Bd l y) : Bd (k + l + 1) (addQ x y) := by
  obtain ⟨h1, h2⟩ := bd_num hx hy
  have g := low_ok (t := x.1 * y.2 + y.1 * x.2) (Int.mul_ne_zero hx.low.ne hy.low.ne)
  exact ⟨low_add hx.low hy.low, Nat.lt_of_le_of_lt g.top (Nat.lt_of_le_of_lt (Int.natAbs_add_le _ _) h1), Nat.lt_of_le_of_lt g.bot h2⟩
theorem bd_sub {k l : Nat} {x y : Int × Int} (hx : Bd k x) (hy : Bd l y) : Bd (k + l + 1) (subQ x y) := by
  obtain ⟨h1, h2⟩ := bd_num hx hy
  have g := low_ok (t := x.1 * y.2 - y.1 * x.2) (Int.mul_ne_zero hx.low.ne hy.low.ne)
  exact ⟨low_sub hx.low hy.low, Nat.lt_of_le_of_lt g.top (Nat.lt_of_le_of_lt (Int.natAbs_sub_le _ _) h1), Nat.lt_of_le_of_lt g.bot h2⟩
theorem bd_fold {k : Nat} : ∀ {qs : List (Int × Int)} {l : Nat} {z : Int × Int}, Bd l z → (∀ q ∈ qs, Bd k q) → Bd (l + qs.length * (k + 1)) (qs.foldl addQ z)
  | [], l, z, hz, _ => bd_le hz (by omega)
  | q :: qs, l, z, hz, h => by
    have := bd_fold (qs := qs) (bd_add hz (h q (by simp))) fun r hr => h r (by simp [hr])
    refine bd_le this ?_
    rw [List.length_cons, Nat.succ_mul]
    omega
theorem bd_sum {k : Nat} {qs : List (Int × Int)} (h : ∀ q ∈ qs, Bd k q) : Bd (1 + qs.length * (k + 1)) (sumQ qs) := bd_fold (z := (0, 1)) ⟨⟨by decide, by decide⟩, by decide, by decide⟩ h
def BdR (k : Nat) (A : List (List (Int × Int))) : Prop := ∀ qs ∈ A, ∀ q ∈ qs, Bd k q
theorem bdR_low {k : Nat} {A : List (List (Int × Int))} (h : BdR k A) : LowR A := fun qs h1 q h2 => (h qs h1 q h2).low
theorem bdR_small {k : Nat} {A : List (List (Int × Int))} (h : BdR k A) (e : k ≤ 3999) : ∀ qs ∈ A, ∀ q ∈ qs, Small q := fun qs h1 q h2 => bd_small (h qs h1 q h2) e
theorem bdR_cols {k n : Nat} {A : List (List (Int × Int))} (hA : A.length = n) (wA : ∀ qs ∈ A, qs.length = n) (h : BdR k A) : BdR k (colsQ n A) := by
  intro cs hcs q hq
  unfold colsQ at hcs
  obtain ⟨j, hj, rfl⟩ := List.mem_map.mp hcs
  obtain ⟨qs, hqs, rfl⟩ := List.mem_map.mp hq
  have hj := List.mem_range.mp hj
  have h2 : j < qs.length := by rw [wA _ hqs]; exact hj
  rw [List.getElem?_eq_getElem h2, Option.getD_some]
  exact h _ hqs _ (List.getElem_mem h2)
theorem bd_prods {k l : Nat} {qs rs : List (Int × Int)} (hq : ∀ q ∈ qs, Bd k q) (hr : ∀ q ∈ rs, Bd l q) : ∀ z ∈ prodsQ qs rs, Bd (k + l) z := by
  intro z hz
  unfold prodsQ at hz
  rw [← List.map_uncurry_zip_eq_zipWith] at hz
  obtain ⟨⟨a, b⟩, hab, rfl⟩ := List.mem_map.mp hz
  exact bd_mul (hq a (List.of_mem_zip hab).1) (hr b (List.of_mem_zip hab).2)
theorem bd_sums {k l : Nat} {qs rs : List (Int × Int)} (hq : ∀ q ∈ qs, Bd k q) (hr : ∀ q ∈ rs, Bd l q) (few : qs.length ≤ 6) (e : 1 + 6 * (k + l + 1) ≤ 3999) : Sums qs rs := by
  have hp := bd_prods hq hr
  refine ⟨fun z hz => bd_small (hp z hz) (by omega), fun i hi => ?_⟩
  refine bd_small (bd_sum fun q hq => hp q (List.mem_of_mem_take hq)) (Nat.le_trans ?_ e)
  have : ((prodsQ qs rs).take i).length ≤ 6 := by
    rw [List.length_take]
    have : (prodsQ qs rs).length ≤ qs.length := by unfold prodsQ; rw [List.length_zipWith]; omega
    omega
  have := Nat.mul_le_mul_right (k + l + 1) this
  omega
theorem bdR_times {k l n : Nat} {A B : List (List (Int × Int))} (n6 : n ≤ 6) (hA : A.length = n) (wA : ∀ qs ∈ A, qs.length = n) (bA : BdR k A) (hB : B.length = n) (wB : ∀ qs ∈ B, qs.length = n) (bB : BdR l B) : BdR (1 + n * (k + l + 1)) (timesQ n A B) := by
  intro qs hqs q hq
  unfold timesQ at hqs
  obtain ⟨rs, hrs, rfl⟩ := List.mem_map.mp hqs
  obtain ⟨cs, hcs, rfl⟩ := List.mem_map.mp hq
  refine bd_le (bd_sum (bd_prods (bA rs hrs) (bdR_cols hB wB bB cs hcs))) ?_
  have : (prodsQ rs cs).length ≤ n := by unfold prodsQ; rw [List.length_zipWith, wA rs hrs]; omega
  have := Nat.mul_le_mul_right (k + l + 1) this
  omega
theorem bdR_less {k l n : Nat} {A B : List (List (Int × Int))} (hA : A.length = n) (wA : ∀ qs ∈ A, qs.length = n) (bA : BdR k A) (hB : B.length = n) (wB : ∀ qs ∈ B, qs.length = n) (bB : BdR l B) : BdR (k + l + 1) (lessL A B) := by
  intro qs hqs q hq
  unfold lessL at hqs
  rw [← List.map_uncurry_zip_eq_zipWith] at hqs
  obtain ⟨⟨a, b⟩, hab, rfl⟩ := List.mem_map.mp hqs
  rw [show Function.uncurry (List.zipWith subQ) (a, b) = List.zipWith subQ a b from rfl, ← List.map_uncurry_zip_eq_zipWith] at hq
  obtain ⟨⟨x, y⟩, hxy, rfl⟩ := List.mem_map.mp hq
  exact bd_sub (bA a (List.of_mem_zip hab).1 x (List.of_mem_zip hxy).1) (bB b (List.of_mem_zip hab).2 y (List.of_mem_zip hxy).2)
theorem bdR_idle {n : Nat} : BdR 1 (idleQ n) := by
  intro qs hqs q hq
  unfold idleQ tabQ at hqs
  obtain ⟨i, _, rfl⟩ := List.mem_map.mp hqs
  obtain ⟨j, _, rfl⟩ := List.mem_map.mp hq
  by_cases c : i = j
  · simp only [if_pos c]; exact ⟨⟨by decide, by decide⟩, by decide, by decide⟩
  · simp only [if_neg c]; exact ⟨⟨by decide, by decide⟩, by decide, by decide⟩
end Tk

namespace Tk
namespace Dt
/-! plain mathematics: determinants over Rat, by the first row -/
abbrev M := Nat → Nat → Rat
/-- all numbers but j, in sequence -/
def sk (j b : Nat) : Nat := if b < j then b else b + 1
def mi (f : M) (j : Nat) : M := fun a b => f (a + 1) (sk j b)
def sg (j : Nat) : Rat := if j % 2 = 0 then 1 else -1
def sumR (n : Nat) (g : Nat → Rat) : Rat := ((List.range n).map g).sum
theorem sumR_0 (g : Nat → Rat) : sumR 0 g = 0 := rfl
theorem sumR_s (n : Nat) (g : Nat → Rat) : sumR (n + 1) g = sumR n g + g n := by
  unfold sumR
  rw [List.range_succ, List.map_append, List.sum_append]
  simp [Rat.add_zero]
theorem sumR_f (n : Nat) (g : Nat → Rat) : sumR (n + 1) g = g 0 + sumR n (fun i => g (i + 1)) := by
  unfold sumR
  rw [List.range_succ_eq_map, List.map_cons, List.sum_cons, List.map_map]
  rfl
theorem sumR_congr {n : Nat} {g h : Nat → Rat} (e : ∀ i, i < n → g i = h i) : sumR n g = sumR n h := by
  unfold sumR
  rw [List.map_congr_left fun i hi => e i (List.mem_range.mp hi)]
theorem sumR_add (n : Nat) (g h : Nat → Rat) : sumR n (fun i => g i + h i) = sumR n g + sumR n h := sum_addR g h _
theorem sumR_mul (n : Nat) (c : Rat) (g : Nat → Rat) : sumR n (fun i => c * g i) = c * sumR n g := sum_mulL c g _
theorem sumR_comm (n m : Nat) (g : Nat → Nat → Rat) : sumR n (fun i => sumR m fun j => g i j) = sumR m fun j => sumR n fun i => g i j := sum_commR g _ _
theorem sumR_zero (n : Nat) : sumR n (fun _ => 0) = 0 := sum_zero _
theorem sumR_neg (n : Nat) (g : Nat → Rat) : sumR n (fun i => -g i) = -sumR n g := sum_negR g _
theorem sumR_one {n k : Nat} {g : Nat → Rat} (hk : k < n) (h : ∀ i, i < n → i ≠ k → g i = 0) : sumR n g = g k := by
  induction n with
  | zero => omega
  | succ n ih =>
    rw [sumR_s]
    by_cases e : k = n
    · subst e
      rw [sumR_congr (h := fun _ => 0) fun i hi => h i (by omega) (by omega), sumR_zero, Rat.zero_add]
    · rw [ih (by omega) fun i hi hn => h i (by omega) hn, h n (by omega) (fun z => e z.symm), Rat.add_zero]
theorem sumR_two {n k l : Nat} {g : Nat → Rat} (hk : k < n) (hl : l < n) (kl : k < l) (h : ∀ i, i < n → i ≠ k → i ≠ l → g i = 0) : sumR n g = g k + g l := by
  induction n with
  | zero => omega
  | succ n ih =>
    rw [sumR_s]
    by_cases e : l = n
    · subst e
      rw [sumR_one (k := k) kl fun i hi hn => h i (by omega) hn (by omega)]
    · rw [ih (by omega) (by omega) fun i hi h1 h2 => h i (by omega) h1 h2, h n (by omega) (by omega) (fun z => e z.symm), Rat.add_zero]
def det : Nat → M → Rat
  | 0, _ => 1
  | n + 1, f => sumR (n + 1) fun j => sg j * f 0 j * det n (mi f j)
theorem sg_s (j : Nat) : sg (j + 1) = -sg j := by
  unfold sg
  rcases Nat.mod_two_eq_zero_or_one j with h | h
  · rw [if_pos h, if_neg (by omega)]
  · rw [if_neg (by omega : ¬ j % 2 = 0), if_pos (by omega), Rat.neg_neg]
theorem det_congr : ∀ {n : Nat} {f g : M}, (∀ i, i < n → ∀ j, j < n → f i j = g i j) → det n f = det n g
  | 0, _, _, _ => rfl
  | n + 1, f, g, h => by
    show sumR _ _ = sumR _ _
    refine sumR_congr fun j hj => ?_
    rw [h 0 (by omega) j hj]
    rw [det_congr (f := mi f j) (g := mi g j) fun a ha b hb => by
      unfold mi sk
      split <;> exact h _ (by omega) _ (by omega)]
/-- column c is x u + y v -/
theorem det_lin : ∀ {n : Nat} {f g h : M} {c : Nat} {x y : Rat}, c < n → (∀ i, i < n → f i c = x * g i c + y * h i c) → (∀ i, i < n → ∀ j, j < n → j ≠ c → f i j = g i j ∧ f i j = h i j) → det n f = x * det n g + y * det n h
  | 0, _, _, _, _, _, _, hc, _, _ => by omega
  | n + 1, f, g, h, c, x, y, hc, h1, h2 => by
    show sumR _ _ = x * sumR _ _ + y * sumR _ _
    rw [← sumR_mul, ← sumR_mul, ← sumR_add]
    refine sumR_congr fun j hj => ?_
    by_cases e : j = c
    · subst e
      have e1 : det n (mi f j) = det n (mi g j) := det_congr fun a ha b hb => by
        unfold mi sk
        split <;> exact (h2 _ (by omega) _ (by omega) (by omega)).1
      have e2 : det n (mi f j) = det n (mi h j) := det_congr fun a ha b hb => by
        unfold mi sk
        split <;> exact (h2 _ (by omega) _ (by omega) (by omega)).2
      rw [h1 0 (by omega), ← e1, ← e2]
      generalize det n (mi f j) = d
      grind
    · obtain ⟨e1, e2⟩ := h2 0 (by omega) j hj e
      have := det_lin (n := n) (f := mi f j) (g := mi g j) (h := mi h j) (c := if c < j then c else c - 1) (x := x) (y := y) (by split <;> omega) (fun a ha => by
        unfold mi sk
        by_cases q : c < j
        · rw [if_pos q, if_pos q]; exact h1 _ (by omega)
        · rw [if_neg q, if_neg (by omega)]
          have : c - 1 + 1 = c := by omega
          rw [this]; exact h1 _ (by omega)) fun a ha b hb hn => by
        unfold mi sk
        by_cases q : c < j
        · rw [if_pos q] at hn
          split <;> exact h2 _ (by omega) _ (by omega) (by omega)
        · rw [if_neg q] at hn
          split <;> exact h2 _ (by omega) _ (by omega) (by omega)
      rw [this, ← e1, ← e2]
      grind
end Dt
end Tk

namespace Tk
namespace Dt
/-- column c is v -/
def cs (f : M) (c : Nat) (v : Nat → Rat) : M := fun a b => if b = c then v a else f a b
theorem cs_e (f : M) (c : Nat) (v : Nat → Rat) (a : Nat) : cs f c v a c = v a := if_pos rfl
theorem cs_n (f : M) {c b : Nat} (v : Nat → Rat) (a : Nat) (h : b ≠ c) : cs f c v a b = f a b := if_neg h
theorem cs_self (f : M) (c : Nat) : cs f c (fun a => f a c) = f := by
  funext a b
  unfold cs
  split
  · rename_i h; rw [h]
  · rfl
/-- linear in columns, and the same for alike entries -/
structure Lin (n : Nat) (H : M → Rat) : Prop where
  ext : ∀ {f g : M}, (∀ i, i < n → ∀ j, j < n → f i j = g i j) → H f = H g
  lin : ∀ {f : M} {c : Nat} {u v : Nat → Rat} {x y : Rat}, c < n → H (cs f c fun a => x * u a + y * v a) = x * H (cs f c u) + y * H (cs f c v)
theorem Lin.add {n : Nat} {H : M → Rat} (L : Lin n H) {f : M} {c : Nat} (hc : c < n) (u v : Nat → Rat) : H (cs f c fun a => u a + v a) = H (cs f c u) + H (cs f c v) := by
  have := L.lin (f := f) (u := u) (v := v) (x := 1) (y := 1) hc
  simpa [Rat.one_mul] using this
theorem Lin.mul {n : Nat} {H : M → Rat} (L : Lin n H) {f : M} {c : Nat} (hc : c < n) (x : Rat) (u : Nat → Rat) : H (cs f c fun a => x * u a) = x * H (cs f c u) := by
  have := L.lin (f := f) (u := u) (v := u) (x := x) (y := 0) hc
  simpa [Rat.zero_mul, Rat.add_zero] using this
theorem Lin.zero {n : Nat} {H : M → Rat} (L : Lin n H) {f : M} {c : Nat} (hc : c < n) : H (cs f c fun _ => 0) = 0 := by
  have := L.mul (f := f) hc 0 (fun _ => 0)
  simpa [Rat.zero_mul] using this
theorem Lin.sum {n : Nat} {H : M → Rat} (L : Lin n H) {f : M} {c : Nat} (hc : c < n) (k : Nat) (x : Nat → Rat) (v : Nat → Nat → Rat) : H (cs f c fun a => sumR k fun i => x i * v i a) = sumR k fun i => x i * H (cs f c (v i)) := by
  induction k with
  | zero => exact L.zero hc
  | succ k ih =>
    have e : (fun a => sumR (k + 1) fun i => x i * v i a) = fun a => (sumR k fun i => x i * v i a) + x k * v k a := by
      funext a; exact sumR_s ..
    rw [e, L.add hc, ih, L.mul hc, sumR_s]
/-- columns c and d change places -/
def sc (f : M) (c d : Nat) : M := fun a b => if b = c then f a d else if b = d then f a c else f a b
theorem Lin.swap {n : Nat} {H : M → Rat} (L : Lin n H) {c d : Nat} (hc : c < n) (hd : d < n) (cd : c ≠ d)
    (h0 : ∀ f : M, (∀ i, i < n → f i c = f i d) → H f = 0) (f : M) : H (sc f c d) = -H f := by
  have q (u v : Nat → Rat) : H (cs (cs f c u) d v) = -H (cs (cs f c v) d u) := by
    have z := h0 (cs (cs f c fun a => u a + v a) d fun a => u a + v a) fun i _ => by
      rw [cs_n _ _ _ cd, cs_e, cs_e]
    have sw (u v : Nat → Rat) : cs (cs f c u) d v = cs (cs f d v) c u := by
      funext a b
      unfold cs
      by_cases e1 : b = d
      · have : b ≠ c := fun e => cd (e.symm.trans e1)
        simp [e1, Ne.symm cd]
      · simp [e1]
    rw [L.add hd] at z
    rw [sw _ u, sw _ v, L.add hc, L.add hc, ← sw, ← sw, ← sw, ← sw] at z
    have z1 := h0 (cs (cs f c u) d u) fun i _ => by rw [cs_n _ _ _ cd, cs_e, cs_e]
    have z2 := h0 (cs (cs f c v) d v) fun i _ => by rw [cs_n _ _ _ cd, cs_e, cs_e]
    rw [z1, z2] at z
    grind
  have e1 : sc f c d = cs (cs f c fun a => f a d) d fun a => f a c := by
    funext a b
    unfold sc cs
    by_cases e1 : b = d
    · have : b ≠ c := fun e => cd (e.symm.trans e1)
      simp [e1, Ne.symm cd]
    · simp [e1]
  have e2 : f = cs (cs f c fun a => f a c) d fun a => f a d := by
    rw [cs_self, cs_self]
  rw [e1, q]
  exact congrArg (fun z => -H z) e2.symm
structure Alt (n : Nat) (H : M → Rat) : Prop extends Lin n H where
  alt : ∀ {f : M} {c d : Nat}, c < d → d < n → (∀ i, i < n → f i c = f i d) → H f = 0
theorem Alt.of {n : Nat} {H : M → Rat} (L : Lin n H) (h : ∀ {f : M} {c : Nat}, c + 1 < n → (∀ i, i < n → f i c = f i (c + 1)) → H f = 0) : Alt n H := by
  refine { toLin := L, alt := ?_ }
  intro f c d cd dn e
  obtain ⟨k, rfl⟩ : ∃ k, d = c + 1 + k := ⟨d - (c + 1), by omega⟩
  induction k generalizing f with
  | zero => exact h dn e
  | succ k ih =>
    have s := L.swap (c := c + 1 + k) (d := c + 1 + (k + 1)) (by omega) dn (by omega) (fun g => h (f := g) (c := c + 1 + k) (by omega)) f
    have z := ih (f := sc f (c + 1 + k) (c + 1 + (k + 1))) (by omega) (by omega) fun i hi => by
      unfold sc
      rw [if_neg (by omega), if_neg (by omega), if_pos rfl]
      exact e i hi
    rw [z] at s
    grind
theorem Alt.swap {n : Nat} {H : M → Rat} (A : Alt n H) {c d : Nat} (hc : c < n) (hd : d < n) (cd : c ≠ d) (f : M) : H (sc f c d) = -H f :=
  A.toLin.swap hc hd cd (fun g e => by
    rcases Nat.lt_or_gt_of_ne cd with q | q
    · exact A.alt q hd e
    · exact A.alt q hc fun i hi => (e i hi).symm) f
/-- the columns of unity -/
def un (i : Nat) : Nat → Rat := fun a => if a = i then 1 else 0
def one : M := fun a b => if a = b then 1 else 0
theorem Alt.basis {n : Nat} {H : M → Rat} (A : Alt n H) (h1 : H one = 0) : ∀ (t : Nat), t ≤ n → ∀ {f : M} (φ : Nat → Nat), (∀ c, c < n → φ c < n) → (∀ i, i < n → ∀ c, c < n → f i c = un (φ c) i) → (∀ c, t ≤ c → c < n → φ c = c) → H f = 0
  | 0, _, f, φ, hφ, hf, ht => by
    rw [← h1]
    exact A.ext fun i hi j hj => by
      rw [hf i hi j hj, ht j (by omega) hj]; rfl
  | t + 1, tn, f, φ, hφ, hf, ht => by
    have bad (c d : Nat) (cd : c ≠ d) (hc : c < n) (hd : d < n) (e : φ c = φ d) : H f = 0 := by
      rcases Nat.lt_or_gt_of_ne cd with q | q
      · exact A.alt q hd fun i hi => by rw [hf i hi c hc, hf i hi d hd, e]
      · exact A.alt q hc fun i hi => by rw [hf i hi c hc, hf i hi d hd, e]
    by_cases big : ∃ c, c ≤ t ∧ t < φ c
    · obtain ⟨c, ct, q⟩ := big
      exact bad c (φ c) (by omega) (by omega) (hφ c (by omega)) (ht (φ c) (by omega) (hφ c (by omega))).symm
    by_cases hit : ∃ c, c ≤ t ∧ φ c = t
    · obtain ⟨c, ct, q⟩ := hit
      by_cases e : c = t
      · subst e
        exact A.basis h1 c (by omega) φ hφ hf fun d hd dn => by
          by_cases z : d = c
          · rw [z, q]
          · exact ht d (by omega) dn
      · have s := A.swap (c := c) (d := t) (by omega) (by omega) e f
        have z := A.basis h1 t (by omega) (f := sc f c t) (fun b => if b = c then φ t else if b = t then φ c else φ b)
          (fun b hb => by
            try dsimp only
            split
            · exact hφ _ (by omega)
            · split
              · exact hφ _ (by omega)
              · exact hφ _ hb)
          (fun i hi b hb => by
            unfold sc
            try dsimp only
            split
            · exact hf i hi _ (by omega)
            · split
              · exact hf i hi _ (by omega)
              · exact hf i hi _ hb)
          (fun d hd dn => by
            try dsimp only
            rw [if_neg (by omega)]
            by_cases z : d = t
            · rw [if_pos z, z, q]
            · rw [if_neg z]; exact ht d (by omega) dn)
        rw [z] at s
        grind
    · have small : ∀ c, c ≤ t → φ c < t := fun c hc => by
        have a1 : ¬ t < φ c := fun q => big ⟨c, hc, q⟩
        have a2 : ¬ φ c = t := fun q => hit ⟨c, hc, q⟩
        omega
      obtain ⟨c, d, cd, dt, e⟩ : ∃ c d, c < d ∧ d ≤ t ∧ φ c = φ d := pigeon t φ small
      exact bad c d (by omega) (by omega) (by omega) e
where
  pigeon : ∀ (t : Nat) (φ : Nat → Nat), (∀ c, c ≤ t → φ c < t) → ∃ c d, c < d ∧ d ≤ t ∧ φ c = φ d
  | 0, φ, h => absurd (h 0 (by omega)) (by omega)
  | t + 1, φ, h => by
    by_cases q : ∃ c, c ≤ t ∧ φ c = φ (t + 1)
    · obtain ⟨c, hc, e⟩ := q
      exact ⟨c, t + 1, by omega, by omega, e⟩
    · have no : ∀ c, c ≤ t → φ c ≠ φ (t + 1) := fun c hc e => q ⟨c, hc, e⟩
      have := pigeon t (fun c => if φ c = t then φ (t + 1) else φ c) fun c hc => by
        have a1 := h c (by omega)
        have a2 := h (t + 1) (by omega)
        have a3 := no c hc
        try dsimp only
        split <;> omega
      obtain ⟨c, d, cd, dt, e⟩ := this
      refine ⟨c, d, cd, by omega, ?_⟩
      have b1 := no c (by omega)
      have b2 := no d dt
      try dsimp only at e
      split at e <;> split at e <;> omega
theorem Alt.cols {n : Nat} {H : M → Rat} (A : Alt n H) (h1 : H one = 0) : ∀ (t : Nat), t ≤ n → ∀ {f : M} (φ : Nat → Nat), (∀ c, t ≤ c → c < n → φ c < n) → (∀ i, i < n → ∀ c, t ≤ c → c < n → f i c = un (φ c) i) → H f = 0
  | 0, _, f, φ, hφ, hf => A.basis h1 n (Nat.le_refl _) φ (fun c hc => hφ c (by omega) hc) (fun i hi c hc => hf i hi c (by omega) hc) (fun c h1 h2 => by omega)
  | t + 1, tn, f, φ, hφ, hf => by
    have e : H f = H (cs f t fun a => sumR n fun i => f i t * un i a) := by
      refine A.ext fun i hi j hj => ?_
      unfold cs
      split
      · rename_i e
        subst e
        show f i j = sumR n fun k => f k j * un k i
        rw [sumR_one (g := fun k => f k j * un k i) (k := i) hi fun k hk kn => by unfold un; rw [if_neg (fun z => kn z.symm), Rat.mul_zero]]
        unfold un
        rw [if_pos rfl, Rat.mul_one]
      · rfl
    rw [e, A.toLin.sum (by omega), sumR_congr (h := fun _ => 0), sumR_zero]
    intro k hk
    rw [A.cols h1 t (by omega) (f := cs f t (un k)) (fun c => if c = t then k else φ c) (fun c h1 h2 => by
        try dsimp only
        split
        · exact hk
        · exact hφ c (by omega) h2) fun i hi c h1 h2 => by
        unfold cs
        try dsimp only
        split
        · rfl
        · exact hf i hi c (by omega) h2, Rat.mul_zero]
theorem Alt.nil {n : Nat} {H : M → Rat} (A : Alt n H) (h1 : H one = 0) (f : M) : H f = 0 :=
  A.cols h1 n (Nat.le_refl _) (fun c => c) (fun c h1 h2 => h2) fun i hi c h1 h2 => by omega
/-- such a function is that of unity times the determinant -/
theorem Alt.uniq {n : Nat} {H K : M → Rat} (A : Alt n H) (B : Alt n K) (k1 : K one = 1) (f : M) : H f = H one * K f := by
  have L : Alt n fun g => H g - H one * K g := by
    refine { ext := fun {f g} e => ?_, lin := fun {f c u v x y} hc => ?_, alt := fun {f c d} h1 h2 h3 => ?_ }
    · show H f - H one * K f = H g - H one * K g
      rw [A.ext e, B.ext e]
    · show H _ - H one * K _ = x * (H _ - H one * K _) + y * (H _ - H one * K _)
      rw [A.lin hc, B.lin hc]
      grind
    · show H f - H one * K f = 0
      rw [A.alt h1 h2 h3, B.alt h1 h2 h3]
      grind
  have := L.nil (by show H one - H one * K one = 0; rw [k1]; grind) f
  have : H f - H one * K f = 0 := this
  grind
end Dt
end Tk

namespace Tk
namespace Dt
theorem det_adj : ∀ {n : Nat} {f : M} {c : Nat}, c + 1 < n → (∀ i, i < n → f i c = f i (c + 1)) → det n f = 0
  | 0, _, _, h, _ => by omega
  | n + 1, f, c, h, e => by
    show sumR (n + 1) (fun j => sg j * f 0 j * det n (mi f j)) = 0
    have z : ∀ i, i < n + 1 → i ≠ c → i ≠ c + 1 → sg i * f 0 i * det n (mi f i) = 0 := fun i hi h1 h2 => by
      rw [det_adj (n := n) (f := mi f i) (c := if i < c then c - 1 else c) (by split <;> omega) fun a ha => by
        unfold mi sk
        by_cases q : i < c
        · rw [if_pos q, if_neg (by omega), if_neg (by omega)]
          have := e (a + 1) (by omega)
          have q1 : c - 1 + 1 = c := by omega
          rw [q1]; exact this
        · rw [if_neg q, if_pos (by omega), if_pos (by omega)]
          exact e (a + 1) (by omega), Rat.mul_zero]
    rw [sumR_two (k := c) (l := c + 1) (by omega) (by omega) (by omega) z, sg_s, e 0 (by omega)]
    have m : det n (mi f c) = det n (mi f (c + 1)) := det_congr fun a ha b hb => by
      unfold mi sk
      by_cases q : b < c
      · rw [if_pos q, if_pos (by omega)]
      · by_cases q2 : b = c
        · subst q2
          rw [if_neg q, if_pos (by omega)]
          exact (e (a + 1) (by omega)).symm
        · rw [if_neg q, if_neg (by omega)]
    rw [m]
    grind
theorem det_Lin (n : Nat) : Lin n (det n) where
  ext := det_congr
  lin := fun {f c u v x y} hc => det_lin hc (fun i hi => by rw [cs_e, cs_e, cs_e]) fun i hi j hj hn => by
    rw [cs_n _ _ _ hn, cs_n _ _ _ hn, cs_n _ _ _ hn]; exact ⟨rfl, rfl⟩
theorem det_Alt (n : Nat) : Alt n (det n) := Alt.of (det_Lin n) det_adj
theorem det_one : ∀ n, det n one = 1
  | 0 => rfl
  | n + 1 => by
    show sumR (n + 1) (fun j => sg j * one 0 j * det n (mi one j)) = 1
    rw [sumR_one (k := 0) (by omega) fun i hi h => by
      unfold one; rw [if_neg (fun e => h e.symm)]; grind]
    have : det n (mi one 0) = det n one := det_congr fun a ha b hb => by
      unfold mi sk one
      simp
    rw [this, det_one n]
    unfold sg one
    simp
/-- products -/
def mul (n : Nat) (f g : M) : M := fun a b => sumR n fun k => f a k * g k b
theorem mul_Alt (n : Nat) (f : M) : Alt n fun g => det n (mul n f g) := by
  refine { ext := fun {g h} e => ?_, lin := fun {g c u v x y} hc => ?_, alt := fun {g c d} h1 h2 h3 => ?_ }
  · exact det_congr fun i hi j hj => sumR_congr fun k hk => by rw [e k hk j hj]
  · refine det_lin (c := c) hc (fun i hi => ?_) fun i hi j hj hn => ?_
    · show (sumR n fun k => f i k * cs g c _ k c) = x * (sumR n fun k => f i k * cs g c _ k c) + y * (sumR n fun k => f i k * cs g c _ k c)
      rw [← sumR_mul, ← sumR_mul, ← sumR_add]
      refine sumR_congr fun k hk => ?_
      rw [cs_e, cs_e, cs_e]
      grind
    · constructor <;> exact sumR_congr fun k hk => by rw [cs_n _ _ _ hn, cs_n _ _ _ hn]
  · refine (det_Alt n).alt h1 h2 fun i hi => ?_
    exact sumR_congr fun k hk => by rw [h3 k hk]
theorem det_mul (n : Nat) (f g : M) : det n (mul n f g) = det n f * det n g := by
  rw [(mul_Alt n f).uniq (det_Alt n) (det_one n) g]
  have : det n (mul n f one) = det n f := det_congr fun i hi j hj => by
    show (sumR n fun k => f i k * one k j) = f i j
    rw [sumR_one (k := j) hj fun k hk hn => by unfold one; rw [if_neg hn, Rat.mul_zero]]
    unfold one
    rw [if_pos rfl, Rat.mul_one]
  rw [this]
/-- rows -/
def rs (f : M) (c : Nat) (v : Nat → Rat) : M := fun a b => if a = c then v b else f a b
theorem det_row : ∀ {n : Nat} {f g h : M} {c : Nat} {x y : Rat}, c < n → (∀ j, j < n → f c j = x * g c j + y * h c j) → (∀ i, i < n → i ≠ c → ∀ j, j < n → f i j = g i j ∧ f i j = h i j) → det n f = x * det n g + y * det n h
  | 0, _, _, _, _, _, _, hc, _, _ => by omega
  | n + 1, f, g, h, c, x, y, hc, h1, h2 => by
    show sumR _ _ = x * sumR _ _ + y * sumR _ _
    rw [← sumR_mul, ← sumR_mul, ← sumR_add]
    refine sumR_congr fun j hj => ?_
    cases c with
    | zero =>
      have e1 : det n (mi f j) = det n (mi g j) := det_congr fun a ha b hb => by
        unfold mi sk
        split <;> exact (h2 _ (by omega) (by omega) _ (by omega)).1
      have e2 : det n (mi f j) = det n (mi h j) := det_congr fun a ha b hb => by
        unfold mi sk
        split <;> exact (h2 _ (by omega) (by omega) _ (by omega)).2
      rw [h1 j hj, ← e1, ← e2]
      generalize det n (mi f j) = d
      grind
    | succ c =>
      obtain ⟨e1, e2⟩ := h2 0 (by omega) (by omega) j hj
      have := det_row (n := n) (f := mi f j) (g := mi g j) (h := mi h j) (c := c) (x := x) (y := y) (by omega) (fun b hb => by
        unfold mi sk
        split <;> exact h1 _ (by omega)) fun a ha hn b hb => by
        unfold mi sk
        split <;> exact h2 _ (by omega) (by omega) _ (by omega)
      rw [this, ← e1, ← e2]
      grind
/-- rows c and d change places -/
def sr (f : M) (c d : Nat) : M := fun a b => if a = c then f d b else if a = d then f c b else f a b
theorem det_sr {n : Nat} {c d : Nat} (hc : c < n) (hd : d < n) (cd : c ≠ d) (f : M) : det n (sr f c d) = -det n f := by
  have e : det n (sr f c d) = det n (mul n (sc one c d) f) := det_congr fun i hi j hj => by
    show sr f c d i j = sumR n fun k => sc one c d i k * f k j
    unfold sr sc one
    by_cases h1 : i = c
    · subst h1
      rw [sumR_one (k := d) hd fun k hk hn => by
        rw [if_neg hn]
        by_cases q : k = i
        · subst q; simp [cd]
        · simp [q, Ne.symm q]]
      simp [cd, Ne.symm cd]
    · by_cases h2 : i = d
      · subst h2
        rw [sumR_one (k := c) hc fun k hk hn => by
          rw [if_neg hn]
          by_cases q : k = i
          · subst q; simp [cd, Ne.symm cd]
          · simp [q, Ne.symm q]]
        simp [cd, Ne.symm cd, h1]
      · rw [sumR_one (k := i) hi fun k hk hn => by
          by_cases q : k = c
          · subst q; simp [h2]
          · by_cases q2 : k = d
            · subst q2; simp [q, h1]
            · simp [q, q2, Ne.symm hn]]
        simp [h1, h2]
  rw [e, det_mul, (det_Alt n).swap hc hd cd, det_one]
  grind
theorem det_eqr {n : Nat} {c d : Nat} (hc : c < n) (hd : d < n) (cd : c ≠ d) {f : M} (h : ∀ j, j < n → f c j = f d j) : det n f = 0 := by
  have e := det_sr hc hd cd f
  have : det n (sr f c d) = det n f := det_congr fun i hi j hj => by
    unfold sr
    split
    · rename_i q; subst q; exact (h j hj).symm
    · split
      · rename_i q; subst q; exact h j hj
      · rfl
  rw [this] at e
  grind
def tr (f : M) : M := fun a b => f b a
theorem det_tr (n : Nat) (f : M) : det n (tr f) = det n f := by
  have A : Alt n fun f => det n (tr f) := by
    refine { ext := fun {g h} e => ?_, lin := fun {g c u v x y} hc => ?_, alt := fun {g c d} h1 h2 h3 => ?_ }
    · exact det_congr fun i hi j hj => e j hj i hi
    · refine det_row (c := c) hc (fun j hj => ?_) fun i hi hn j hj => ?_
      · unfold tr; rw [cs_e, cs_e, cs_e]
      · unfold tr; rw [cs_n _ _ _ hn, cs_n _ _ _ hn, cs_n _ _ _ hn]; exact ⟨rfl, rfl⟩
    · exact det_eqr (c := c) (d := d) (by omega) h2 (by omega) fun j hj => h3 j hj
  rw [A.uniq (det_Alt n) (det_one n) f]
  have : det n (tr one) = 1 := by
    rw [← det_one n]
    exact det_congr fun i hi j hj => by
      unfold tr one
      by_cases q : i = j
      · subst q; rfl
      · rw [if_neg q, if_neg (Ne.symm q)]
  rw [this, Rat.one_mul]
/-- the last column holds 0 but for its last place -/
theorem det_last : ∀ {n : Nat} {f : M}, (∀ i, i < n → f i n = 0) → det (n + 1) f = f n n * det n f
  | 0, f, _ => by
    show sumR 1 (fun j => sg j * f 0 j * det 0 (mi f j)) = f 0 0 * det 0 f
    rw [sumR_s, sumR_0]
    show 0 + sg 0 * f 0 0 * 1 = f 0 0 * 1
    unfold sg
    simp
    grind
  | n + 1, f, h => by
    show sumR (n + 1 + 1) (fun j => sg j * f 0 j * det (n + 1) (mi f j)) = f (n + 1) (n + 1) * sumR (n + 1) (fun j => sg j * f 0 j * det n (mi f j))
    rw [sumR_s, h 0 (by omega), ← sumR_mul]
    have z : sg (n + 1) * 0 * det (n + 1) (mi f (n + 1)) = 0 := by grind
    rw [z, Rat.add_zero]
    refine sumR_congr fun j hj => ?_
    have e : sk j n = n + 1 := by unfold sk; rw [if_neg (by omega)]
    rw [det_last (n := n) (f := mi f j) fun i hi => by
      show f (i + 1) (sk j n) = 0
      rw [e]; exact h _ (by omega)]
    have e2 : mi f j n n = f (n + 1) (n + 1) := by
      show f (n + 1) (sk j n) = _
      rw [e]
    rw [e2]
    grind
end Dt
end Tk

namespace Tk
namespace Dt
def IsI (x : Rat) : Prop := ∃ z : Int, x = (z : Rat)
theorem IsI.of (z : Int) : IsI (z : Rat) := ⟨z, rfl⟩
theorem IsI.add {x y : Rat} : IsI x → IsI y → IsI (x + y)
  | ⟨a, e⟩, ⟨b, f⟩ => ⟨a + b, by rw [e, f, Rat.intCast_add]⟩
theorem IsI.mul {x y : Rat} : IsI x → IsI y → IsI (x * y)
  | ⟨a, e⟩, ⟨b, f⟩ => ⟨a * b, by rw [e, f, Rat.intCast_mul]⟩
theorem IsI.sum {n : Nat} {g : Nat → Rat} (h : ∀ i, i < n → IsI (g i)) : IsI (sumR n g) := by
  induction n with
  | zero => exact ⟨0, rfl⟩
  | succ n ih => rw [sumR_s]; exact (ih fun i hi => h i (by omega)).add (h n (by omega))
theorem IsI.sg (j : Nat) : IsI (sg j) := by
  unfold Dt.sg
  split
  · exact ⟨1, rfl⟩
  · exact ⟨-1, rfl⟩
theorem det_int : ∀ {n : Nat} {f : M}, (∀ i, i < n → ∀ j, j < n → IsI (f i j)) → IsI (det n f)
  | 0, _, _ => ⟨1, rfl⟩
  | n + 1, f, h => IsI.sum fun j hj => ((IsI.sg j).mul (h 0 (by omega) j hj)).mul (det_int fun a ha b hb => by
      unfold mi sk
      split <;> exact h _ (by omega) _ (by omega))
/-- how large a number is -/
def sz (x : Rat) : Rat := if x < 0 then -x else x
theorem sz_0 (x : Rat) : 0 ≤ sz x := by unfold sz; split <;> grind
theorem sz_neg (x : Rat) : sz (-x) = sz x := by unfold sz; split <;> split <;> grind
theorem sz_add (x y : Rat) : sz (x + y) ≤ sz x + sz y := by unfold sz; split <;> split <;> split <;> grind
theorem sz_mul (x y : Rat) : sz (x * y) = sz x * sz y := by
  have p : ∀ {a b : Rat}, 0 ≤ a → 0 ≤ b → 0 ≤ a * b := fun h1 h2 => Rat.mul_nonneg h1 h2
  unfold sz
  by_cases h1 : x < 0
  · by_cases h2 : y < 0
    · have := p (a := -x) (b := -y) (by grind) (by grind)
      rw [if_pos h1, if_pos h2, if_neg (by grind)]; grind
    · have := p (a := -x) (b := y) (by grind) (by grind)
      rw [if_pos h1, if_neg h2]
      split <;> grind
  · by_cases h2 : y < 0
    · have := p (a := x) (b := -y) (by grind) (by grind)
      rw [if_neg h1, if_pos h2]
      split <;> grind
    · have := p (a := x) (b := y) (by grind) (by grind)
      rw [if_neg h1, if_neg h2, if_neg (by grind)]
theorem sz_sum {n : Nat} {g : Nat → Rat} {b : Rat} (h : ∀ i, i < n → sz (g i) ≤ b) : sz (sumR n g) ≤ n * b := by
  induction n with
  | zero => rw [sumR_0]; show sz 0 ≤ ((0 : Nat) : Rat) * b; unfold sz; simp
  | succ n ih =>
    rw [sumR_s]
    have h1 := ih fun i hi => h i (by omega)
    have h2 := h n (by omega)
    have h3 := sz_add (sumR n g) (g n)
    have e : ((n + 1 : Nat) : Rat) = (n : Rat) + 1 := by rw [Rat.natCast_add]; rfl
    rw [e]
    grind
/-- the bound of determinants -/
def bdD (b : Rat) : Nat → Rat
  | 0 => 1
  | n + 1 => ((n + 1 : Nat) : Rat) * (b * bdD b n)
theorem bdD_0 {b : Rat} (hb : 0 ≤ b) : ∀ n, 0 ≤ bdD b n
  | 0 => by unfold bdD; decide
  | n + 1 => Rat.mul_nonneg (by exact_mod_cast Nat.zero_le _) (Rat.mul_nonneg hb (bdD_0 hb n))
theorem det_sz {b : Rat} (hb : 0 ≤ b) : ∀ {n : Nat} {f : M}, (∀ i, i < n → ∀ j, j < n → sz (f i j) ≤ b) → sz (det n f) ≤ bdD b n
  | 0, _, _ => by show sz 1 ≤ 1; decide
  | n + 1, f, h => by
    refine sz_sum fun j hj => ?_
    have h1 := h 0 (by omega) j hj
    have h2 := det_sz hb (n := n) (f := mi f j) fun a ha b hb => by
      unfold mi sk
      split <;> exact h _ (by omega) _ (by omega)
    have e : sz (sg j) = 1 := by unfold sg; split <;> decide
    rw [sz_mul, sz_mul, e, Rat.one_mul]
    exact Rat.le_trans (Rat.mul_le_mul_of_nonneg_right h1 (sz_0 _)) (Rat.mul_le_mul_of_nonneg_left h2 hb)
end Dt
end Tk

namespace Tk
namespace Dt
/-- the columns at the places -/
def at_ (A : M) (P : Nat → Nat) : M := fun i j => A i (P j)
/-- m rows of n numbers, k of them in steps with heads d at the places P: the state S of the rows A -/
structure St (A : M) (m n k : Nat) (P : Nat → Nat) (S : M) (d : Rat) : Prop where
  nz : d ≠ 0
  hd : d = det k (at_ A P)
  eq : ∀ i, i < m → ∀ l, l < n → d * A i l = sumR k (fun j => A i (P j) * S j l) + (if k ≤ i then S i l else 0)
  pl : ∀ j, j < k → P j < n
  km : k ≤ m
theorem St.top {A : M} {m n k : Nat} {P : Nat → Nat} {S : M} {d : Rat} (s : St A m n k P S d) {j l : Nat} (hj : j < k) (hl : l < n) :
    S j l = det k (cs (at_ A P) j fun i => A i l) := by
  have km := s.km
  have e1 : d * det k (cs (at_ A P) j fun i => A i l) = S j l * d := by
    rw [← (det_Lin k).mul hj]
    have e2 : det k (cs (at_ A P) j fun a => d * A a l) = det k (cs (at_ A P) j fun a => sumR k fun i => S i l * at_ A P a i) := det_congr fun a ha b hb => by
      unfold cs
      split
      · show d * A a l = sumR k fun i => S i l * A a (P i)
        rw [s.eq a (by omega) l hl, if_neg (by omega), Rat.add_zero]
        exact sumR_congr fun i hi => Rat.mul_comm ..
      · rfl
    rw [e2, (det_Lin k).sum hj, sumR_one (k := j) hj fun i hi hn => by
      rcases Nat.lt_or_gt_of_ne hn with q | q
      · rw [(det_Alt k).alt (c := i) (d := j) q hj fun a ha => by rw [cs_e, cs_n _ _ _ hn], Rat.mul_zero]
      · rw [(det_Alt k).alt (c := j) (d := i) q hi fun a ha => by rw [cs_e, cs_n _ _ _ hn], Rat.mul_zero]]
    rw [cs_self, s.hd]
  have nz := s.nz
  have : d * (S j l - det k (cs (at_ A P) j fun i => A i l)) = 0 := by grind
  rcases Rat.mul_eq_zero.mp this with q | q
  · exact absurd q nz
  · grind
/-- with row i and column l beside -/
def bd (A : M) (P : Nat → Nat) (k i l : Nat) : M := fun a b => A (if a < k then a else i) (if b < k then P b else l)
theorem St.low {A : M} {m n k : Nat} {P : Nat → Nat} {S : M} {d : Rat} (s : St A m n k P S d) {i l : Nat} (hk : k ≤ i) (hi : i < m) (hl : l < n) :
    S i l = det (k + 1) (bd A P k i l) := by
  have km := s.km
  have e1 : d * det (k + 1) (bd A P k i l) = S i l * d := by
    have e2 : det (k + 1) (bd A P k i l) = det (k + 1) (cs (bd A P k i l) k fun a => bd A P k i l a k) := by rw [cs_self]
    rw [e2, ← (det_Lin (k + 1)).mul (by omega)]
    have e3 : det (k + 1) (cs (bd A P k i l) k fun a => d * bd A P k i l a k) =
        det (k + 1) (cs (bd A P k i l) k fun a => (sumR k fun j => S j l * bd A P k i l a j) + S i l * un k a) := det_congr fun a ha b hb => by
      unfold cs
      split
      · show d * A (if a < k then a else i) (if k < k then P k else l) = (sumR k fun j => S j l * A (if a < k then a else i) (if j < k then P j else l)) + S i l * un k a
        rw [if_neg (by omega : ¬ k < k)]
        have ez : (sumR k fun j => S j l * A (if a < k then a else i) (if j < k then P j else l)) = sumR k fun j => A (if a < k then a else i) (P j) * S j l :=
          sumR_congr fun j hj => by rw [if_pos hj]; exact Rat.mul_comm ..
        rw [ez]
        unfold un
        by_cases q : a < k
        · rw [if_pos q, if_neg (by omega : ¬ a = k), s.eq a (by omega) l hl, if_neg (by omega)]
          grind
        · rw [if_neg q, if_pos (by omega : a = k), s.eq i hi l hl, if_pos hk]
          grind
      · rfl
    rw [e3, (det_Lin (k + 1)).add (by omega), (det_Lin (k + 1)).sum (by omega)]
    rw [sumR_congr (h := fun _ => 0) fun j hj => by
      rw [(det_Alt (k + 1)).alt (c := j) (d := k) hj (by omega) fun a ha => by rw [cs_e, cs_n _ _ _ (by omega)], Rat.mul_zero], sumR_zero, Rat.zero_add, (det_Lin (k + 1)).mul (by omega)]
    rw [det_last fun a ha => by rw [cs_e]; unfold un; rw [if_neg (by omega)]]
    rw [cs_e]
    have e4 : det k (cs (bd A P k i l) k (un k)) = d := by
      rw [s.hd]
      exact det_congr fun a ha b hb => by
        rw [cs_n _ _ _ (by omega)]
        unfold bd at_
        rw [if_pos ha, if_pos hb]
    rw [e4]
    unfold un
    rw [if_pos rfl, Rat.one_mul]
  have nz := s.nz
  have : d * (S i l - det (k + 1) (bd A P k i l)) = 0 := by grind
  rcases Rat.mul_eq_zero.mp this with q | q
  · exact absurd q nz
  · grind
/-- whole numbers stay whole -/
theorem St.whole {A : M} {m n k : Nat} {P : Nat → Nat} {S : M} {d : Rat} (s : St A m n k P S d) (hA : ∀ i, i < m → ∀ l, l < n → IsI (A i l)) {i l : Nat} (hi : i < m) (hl : l < n) : IsI (S i l) := by
  have km := s.km
  by_cases q : i < k
  · rw [s.top q hl]
    refine det_int fun a ha b hb => ?_
    unfold cs
    split
    · exact hA _ (by omega) _ hl
    · exact hA _ (by omega) _ (s.pl _ hb)
  · rw [s.low (by omega) hi hl]
    refine det_int fun a ha b hb => ?_
    unfold bd
    refine hA _ ?_ _ ?_
    · split <;> omega
    · split
      · rename_i h; exact s.pl _ h
      · exact hl
/-- their sizes -/
theorem bdD_mono {b : Rat} (hb : 1 ≤ b) : ∀ (n k : Nat), bdD b n ≤ bdD b (n + k)
  | n, 0 => Rat.le_refl
  | n, k + 1 => by
    refine Rat.le_trans (bdD_mono hb n k) ?_
    have h0 := bdD_0 (b := b) (by grind) (n + k)
    have e : bdD b (n + (k + 1)) = ((n + k + 1 : Nat) : Rat) * (b * bdD b (n + k)) := rfl
    rw [e]
    have h1 : bdD b (n + k) ≤ b * bdD b (n + k) := by
      have := Rat.mul_le_mul_of_nonneg_right hb h0
      rw [Rat.one_mul] at this; exact this
    have h2 : (1 : Rat) ≤ ((n + k + 1 : Nat) : Rat) := by
      have : (1 : Rat) = ((1 : Nat) : Rat) := rfl
      rw [this]
      exact_mod_cast (by omega : 1 ≤ n + k + 1)
    have h3 := Rat.mul_le_mul_of_nonneg_right h2 (Rat.le_trans h0 h1)
    rw [Rat.one_mul] at h3
    exact Rat.le_trans h1 h3
theorem St.size {A : M} {m n k : Nat} {P : Nat → Nat} {S : M} {d : Rat} (s : St A m n k P S d) {b : Rat} (hb : 1 ≤ b) (hA : ∀ i, i < m → ∀ l, l < n → sz (A i l) ≤ b) {i l : Nat} (hi : i < m) (hl : l < n) : sz (S i l) ≤ bdD b m := by
  have km := s.km
  have b0 : (0 : Rat) ≤ b := by grind
  by_cases q : i < k
  · rw [s.top q hl]
    refine Rat.le_trans (det_sz b0 fun a ha b hb => ?_) ?_
    · unfold cs
      split
      · exact hA _ (by omega) _ hl
      · exact hA _ (by omega) _ (s.pl _ hb)
    · have := bdD_mono hb k (m - k)
      rw [show k + (m - k) = m by omega] at this
      exact this
  · rw [s.low (by omega) hi hl]
    refine Rat.le_trans (det_sz b0 fun a ha b hb => ?_) ?_
    · unfold bd
      refine hA _ ?_ _ ?_
      · split <;> omega
      · split
        · rename_i h; exact s.pl _ h
        · exact hl
    · have := bdD_mono hb (k + 1) (m - (k + 1))
      rw [show k + 1 + (m - (k + 1)) = m by omega] at this
      exact this
theorem St.dwhole {A : M} {m n k : Nat} {P : Nat → Nat} {S : M} {d : Rat} (s : St A m n k P S d) (hA : ∀ i, i < m → ∀ l, l < n → IsI (A i l)) : IsI d := by
  have km := s.km
  rw [s.hd]
  exact det_int fun a ha b hb => hA _ (by omega) _ (s.pl _ hb)
/-- one step -/
def stp (S : M) (d : Rat) (k p : Nat) : M := fun i l => if i = k then S k l else (S k p * S i l - S i p * S k l) / d
def pw (P : Nat → Nat) (k p : Nat) : Nat → Nat := fun j => if j = k then p else P j
theorem St.step {A : M} {m n k : Nat} {P : Nat → Nat} {S : M} {d : Rat} (s : St A m n k P S d) {p : Nat} (hk : k < m) (hp : p < n) (h : S k p ≠ 0) :
    St A m n (k + 1) (pw P k p) (stp S d k p) (S k p) where
  nz := h
  hd := by
    rw [s.low (Nat.le_refl _) hk hp]
    exact det_congr fun a ha b hb => by
      unfold bd at_ pw
      have e1 : (if a < k then a else k) = a := by split <;> omega
      rw [e1]
      by_cases q : b < k
      · rw [if_pos q, if_neg (by omega)]
      · rw [if_neg q, if_pos (by omega)]
  pl := fun j hj => by
    unfold pw
    split
    · exact hp
    · exact s.pl _ (by omega)
  km := hk
  eq := fun i hi l hl => by
    have nz := s.nz
    have E1 := s.eq i hi l hl
    have E2 := s.eq i hi p hp
    rw [sumR_s]
    have e1 : (sumR k fun j => A i (pw P k p j) * stp S d k p j l) = (S k p / d) * (sumR k fun j => A i (P j) * S j l) + (-(S k l / d)) * (sumR k fun j => A i (P j) * S j p) := by
      rw [← sumR_mul, ← sumR_mul, ← sumR_add]
      refine sumR_congr fun j hj => ?_
      unfold pw stp
      rw [if_neg (by omega), if_neg (by omega), Rat.div_def, Rat.div_def, Rat.div_def]
      grind
    rw [e1]
    have e2 : pw P k p k = p := if_pos rfl
    have e3 : stp S d k p k l = S k l := if_pos rfl
    rw [e2, e3]
    generalize sumR k (fun j => A i (P j) * S j l) = X at *
    generalize sumR k (fun j => A i (P j) * S j p) = Y at *
    have di : d * d⁻¹ = 1 := Rat.mul_inv_cancel _ nz
    rw [Rat.div_def, Rat.div_def]
    by_cases q : k ≤ i
    · rw [if_pos q] at E1 E2
      have x1 : X = d * A i l - S i l := by grind
      have y1 : Y = d * A i p - S i p := by grind
      by_cases q2 : i = k
      · subst q2
        rw [if_neg (by omega), x1, y1]
        grind
      · rw [if_pos (by omega : k + 1 ≤ i), x1, y1]
        unfold stp
        rw [if_neg q2, Rat.div_def]
        grind
    · rw [if_neg q] at E1 E2
      have x1 : X = d * A i l := by grind
      have y1 : Y = d * A i p := by grind
      rw [if_neg (by omega), x1, y1]
      grind
/-- rows change places behind the first k -/
theorem St.perm {A : M} {m n k : Nat} {P : Nat → Nat} {S : M} {d : Rat} (s : St A m n k P S d) (σ : Nat → Nat) (h1 : ∀ i, i < k → σ i = i) (h2 : ∀ i, k ≤ i → i < m → k ≤ σ i ∧ σ i < m) :
    St (fun i => A (σ i)) m n k P (fun i => S (σ i)) d where
  nz := s.nz
  hd := by
    rw [s.hd]
    exact det_congr fun a ha b hb => by
      show A a (P b) = A (σ a) (P b)
      rw [h1 a ha]
  pl := s.pl
  km := s.km
  eq := fun i hi l hl => by
    have km := s.km
    have e1 : (sumR k fun j => A (σ i) (P j) * S (σ j) l) = sumR k fun j => A (σ i) (P j) * S j l := sumR_congr fun j hj => by rw [h1 j hj]
    rw [e1]
    by_cases q : k ≤ i
    · obtain ⟨a1, a2⟩ := h2 i q hi
      rw [s.eq (σ i) a2 l hl, if_pos q, if_pos a1]
    · rw [h1 i (by omega), s.eq i hi l hl]
theorem St.start (A : M) (m n : Nat) (P : Nat → Nat) : St A m n 0 P A 1 where
  nz := by decide
  hd := rfl
  pl := fun j hj => by omega
  km := by omega
  eq := fun i hi l hl => by
    rw [sumR_0, if_pos (by omega)]
    grind
end Dt
end Tk

namespace Tk
namespace Dt
/-- row t goes before row k -/
def mv (k t : Nat) : Nat → Nat := fun i => if i = k then t else if k < i ∧ i ≤ t then i - 1 else i
theorem mv_lt {k t m i : Nat} (ht : t < m) (hi : i < m) : mv k t i < m := by
  unfold mv; split
  · exact ht
  · split <;> omega
theorem mv_ge {k t i : Nat} (hk : k ≤ t) (h : k ≤ i) : k ≤ mv k t i := by
  unfold mv; split
  · exact hk
  · split <;> omega
theorem mv_id {k t i : Nat} (hk : k ≤ t) (h : i < k) : mv k t i = i := by
  unfold mv; rw [if_neg (by omega), if_neg (by omega)]
theorem det_mv : ∀ {m k t : Nat} {A : M}, k + t < m → det m (fun i => A (mv k (k + t) i)) = sg t * det m A
  | m, k, 0, A, h => by
    have : det m (fun i => A (mv k (k + 0) i)) = det m A := det_congr fun i hi j hj => by
      have : mv k (k + 0) i = i := by
        unfold mv
        split
        · omega
        · split <;> omega
      show A (mv k (k + 0) i) j = A i j
      rw [this]
    rw [this]
    unfold sg
    simp
  | m, k, t + 1, A, h => by
    have e : det m (fun i => A (mv k (k + (t + 1)) i)) = det m (fun i => sr A (k + t) (k + t + 1) (mv k (k + t) i)) := det_congr fun i hi j hj => by
      show A (mv k (k + (t + 1)) i) j = sr A (k + t) (k + t + 1) (mv k (k + t) i) j
      unfold sr mv
      by_cases h1 : i = k
      · rw [if_pos h1, if_pos h1, if_pos rfl]; rfl
      · rw [if_neg h1, if_neg h1]
        by_cases h2 : k < i ∧ i ≤ k + t
        · rw [if_pos h2, if_pos (by omega), if_neg (by omega), if_neg (by omega)]
        · rw [if_neg h2]
          by_cases h3 : i = k + t + 1
          · rw [if_pos (by omega), if_neg (by omega), if_pos h3, h3]; rfl
          · rw [if_neg (by omega), if_neg (by omega), if_neg h3]
    rw [e, det_mv (m := m) (k := k) (t := t) (A := sr A (k + t) (k + t + 1)) (by omega), det_sr (by omega) (by omega) (by omega), sg_s]
    grind
/-- what holds behind p columns -/
structure Wk (B : M) (m n p k : Nat) (P : Nat → Nat) (S : M) (d : Rat) (turns : Nat) (σ : Nat → Nat) : Prop where
  st : St (fun i => B (σ i)) m n k P S d
  det : Dt.det m (fun i => B (σ i)) = sg turns * Dt.det m B
  per : ∀ i, i < m → σ i < m
  inv : ∃ τ : Nat → Nat, ∀ i, i < m → τ i < m ∧ σ (τ i) = i
  pn : p ≤ n
  pp : ∀ j, j < k → P j < p
  inc : ∀ i j, i < j → j < k → P i < P j
  uni : ∀ j, j < k → ∀ i, i < m → S i (P j) = if i = j then d else 0
  low : ∀ i, k ≤ i → i < m → ∀ l, l < p → S i l = 0
  led : ∀ j, j < k → ∀ l, l < P j → S j l = 0
theorem Wk.start (B : M) (m n : Nat) (P : Nat → Nat) : Wk B m n 0 0 P B 1 0 (fun i => i) where
  st := St.start B m n P
  det := by unfold sg; simp
  per := fun i hi => hi
  inv := ⟨fun i => i, fun i hi => ⟨hi, rfl⟩⟩
  pn := Nat.zero_le _
  pp := fun j hj => by omega
  inc := fun i j _ hj => by omega
  uni := fun j hj => by omega
  low := fun i _ _ l hl => by omega
  led := fun j hj => by omega
theorem Wk.pass {B : M} {m n p k : Nat} {P : Nat → Nat} {S : M} {d : Rat} {turns : Nat} {σ : Nat → Nat} (w : Wk B m n p k P S d turns σ) (hp : p < n) (h : ∀ i, k ≤ i → i < m → S i p = 0) : Wk B m n (p + 1) k P S d turns σ :=
  { w with
    pn := hp
    pp := fun j hj => by have := w.pp j hj; omega
    low := fun i h1 h2 l hl => by
      by_cases q : l = p
      · rw [q]; exact h i h1 h2
      · exact w.low i h1 h2 l (by omega) }
theorem sg_add (a b : Nat) : sg (a + b) = sg b * sg a := by
  unfold sg
  rcases Nat.mod_two_eq_zero_or_one a with h | h <;> rcases Nat.mod_two_eq_zero_or_one b with h' | h'
  · rw [if_pos h, if_pos h', if_pos (by omega)]; grind
  · rw [if_pos h, if_neg (by omega : ¬ b % 2 = 0), if_neg (by omega)]; grind
  · rw [if_neg (by omega : ¬ a % 2 = 0), if_pos h', if_neg (by omega)]; grind
  · rw [if_neg (by omega : ¬ a % 2 = 0), if_neg (by omega : ¬ b % 2 = 0), if_pos (by omega)]; grind
theorem Wk.step {B : M} {m n p k t : Nat} {P : Nat → Nat} {S : M} {d : Rat} {turns : Nat} {σ : Nat → Nat} (w : Wk B m n p k P S d turns σ) (hp : p < n) (hk : k ≤ t) (ht : t < m) (h : S t p ≠ 0) :
    Wk B m n (p + 1) (k + 1) (pw P k p) (stp (fun i => S (mv k t i)) d k p) (S t p) (turns + (t - k)) (fun i => σ (mv k t i)) := by
  have mk : mv k t k = t := by unfold mv; exact if_pos rfl
  have s1 := w.st.perm (mv k t) (fun i hi => mv_id hk hi) fun i h1 h2 => ⟨mv_ge hk h1, mv_lt ht h2⟩
  have h' : (fun i => S (mv k t i)) k p ≠ 0 := by show S (mv k t k) p ≠ 0; rw [mk]; exact h
  have s2 := s1.step (p := p) (by omega) hp h'
  have e0 : (fun i => S (mv k t i)) k p = S t p := by show S (mv k t k) p = _; rw [mk]
  rw [mk] at s2
  have nz := w.st.nz
  have km := w.st.km
  refine { st := s2, det := ?_, per := ?_, inv := ?_, pn := hp, pp := ?_, inc := ?_, uni := ?_, low := ?_, led := ?_ }
  · have := det_mv (m := m) (k := k) (t := t - k) (A := fun i => B (σ i)) (by omega)
    rw [show k + (t - k) = t by omega] at this
    show Dt.det m (fun i => B (σ (mv k t i))) = _
    rw [this, w.det, sg_add]
    grind
  · intro i hi
    exact w.per _ (mv_lt ht hi)
  · obtain ⟨τ, hτ⟩ := w.inv
    refine ⟨fun i => if τ i = t then k else if k ≤ τ i ∧ τ i < t then τ i + 1 else τ i, fun i hi => ?_⟩
    obtain ⟨a1, a2⟩ := hτ i hi
    have e : mv k t (if τ i = t then k else if k ≤ τ i ∧ τ i < t then τ i + 1 else τ i) = τ i := by
      unfold mv
      by_cases q : τ i = t
      · rw [if_pos q, if_pos rfl, q]
      · rw [if_neg q]
        by_cases q2 : k ≤ τ i ∧ τ i < t
        · rw [if_pos q2, if_neg (by omega), if_pos (by omega)]; omega
        · rw [if_neg q2, if_neg (by omega), if_neg (by omega)]
    refine ⟨?_, ?_⟩
    · show (if τ i = t then k else if k ≤ τ i ∧ τ i < t then τ i + 1 else τ i) < m
      split
      · omega
      · split <;> omega
    · show σ (mv k t _) = i
      rw [e, a2]
  · intro j hj
    unfold pw
    split
    · omega
    · have := w.pp j (by omega); omega
  · intro i j hij hj
    unfold pw
    rw [if_neg (by omega : ¬ i = k)]
    split
    · exact w.pp i (by omega)
    · exact w.inc i j hij (by omega)
  · intro j hj i hi
    unfold pw stp
    show (if i = k then S (mv k t k) (if j = k then p else P j) else (S (mv k t k) p * S (mv k t i) (if j = k then p else P j) - S (mv k t i) p * S (mv k t k) (if j = k then p else P j)) / d) = _
    by_cases q : j = k
    · rw [if_pos q]
      by_cases q2 : i = k
      · rw [if_pos q2, if_pos (by omega), mk]
      · rw [if_neg q2, if_neg (by omega)]
        grind
    · rw [if_neg q]
      have z1 := w.uni j (by omega) (mv k t k) (mv_lt ht (by omega))
      have z2 := w.uni j (by omega) (mv k t i) (mv_lt ht hi)
      rw [mk] at z1
      rw [if_neg (by omega)] at z1
      by_cases q2 : i = k
      · rw [if_pos q2, if_neg (by omega), mk, z1]
      · rw [if_neg q2, mk, z2, z1]
        by_cases q3 : i = j
        · subst q3
          rw [mv_id hk (by omega), if_pos rfl, if_pos rfl, Rat.div_def]
          have := Rat.mul_inv_cancel d nz
          grind
        · have : mv k t i ≠ j := by
            by_cases a : i < k
            · rw [mv_id hk a]; exact q3
            · have := mv_ge (t := t) hk (by omega : k ≤ i); omega
          rw [if_neg this, if_neg q3]
          grind
  · intro i h1 h2 l hl
    show (if i = k then S (mv k t k) l else (S (mv k t k) p * S (mv k t i) l - S (mv k t i) p * S (mv k t k) l) / d) = 0
    rw [if_neg (by omega), mk]
    by_cases q : l = p
    · rw [q]; grind
    · rw [w.low (mv k t i) (mv_ge hk (by omega)) (mv_lt ht h2) l (by omega), w.low t hk ht l (by omega)]
      grind
  · intro j hj l hl
    unfold pw at hl
    show (if j = k then S (mv k t k) l else (S (mv k t k) p * S (mv k t j) l - S (mv k t j) p * S (mv k t k) l) / d) = 0
    by_cases q : j = k
    · rw [if_pos q] at hl
      rw [if_pos q, mk]
      exact w.low t hk ht l hl
    · rw [if_neg q] at hl
      have := w.pp j (by omega)
      rw [if_neg q, mk, mv_id hk (by omega), w.led j (by omega) l hl, w.low t hk ht l (by omega)]
      grind
/-- the determinant, at the end -/
theorem Wk.full {B : M} {m : Nat} {P : Nat → Nat} {S : M} {d : Rat} {turns : Nat} {σ : Nat → Nat} (w : Wk B m m m m P S d turns σ) : Dt.det m B = sg turns * d := by
  have hP : ∀ j, j < m → P j = j := by
    have lo : ∀ j, j < m → j ≤ P j := by
      intro j
      induction j with
      | zero => intro _; exact Nat.zero_le _
      | succ j ih => intro hj; have := w.inc j (j + 1) (by omega) hj; have := ih (by omega); omega
    have hi : ∀ e j, j + e + 1 = m → P j ≤ j := by
      intro e
      induction e with
      | zero => intro j hj; have := w.pp j (by omega); omega
      | succ e ih => intro j hj; have := w.inc j (j + 1) (by omega) (by omega); have := ih (j + 1) (by omega); omega
    intro j hj
    have := lo j hj
    have := hi (m - 1 - j) j (by omega)
    omega
  have e1 : d = Dt.det m (fun i => B (σ i)) := by
    rw [w.st.hd]
    exact det_congr fun i hi j hj => by unfold at_; rw [hP j hj]
  have e2 := w.det
  rw [← e1] at e2
  rw [e2, ← Rat.mul_assoc]
  have : sg turns * sg turns = 1 := by unfold sg; split <;> grind
  rw [this, Rat.one_mul]
theorem Wk.less {B : M} {m k : Nat} {P : Nat → Nat} {S : M} {d : Rat} {turns : Nat} {σ : Nat → Nat} (w : Wk B m m m k P S d turns σ) (hk : k < m) : Dt.det m B = 0 := by
  have nz := w.st.nz
  have di := Rat.mul_inv_cancel d nz
  have e : Dt.det m (fun i => B (σ i)) = Dt.det m (mul m (fun i j => if j < k then B (σ i) (P j) else 0) fun j l => d⁻¹ * S j l) := det_congr fun i hi l hl => by
    have z := w.st.eq i hi l hl
    have z0 : (if k ≤ i then S i l else 0) = 0 := by
      split
      · rename_i q; exact w.low i q hi l hl
      · rfl
    rw [z0, Rat.add_zero] at z
    show B (σ i) l = sumR m fun j => (if j < k then B (σ i) (P j) else 0) * (d⁻¹ * S j l)
    have cut : ∀ (e : Nat) (g : Nat → Rat), sumR (k + e) (fun j => (if j < k then B (σ i) (P j) else 0) * g j) = sumR k fun j => B (σ i) (P j) * g j := by
      intro e g
      induction e with
      | zero => exact sumR_congr fun j hj => by rw [if_pos (show j < k from hj)]
      | succ e ih => rw [← Nat.add_assoc, sumR_s, ih, if_neg (by omega)]; grind
    have c := cut (m - k) fun j => d⁻¹ * S j l
    rw [show k + (m - k) = m by omega] at c
    rw [c]
    have c2 : (sumR k fun j => B (σ i) (P j) * (d⁻¹ * S j l)) = d⁻¹ * sumR k fun j => B (σ i) (P j) * S j l := by
      rw [← sumR_mul]
      exact sumR_congr fun j hj => by grind
    rw [c2, ← z]
    grind
  rw [det_mul] at e
  have zc : Dt.det m (fun i j => if j < k then B (σ i) (P j) else 0) = 0 := by
    have := (det_Lin m).zero (f := fun i j => if j < k then B (σ i) (P j) else 0) hk
    refine Eq.trans (det_congr fun i hi j hj => ?_) this
    show (if j < k then B (σ i) (P j) else 0) = if j = k then 0 else if j < k then B (σ i) (P j) else 0
    by_cases q : j = k
    · rw [if_pos q, if_neg (by omega)]
    · rw [if_neg q]
  rw [zc, Rat.zero_mul, w.det] at e
  have s2 : sg turns * sg turns = 1 := by unfold sg; split <;> grind
  have : sg turns * (sg turns * Dt.det m B) = 0 := by rw [e, Rat.mul_zero]
  rw [← Rat.mul_assoc, s2, Rat.one_mul] at this
  exact this
end Dt
end Tk

namespace Tk
namespace Dt
/-! ## the program's own steps, over lists of whole numbers -/
def gt (R : List (List Int)) (i l : Nat) : Int := (R[i]?.getD [])[l]?.getD 0
def toM (R : List (List Int)) : M := fun i l => ((gt R i l : Int) : Rat)
/-- the first row at or behind i, of e rows, that holds another number than 0 at p -/
def rowW (R : List (List Int)) (p : Nat) : Nat → Nat → Option Nat
  | _, 0 => none
  | i, e + 1 => if gt R i p ≠ 0 then some i else rowW R p (i + 1) e
def offW (row lead : List Int) (p : Nat) (past : Int) : List Int := (row.zip lead).map fun x => (lead[p]?.getD 0 * x.1 - row[p]?.getD 0 * x.2).fdiv past
def movW (R : List (List Int)) (k t : Nat) : List (List Int) := R.take k ++ (R[t]?.getD [] :: ((R.take t).drop k ++ R.drop (t + 1)))
def clrW (R : List (List Int)) (lead : List Int) (k p : Nat) (past : Int) : List (List Int) := R.mapIdx fun i r => if i = k then r else offW r lead p past
structure WS where
  rows : List (List Int)
  places : List Nat
  head : Int
  turns : Nat
def wsS (s : WS) (p : Nat) : WS :=
  match rowW s.rows p s.places.length (s.rows.length - s.places.length) with
  | none => s
  | some t => { rows := clrW (movW s.rows s.places.length t) (s.rows[t]?.getD []) s.places.length p s.head, places := s.places ++ [p], head := gt s.rows t p, turns := s.turns + (t - s.places.length) }
def wsA (R : List (List Int)) : Nat → WS
  | 0 => ⟨R, [], 1, 0⟩
  | p + 1 => wsS (wsA R p) p
theorem rowW_some {R : List (List Int)} {p : Nat} : ∀ {e i t : Nat}, rowW R p i e = some t → i ≤ t ∧ t < i + e ∧ gt R t p ≠ 0
  | 0, _, _, h => by cases h
  | e + 1, i, t, h => by
    unfold rowW at h
    split at h
    · rename_i q; cases h; exact ⟨Nat.le_refl _, by omega, q⟩
    · have := rowW_some h; omega
theorem rowW_none {R : List (List Int)} {p : Nat} : ∀ {e i : Nat}, rowW R p i e = none → ∀ t, i ≤ t → t < i + e → gt R t p = 0
  | 0, _, _, t, h1, h2 => by omega
  | e + 1, i, h, t, h1, h2 => by
    unfold rowW at h
    split at h
    · cases h
    · rename_i q
      by_cases z : t = i
      · subst z; exact Classical.not_not.mp q
      · exact rowW_none h t (by omega) (by omega)
theorem movW_len {R : List (List Int)} {k t : Nat} (hk : k ≤ t) (ht : t < R.length) : (movW R k t).length = R.length := by
  unfold movW; simp; omega
theorem movW_at {R : List (List Int)} {k t i : Nat} (hk : k ≤ t) (ht : t < R.length) : (movW R k t)[i]? = R[mv k t i]? := by
  unfold movW mv
  by_cases h1 : i < k
  · rw [if_neg (by omega), if_neg (by omega), List.getElem?_append_left (by simp; omega), List.getElem?_take, if_pos h1]
  · rw [List.getElem?_append_right (by simp; omega)]
    have e0 : (R.take k).length = k := by simp; omega
    rw [e0]
    by_cases h2 : i = k
    · rw [if_pos h2, h2, Nat.sub_self, List.getElem?_cons_zero, List.getElem?_eq_getElem ht]; rfl
    · rw [if_neg h2]
      obtain ⟨j, rfl⟩ : ∃ j, i = k + (j + 1) := ⟨i - k - 1, by omega⟩
      rw [show k + (j + 1) - k = j + 1 by omega, List.getElem?_cons_succ]
      have e1 : ((R.take t).drop k).length = t - k := by simp; omega
      by_cases h3 : k + (j + 1) ≤ t
      · rw [if_pos (by omega), List.getElem?_append_left (by omega), List.getElem?_drop, List.getElem?_take, if_pos (by omega)]
        rfl
      · rw [if_neg (by omega), List.getElem?_append_right (by omega), e1, List.getElem?_drop]
        congr 1
        omega
theorem movW_gt {R : List (List Int)} {k t i l : Nat} (hk : k ≤ t) (ht : t < R.length) : gt (movW R k t) i l = gt R (mv k t i) l := by
  unfold gt; rw [movW_at hk ht]
theorem movW_mem {R : List (List Int)} {k t : Nat} (ht : t < R.length) {r : List Int} (h : r ∈ movW R k t) : r ∈ R := by
  unfold movW at h
  rcases List.mem_append.mp h with h | h
  · exact List.mem_of_mem_take h
  · rcases List.mem_cons.mp h with h | h
    · rw [h, List.getElem?_eq_getElem ht]; exact List.getElem_mem ht
    · rcases List.mem_append.mp h with h | h
      · exact List.mem_of_mem_take (List.mem_of_mem_drop h)
      · exact List.mem_of_mem_drop h
theorem offW_len {row lead : List Int} {p : Nat} {past : Int} {n : Nat} (h1 : row.length = n) (h2 : lead.length = n) : (offW row lead p past).length = n := by
  unfold offW; simp; omega
theorem offW_at {row lead : List Int} {p l : Nat} {past : Int} {n : Nat} (h1 : row.length = n) (h2 : lead.length = n) (hl : l < n) :
    (offW row lead p past)[l]?.getD 0 = (lead[p]?.getD 0 * row[l]?.getD 0 - row[p]?.getD 0 * lead[l]?.getD 0).fdiv past := by
  unfold offW
  have hz : l < (row.zip lead).length := by rw [List.length_zip]; omega
  rw [List.getElem?_map, List.getElem?_eq_getElem hz, List.getElem_zip, List.getElem?_eq_getElem (l := row) (i := l) (by omega), List.getElem?_eq_getElem (l := lead) (i := l) (by omega)]
  rfl
theorem clrW_len {R : List (List Int)} {lead : List Int} {k p : Nat} {past : Int} : (clrW R lead k p past).length = R.length := by unfold clrW; simp
theorem gt_row {R : List (List Int)} {i l : Nat} (hi : i < R.length) : gt R i l = R[i][l]?.getD 0 := by
  unfold gt; rw [List.getElem?_eq_getElem hi]; rfl
theorem clrW_gt {R : List (List Int)} {lead : List Int} {k p i l n : Nat} {past : Int} (hR : ∀ r ∈ R, r.length = n) (hL : lead.length = n) (hi : i < R.length) (hl : l < n) :
    gt (clrW R lead k p past) i l = if i = k then gt R i l else (lead[p]?.getD 0 * gt R i l - gt R i p * lead[l]?.getD 0).fdiv past := by
  rw [gt_row (by rw [clrW_len]; exact hi), gt_row hi, gt_row hi]
  have e : (clrW R lead k p past)[i]'(by rw [clrW_len]; exact hi) = if i = k then R[i] else offW R[i] lead p past := by
    unfold clrW; simp
  rw [e]
  split
  · rfl
  · exact offW_at (hR _ (List.getElem_mem hi)) hL hl
theorem clrW_mem {R : List (List Int)} {lead : List Int} {k p n : Nat} {past : Int} (hR : ∀ r ∈ R, r.length = n) (hL : lead.length = n) : ∀ r ∈ clrW R lead k p past, r.length = n := by
  intro r h
  unfold clrW at h
  obtain ⟨i, hi, e⟩ := List.mem_mapIdx.mp h
  rw [← e]
  split
  · exact hR _ (List.getElem_mem hi)
  · exact offW_len (hR _ (List.getElem_mem hi)) hL
structure WsI (R0 : List (List Int)) (m n p : Nat) (s : WS) : Prop where
  len : s.rows.length = m
  wid : ∀ r ∈ s.rows, r.length = n
  wk : ∃ σ, Wk (toM R0) m n p s.places.length (fun j => s.places[j]?.getD 0) (toM s.rows) (s.head : Rat) s.turns σ
theorem Wk.alike {B : M} {m n p k : Nat} {P Q : Nat → Nat} {S T : M} {d : Rat} {turns : Nat} {σ : Nat → Nat} (w : Wk B m n p k P S d turns σ) (hP : ∀ j, j < k → Q j = P j) (hS : ∀ i, i < m → ∀ l, l < n → T i l = S i l) : Wk B m n p k Q T d turns σ where
  st := {
    nz := w.st.nz
    hd := by
      rw [w.st.hd]
      exact det_congr fun i hi j hj => by unfold at_; rw [hP j hj]
    eq := fun i hi l hl => by
      have km := w.st.km
      rw [w.st.eq i hi l hl, hS i hi l hl, sumR_congr fun j hj => by rw [← hP j hj, ← hS j (by omega) l hl]]
    pl := fun j hj => by rw [hP j hj]; exact w.st.pl j hj
    km := w.st.km }
  det := w.det
  per := w.per
  inv := w.inv
  pn := w.pn
  pp := fun j hj => by rw [hP j hj]; exact w.pp j hj
  inc := fun i j hij hj => by rw [hP i (by omega), hP j hj]; exact w.inc i j hij hj
  uni := fun j hj i hi => by rw [hP j hj, hS i hi _ (w.st.pl j hj)]; exact w.uni j hj i hi
  low := fun i h1 h2 l hl => by have := w.pn; rw [hS i h2 l (by omega)]; exact w.low i h1 h2 l hl
  led := fun j hj l hl => by
    rw [hP j hj] at hl
    have km := w.st.km
    have := w.st.pl j hj
    rw [hS j (by omega) l (by omega)]
    exact w.led j hj l hl
theorem Wk.whole {R0 : List (List Int)} {m n p k : Nat} {P : Nat → Nat} {S : M} {d : Rat} {turns : Nat} {σ : Nat → Nat} (w : Wk (toM R0) m n p k P S d turns σ) {i l : Nat} (hi : i < m) (hl : l < n) : IsI (S i l) :=
  w.st.whole (fun i hi l hl => ⟨_, rfl⟩) hi hl
theorem WsI.step {R0 : List (List Int)} {m n p : Nat} {s : WS} (w : WsI R0 m n p s) (hp : p < n) : WsI R0 m n (p + 1) (wsS s p) := by
  obtain ⟨len, wid, σ, wk⟩ := w
  have km := wk.st.km
  unfold wsS
  split
  · rename_i h
    refine ⟨len, wid, σ, wk.pass hp fun i h1 h2 => ?_⟩
    show ((gt s.rows i p : Int) : Rat) = 0
    rw [rowW_none h i h1 (by omega)]
    rfl
  · rename_i t h
    obtain ⟨h1, h2, h3⟩ := rowW_some h
    have tm : t < m := by omega
    have tl : t < s.rows.length := by omega
    have hlead : (s.rows[t]?.getD []).length = n := by rw [List.getElem?_eq_getElem tl]; exact wid _ (List.getElem_mem tl)
    have h3' : toM s.rows t p ≠ 0 := by
      intro e
      exact h3 (Rat.intCast_eq_zero_iff.mp e)
    have w2 := wk.step hp h1 tm h3'
    have mlen := movW_len h1 tl
    have mwid : ∀ r ∈ movW s.rows s.places.length t, r.length = n := fun r hr => wid r (movW_mem tl hr)
    refine ⟨by rw [clrW_len, mlen]; exact len, clrW_mem mwid hlead, fun i => σ (mv s.places.length t i), ?_⟩
    rw [List.length_append]
    refine w2.alike (fun j hj => ?_) fun i hi l hl => ?_
    · unfold pw
      split
      · rename_i q; rw [q, List.getElem?_append_right (Nat.le_refl _), Nat.sub_self]; rfl
      · rw [List.getElem?_append_left (by omega)]
    · have cg := clrW_gt (R := movW s.rows s.places.length t) (lead := s.rows[t]?.getD []) (k := s.places.length) (p := p) (past := s.head) mwid hlead (i := i) (l := l) (by omega) hl
      have I := w2.whole hi hl
      have mk : mv s.places.length t s.places.length = t := by unfold mv; exact if_pos rfl
      show ((gt (clrW (movW s.rows s.places.length t) (s.rows[t]?.getD []) s.places.length p s.head) i l : Int) : Rat) = _
      rw [cg]
      unfold stp at I ⊢
      by_cases q : i = s.places.length
      · rw [if_pos q, if_pos q, movW_gt h1 tl, q]; rfl
      · rw [if_neg q] at I ⊢
        rw [if_neg q]
        obtain ⟨z, hz⟩ := I
        rw [hz]
        have nz := wk.st.nz
        have di := Rat.mul_inv_cancel _ nz
        have hz2 : ((gt s.rows t p * gt s.rows (mv s.places.length t i) l - gt s.rows (mv s.places.length t i) p * gt s.rows t l : Int) : Rat) = ((s.head * z : Int) : Rat) := by
          have a : (toM s.rows (mv s.places.length t s.places.length) p * toM s.rows (mv s.places.length t i) l - toM s.rows (mv s.places.length t i) p * toM s.rows (mv s.places.length t s.places.length) l) / (s.head : Rat) = (z : Rat) := hz
          rw [mk, Rat.div_def] at a
          rw [Rat.intCast_sub, Rat.intCast_mul, Rat.intCast_mul, Rat.intCast_mul]
          unfold toM at a
          rw [← a]
          grind
        have hz3 := Rat.intCast_inj.mp hz2
        rw [movW_gt h1 tl, movW_gt h1 tl]
        have hz4 : ((s.rows[t]?.getD [])[p]?.getD 0 * gt s.rows (mv s.places.length t i) l - gt s.rows (mv s.places.length t i) p * (s.rows[t]?.getD [])[l]?.getD 0) = s.head * z := hz3
        rw [hz4]
        have hn : s.head ≠ 0 := fun e => nz (by rw [e]; rfl)
        rw [Int.mul_fdiv_cancel_left _ hn]
theorem wsA_ok {R0 : List (List Int)} {m n : Nat} (h1 : R0.length = m) (h2 : ∀ r ∈ R0, r.length = n) : ∀ p, p ≤ n → WsI R0 m n p (wsA R0 p)
  | 0, _ => ⟨h1, h2, _, Wk.start (toM R0) m n _⟩
  | p + 1, h => (wsA_ok h1 h2 p (by omega)).step (by omega)
/-- the determinant as the program has it -/
def detW (R : List (List Int)) : Int := if (wsA R R.length).places.length < R.length then 0 else if (wsA R R.length).turns % 2 = 0 then (wsA R R.length).head else -(wsA R R.length).head
theorem detW_ok {R : List (List Int)} (h : ∀ r ∈ R, r.length = R.length) : ((detW R : Int) : Rat) = det R.length (toM R) := by
  obtain ⟨len, wid, σ, wk⟩ := wsA_ok rfl h R.length (Nat.le_refl _)
  have km := wk.st.km
  unfold detW
  split
  · rename_i q
    rw [wk.less q]; rfl
  · rename_i q
    have e : (wsA R R.length).places.length = R.length := by omega
    rw [e] at wk
    rw [wk.full]
    unfold sg
    split
    · rw [Rat.one_mul]
    · rw [Rat.intCast_neg]
      grind
end Dt
end Tk

namespace Tk
open PySem PySem.Spec PyProof.Rows L2 ClX
abbrev sRowWith : Stmt := top 23
abbrev sTakenOff : Stmt := top 24
/-! ## rows of whole numbers -/
def IntsAt (H : Hp) (a : Addr) (q : List Int) : Prop := H a = some (.lst (q.map V.int))
def WRs (H : Hp) : List V → List (List Int) → Prop
  | [], [] => True
  | x :: xs, q :: qs => (∃ a, x = .ref a ∧ IntsAt H a q) ∧ WRs H xs qs
  | _, _ => False
theorem wrs_s {H H' : Hp} (e : Same H H') : ∀ {xs : List V} {qs : List (List Int)}, WRs H xs qs → WRs H' xs qs
  | [], [], _ => trivial
  | _ :: _, _ :: _, ⟨⟨a, h1, h2⟩, h⟩ => ⟨⟨a, h1, e _ _ h2⟩, wrs_s e h⟩
  | [], _ :: _, h => h.elim
  | _ :: _, [], h => h.elim
theorem wrs_at {H : Hp} : ∀ {xs : List V} {qs : List (List Int)}, WRs H xs qs → xs.length = qs.length ∧ ∀ (i : Nat) (q : List Int), qs[i]? = some q → ∃ a, xs[i]? = some (V.ref a) ∧ IntsAt H a q
  | [], [], _ => ⟨rfl, fun i q h => nomatch h⟩
  | x :: xs, q :: qs, ⟨⟨a, h1, h2⟩, h⟩ => by
    obtain ⟨e, f⟩ := wrs_at h
    refine ⟨by rw [List.length_cons, List.length_cons, e], fun i z hz => ?_⟩
    cases i with
    | zero => cases hz; exact ⟨a, by rw [h1]; rfl, h2⟩
    | succ i => exact f i z hz
  | [], _ :: _, h => h.elim
  | _ :: _, [], h => h.elim
theorem wrs_app {H : Hp} : ∀ {xs ys : List V} {qs rs : List (List Int)}, WRs H xs qs → WRs H ys rs → WRs H (xs ++ ys) (qs ++ rs)
  | [], _, [], _, _, h => h
  | _ :: _, _, _ :: _, _, ⟨h1, h2⟩, h => ⟨h1, wrs_app h2 h⟩
  | [], _, _ :: _, _, h, _ => h.elim
  | _ :: _, _, [], _, h, _ => h.elim
theorem wrs_take {H : Hp} : ∀ (k : Nat) {xs : List V} {qs : List (List Int)}, WRs H xs qs → WRs H (xs.take k) (qs.take k)
  | 0, _, _, _ => trivial
  | _ + 1, [], [], _ => trivial
  | k + 1, _ :: _, _ :: _, ⟨h1, h2⟩ => ⟨h1, wrs_take k h2⟩
  | _, [], _ :: _, h => h.elim
  | _, _ :: _, [], h => h.elim
theorem wrs_drop {H : Hp} : ∀ (k : Nat) {xs : List V} {qs : List (List Int)}, WRs H xs qs → WRs H (xs.drop k) (qs.drop k)
  | 0, _, _, h => h
  | _ + 1, [], [], _ => trivial
  | k + 1, _ :: _, _ :: _, ⟨_, h2⟩ => wrs_drop k h2
  | _, [], _ :: _, h => h.elim
  | _, _ :: _, [], h => h.elim
def WTab (H : Hp) (r : Addr) (R : List (List Int)) : Prop := ∃ xs, H r = some (.lst xs) ∧ WRs H xs R
theorem wt_s {H H' : Hp} {r : Addr} {R : List (List Int)} (h : WTab H r R) (e : Same H H') : WTab H' r R := let ⟨xs, h1, h2⟩ := h; ⟨xs, e _ _ h1, wrs_s e h2⟩
theorem atI_int {q : List Int} {i : Nat} (h : i < q.length) : atI (q.map V.int) (i : Int) = some (.int (q[i]?.getD 0)) := by
  refine atI_nat ?_
  rw [List.getElem?_map, List.getElem?_eq_getElem h]
  rfl
def spRowW (K : PySem.W.Frag) : Sp := fun vs H Q _ => ∃ (r : Addr) (R : List (List Int)) (k p n : Nat), vs = [.ref r, .int k, .int p] ∧ WTab H r R ∧ k ≤ R.length ∧ R.length ≤ 64 ∧ (∀ q ∈ R, q.length = n) ∧ p < n ∧
  Q (match Dt.rowW R p k (R.length - k) with | none => .non | some t => .int (t : Int)) H
def SzI (z : Int) : Prop := z.natAbs.log2 < 4000
def spOffW (K : PySem.W.Frag) : Sp := fun vs H Q _ => ∃ (r l : Addr) (row lead : List Int) (p : Nat) (past : Int), vs = [.ref r, .ref l, .int p, .int past] ∧ IntsAt H r row ∧ IntsAt H l lead ∧ row.length = lead.length ∧ row.length ≤ 64 ∧ p < row.length ∧ (∀ z ∈ row, SzI z) ∧ (∀ z ∈ lead, SzI z) ∧ past ≠ 0 ∧ SzI past ∧
  ∀ H' x, Same H H' → H x = none → IntsAt H' x (Dt.offW row lead p past) → Q (.ref x) H'
section
variable {P : Program} {w : World} {K : PySem.W.Frag} {mg : Str → Option Value} {base : Heap}
abbrev nRowWith : List Str := ["rows", "first", "place", "at"]
theorem sc_rowWith : FnScope nRowWith ["rows", "first", "place"] (defScope sRowWith) := ⟨rfl, rfl, rfl, by decide +kernel, rfl, by decide +kernel, by decide +kernel⟩
theorem ok_rowWith {f : Addr} {fd : FuncData} (F : Fun K "row_with" "row_with" sRowWith f fd) (B : Bl mg) : FnOk P w K mg base CX0 1 f fd ["rows", "first", "place"] (spRowW K) := by
  refine F.ok sc_rowWith (fun vs H Q E h => ?_) (fun cdv A outer s H vs Q E hr h => ?_)
  · obtain ⟨r, R, k, p, n, rfl, _⟩ := h
    rfl
  · obtain ⟨r, R, k, p, n, rfl, ⟨xs, hr1, hW⟩, hk, few, wid, hp, q⟩ := h
    refine ⟨_, pss_cons (ps_for PassesOwn.never rfl (pi_range2 rfl B.range (pa_cons (pv 1) (pa_cons (pe_callB call_len_seq (by rfl) B.len PySem.boot_len (pa_cons (pv 0) pa_nil)) pa_nil))) (pg_name (i := 3) sc_rowWith.nd rfl (Or.inl rfl))
        (pss_one (ps_if (pt_cmpR op_ne (pe_ix ix_list (pe_ix ix_list (pv 0) (pv 3) (fun _ _ => rfl)) (pv 2) (fun _ _ => rfl)) pe_int (nomark _)) (pss_one (ps_ret (pv 3))) pss_nil)))
      (pss_one (ps_ret pe_non)), ?_⟩
    obtain ⟨lx, hx⟩ := wrs_at hW
    refine ⟨_, rfl, _, rfl, r, xs, rfl, .inl (sl_of hr1), _, _, rfl, (by omega), for_range (lo := (k : Int)) (n := ((xs.length : Int) - k).toNat) (fun i σ G => ∃ v3 : Option V, σ = [some (V.ref r), some (V.int k), some (V.int p), v3] ∧ G = H ∧ Dt.rowW R p k (R.length - k) = Dt.rowW R p (k + i) (R.length - (k + i))) ⟨none, rfl, rfl, rfl⟩ ?_ ?_⟩
    · rintro i σ G hi ⟨v3, rfl, rfl, e⟩
      have hi' : k + i < R.length := by omega
      obtain ⟨a, ha, hA⟩ := hx (k + i) _ (List.getElem?_eq_getElem hi')
      have hl : R[k + i].length = n := wid _ (List.getElem_mem hi')
      have at1 : atI xs ((k : Int) + (i : Nat)) = some (.ref a) := by
        rw [show (k : Int) + (i : Nat) = ((k + i : Nat) : Int) by omega]
        exact atI_nat ha
      refine ⟨_, rfl, _, rfl, r, xs, _, _, rfl, rfl, sl_of hr1, at1, _, rfl, a, _, _, _, rfl, rfl, sl_of hA, atI_int (by omega), ?_⟩
      refine ⟨rfl, _, rfl, ?_⟩
      have eg : Dt.gt R (k + i) p = R[k + i][p]?.getD 0 := Dt.gt_row hi'
      have er : Dt.rowW R p (k + i) (R.length - (k + i)) = if Dt.gt R (k + i) p ≠ 0 then some (k + i) else Dt.rowW R p (k + i + 1) (R.length - (k + i + 1)) := by
        rw [show R.length - (k + i) = R.length - (k + i + 1) + 1 by omega]
        rfl
      rw [← eg]
      refine ite2 (fun c => ?_) (fun c => ?_)
      · have c' : Dt.gt R (k + i) p ≠ 0 := fun z => by rw [z] at c; simp at c
        rw [e, er, if_pos c'] at q
        refine ⟨_, rfl, ?_⟩
        rw [show (k : Int) + (i : Nat) = ((k + i : Nat) : Int) by omega]
        exact q
      · have c' : ¬ Dt.gt R (k + i) p ≠ 0 := fun z => c (by simp [z])
        rw [er, if_neg c'] at e
        exact ⟨_, rfl, rfl, e⟩
    · rintro σ G ⟨v3, rfl, rfl, e⟩
      rw [e, show R.length - (k + ((xs.length : Int) - k).toNat) = 0 by omega] at q
      exact q
end
end Tk

namespace Tk
open PySem PySem.Spec PyProof.Rows L2 ClX
section
variable {P : Program} {w : World} {K : PySem.W.Frag} {mg : Str → Option Value} {base : Heap}
abbrev nTakenOff : List Str := ["row", "lead", "place", "past", "head", "number", "here", "there"]
theorem sc_takenOff : FnScope nTakenOff ["row", "lead", "place", "past"] (defScope sTakenOff) := ⟨rfl, rfl, rfl, by decide +kernel, rfl, by decide +kernel, by decide +kernel⟩
abbrev teOff : TE := tOp (rI CDivWN fun i j => .int (i.fdiv j)) (tOp (rI0 fun i j => .int (i - j)) (tOp (rI CMulW fun i j => .int (i * j)) (tVar 4) (tVar 6)) (tOp (rI CMulW fun i j => .int (i * j)) (tVar 5) (tVar 7))) (tVar 3)
theorem ok_takenOff {f : Addr} {fd : FuncData} (F : Fun K "taken_off" "taken_off" sTakenOff f fd) (B : Bl mg) : FnOk P w K mg base CX0 1 f fd ["row", "lead", "place", "past"] (spOffW K) := by
  refine F.ok sc_takenOff (fun vs H Q E h => ?_) (fun cdv A outer s H vs Q E hr h => ?_)
  · obtain ⟨r, l, row, lead, p, past, rfl, _⟩ := h
    rfl
  · obtain ⟨r, l, row, lead, p, past, rfl, hR, hL, le, few, hp, zr, zl, pn, zp, q⟩ := h
    refine ⟨_, pss_cons (ps_asg (pe_tup (pa_cons (pe_ix ix_list (pv 1) (pv 2) (fun _ _ => rfl)) (pa_cons (pe_ix ix_list (pv 0) (pv 2) (fun _ _ => rfl)) pa_nil))) (pg_tup rfl (pgs_cons (pg_name (i := 4) sc_takenOff.nd rfl (Or.inr rfl)) (pgs_cons (pg_name (i := 5) sc_takenOff.nd rfl (Or.inr rfl)) pgs_nil))))
      (pss_one (ps_ret (pe_lc (own := [("here", 6), ("there", 7)]) (g := gTup K 2 (gCons (gName 6) (gCons (gName 7) gNil))) (tt := tYes) (te := teOff) rfl sc_takenOff.nd (ZmX.pi_zipB (by rfl) B.zip (pa_cons (pv 0) (pa_cons (pv 1) pa_nil))) (blkOk_by (N := nTakenOff) (sc := defScope sTakenOff) (by decide +kernel))
        (fun _ _ _ _ _ => pg_tup rfl (pgs_cons (pg_name (i := 6) sc_takenOff.nd rfl (Or.inl rfl)) (pgs_cons (pg_name (i := 7) sc_takenOff.nd rfl (Or.inl rfl)) pgs_nil))) (fun _ _ _ _ _ => pts_nil)
        (fun _ _ _ _ _ => pe_op op_fdivWN (pe_op op_sub (pe_op op_mulW (pv 4) (pv 6)) (pe_op op_mulW (pv 5) (pv 7))) (pv 3))))), ?_⟩
    refine ⟨_, rfl, _, rfl, l, _, _, _, rfl, rfl, sl_of hL, atI_int (by omega), _, rfl, _, rfl, r, _, _, _, rfl, rfl, sl_of hR, atI_int hp, szle (by show 2 ≤ 100000; decide), fun v hv => ?_⟩
    have s1 := same_new (o := .tup [V.int (lead[p]?.getD 0), V.int (row[p]?.getD 0)]) hv
    refine ⟨v, _, rfl, st_of upd_same, rfl, _, _, rfl, _, _, rfl, rfl, ?_⟩
    have hR' := s1 _ _ hR
    have hL' := s1 _ _ hL
    generalize upd H v (.tup [V.int (lead[p]?.getD 0), V.int (row[p]?.getD 0)]) = H1 at s1 hR' hL'
    refine ⟨_, rfl, _, rfl, false, false, r, l, _, _, rfl, sl_of hR', sl_of hL', fun D hD => ?_⟩
    refine ZmX.lc_zipB (H0 := H1) (by rw [List.length_map, List.length_map]; omega) (sl_of hR') (sl_of hL') (fun k G => Same H1 G ∧ IntsAt G D ((Dt.offW row lead p past).take k)) ⟨same_new hD, upd_same⟩ (fun k G _ p => p.1) ?_ ?_
    · rintro i x y T G hx hy ⟨sG, hacc⟩ hT
      have hi : i < row.length := by have := lt_of_at hx; rw [List.length_map] at this; exact this
      have hj : i < lead.length := by omega
      rw [List.getElem?_map, List.getElem?_eq_getElem hi] at hx
      rw [List.getElem?_map, List.getElem?_eq_getElem hj] at hy
      cases hx
      cases hy
      have sT := same_new (o := .tup [V.int row[i], V.int lead[i]]) hT
      have hacc' := sT _ _ hacc
      have ez : (Dt.offW row lead p past)[i]? = some ((lead[p]?.getD 0 * row[i] - row[p]?.getD 0 * lead[i]).fdiv past) := by
        have hz : i < (row.zip lead).length := by rw [List.length_zip]; omega
        unfold Dt.offW
        rw [List.getElem?_map, List.getElem?_eq_getElem hz, List.getElem_zip]
        rfl
      have z1 := zl (lead[p]?.getD 0) (by rw [List.getElem?_eq_getElem (by omega : p < lead.length)]; exact List.getElem_mem _)
      have z2 := zr (row[p]?.getD 0) (by rw [List.getElem?_eq_getElem hp]; exact List.getElem_mem _)
      have z3 := zr row[i] (List.getElem_mem hi)
      have z4 := zl lead[i] (List.getElem_mem hj)
      unfold SzI at z1 z2 z3 z4 zp
      refine ⟨T, _, rfl, st_of upd_same, rfl, _, _, rfl, _, _, rfl, rfl, rfl, ?_⟩
      refine ⟨_, rfl, _, rfl, _, _, rfl, rfl, (by unfold CMulW; omega), _, rfl, _, rfl, _, _, rfl, rfl, (by unfold CMulW; omega), _, _, rfl, rfl, _, rfl, _, _, rfl, rfl, ⟨pn, by omega⟩, ?_⟩
      refine ⟨_, hacc', szlt (by rw [List.length_map, List.length_take]; omega), same_mut (sG.trans sT) hD, ?_⟩
      show IntsAt _ D _
      unfold IntsAt
      rw [take_at ez, List.map_append]
      exact upd_same
    · rintro G ⟨sG, hacc⟩
      have el : (Dt.offW row lead p past).length = (row.map V.int).length := by rw [Dt.offW_len rfl le.symm, List.length_map]
      rw [← el, List.take_length] at hacc
      exact q G D (s1.trans sG) (s1.free hD) hacc
end
end Tk

namespace Tk
open PySem PySem.Spec PyProof.Rows L2
section
variable {X : Cx}
/-- math.lcm of two ints below 2^64 -/
def rLcm : List V → Hp → VK → Prop := fun vs H Q => ∃ a b : Int, vs = [.int a, .int b] ∧ a.natAbs < 2 ^ 64 ∧ b.natAbs < 2 ^ 64 ∧ Q (.int ((Nat.lcm a.natAbs b.natAbs : Nat) : Int)) H
theorem cr_lcm : CallR X (.builtin "math.lcm") rLcm := by
  intro pins s σ H vs us Q I r h
  obtain ⟨a, b, rfl, ha, hb, q⟩ := h
  obtain ⟨t, u, rfl⟩ := Vals.int2 r
  exact PySem.W.mc_lcm ha hb fun _ => ⟨.int _, H, I.tok _, ⟨_, rfl⟩, q⟩
end
end Tk

namespace Tk
open PySem PySem.Spec PyProof.Rows L2 ClX
abbrev sCleared : Stmt := top 22
/-- the least common multiple of the bottoms -/
def lcmQ (qs : List (Int × Int)) : Nat := qs.foldl (fun b q => Nat.lcm b q.2.natAbs) 1
def clearQ (qs : List (Int × Int)) : List Int := qs.map fun q => q.1 * ((lcmQ qs : Nat) : Int).fdiv q.2
theorem lcmQ_take {qs : List (Int × Int)} {k : Nat} {q : Int × Int} (h : qs[k]? = some q) : lcmQ (qs.take (k + 1)) = Nat.lcm (lcmQ (qs.take k)) q.2.natAbs := by
  unfold lcmQ
  rw [take_at h, List.foldl_append]
  rfl
def spCleared (K : PySem.W.Frag) (C : Addr) : Sp := fun vs H Q _ => ∃ (a : Addr) (xs : List V) (qs : List (Int × Int)), vs = [.ref a] ∧ H a = some (.lst xs) ∧ RatsP C H xs qs ∧ qs.length ≤ 64 ∧ (∀ q ∈ qs, 0 < q.2 ∧ q.2.natAbs < 2 ^ 64 ∧ q.1.natAbs.log2 < 100000) ∧ (∀ k, k ≤ qs.length → lcmQ (qs.take k) < 2 ^ 64) ∧
  ∀ H' t l, Same H H' → H l = none → H' t = some (.tup [.ref l, .int (lcmQ qs : Nat)]) → IntsAt H' l (clearQ qs) → Q (.ref t) H'
theorem fdiv_size {a b : Int} (ha : 0 ≤ a) (hb : 0 < b) : (a.fdiv b).natAbs ≤ a.natAbs := by
  rw [Int.fdiv_eq_ediv_of_nonneg _ (by omega)]
  have h0 : 0 ≤ a / b := Int.ediv_nonneg ha (by omega)
  have h1 : a / b ≤ a := Int.ediv_le_self b ha
  omega
section
variable {P : Program} {w : World} {K : PySem.W.Frag} {mg : Str → Option Value} {base : Heap}
abbrev nCleared : List Str := ["row", "bottom", "number"]
theorem sc_cleared : FnScope nCleared ["row"] (defScope sCleared) := ⟨rfl, rfl, rfl, by decide +kernel, rfl, by decide +kernel, by decide +kernel⟩
abbrev teClr (K : PySem.W.Frag) (C : Addr) : TE := tOp (rI CMulW fun i j => .int (i * j)) (tProp C (getSp C "_top") [] E0 (tVar 2)) (tOp (rI CDivWN fun i j => .int (i.fdiv j)) (tVar 1) (tProp C (getSp C "_bottom") [] E0 (tVar 2)))
theorem ok_cleared {f fI C pT gT pB gB : Addr} {fd dI dT dB : FuncData} (F : Fun K "cleared" "cleared" sCleared f fd) (M : RtM K mg C fI dI) (Z : RtP K C pT gT pB gB dT dB) (hlcm : mg "lcm" = some (.builtin "math.lcm")) (B : Bl mg) : FnOk P w K mg base CX0 3 f fd ["row"] (spCleared K C) := by
  have GT : FnOk P w K mg base CX0 1 gT dT ["self"] (getSp C "_top") := ok_rtop Z.FT M.c
  have GB : FnOk P w K mg base CX0 1 gB dB ["self"] (getSp C "_bottom") := ok_rbot Z.FB M.c
  refine F.ok sc_cleared (fun vs H Q E h => ?_) (fun cdv A outer s H vs Q E hr h => ?_)
  · obtain ⟨a, xs, qs, rfl, _⟩ := h
    rfl
  · obtain ⟨a, xs, qs, rfl, ha, hR, few, sz, lz, q⟩ := h
    have hr1 := hr
    refine ⟨_, pss_cons (ps_set (i := 1) sc_cleared.nd rfl (Or.inr rfl) pe_int)
      (pss_cons (ps_for PassesOwn.never rfl (pi_list (pv 0)) (pg_name (i := 2) sc_cleared.nd rfl (Or.inl rfl))
        (pss_one (ps_set (i := 1) sc_cleared.nd rfl (Or.inr rfl) (pe_callBfun cr_lcm (by rfl) hlcm (pa_cons (pv 1) (pa_cons (pe_prop (pv 2) M.c.cl Z.pb GB hr1 Z.bB .nil pass0 rfl) pa_nil))))))
      (pss_one (ps_ret (pe_tup (pa_cons
        (pe_lc (own := [("number", 2)]) (g := gName 2) (tt := tYes) (te := teClr K C) rfl sc_cleared.nd (pi_list (pv 0)) (blkOk_by (N := nCleared) (sc := defScope sCleared) (by decide +kernel)) (fun _ _ _ _ _ => pg_name (i := 2) sc_cleared.nd rfl (Or.inl rfl)) (fun _ _ _ _ _ => pts_nil)
          (fun _ _ _ _ _ => pe_op op_mulW (pe_prop (pv 2) M.c.cl Z.pt GT hr1 Z.bT .nil pass0 rfl) (pe_op op_fdivWN (pv 1) (pe_prop (pv 2) M.c.cl Z.pb GB hr1 Z.bB .nil pass0 rfl))))
        (pa_cons (pv 1) pa_nil)))))), ?_⟩
    obtain ⟨lx, hx⟩ := rats_at hR
    refine ⟨_, rfl, a, rfl, ⟨xs, sl_of ha⟩, for_list (xs := xs) (fun k σ G => G = H ∧ ∃ v2 : Option V, σ = [some (V.ref a), some (V.int (lcmQ (qs.take k) : Nat)), v2]) ⟨rfl, none, rfl⟩ (fun k σ G _ z => by rw [z.1]; exact sl_of ha) ?_ ?_⟩
    · rintro k x σ G hk ⟨rfl, v2, rfl⟩
      have hk' := lt_of_at hk
      have hq : qs[k]? = some (qs[k]'(by omega)) := List.getElem?_eq_getElem (by omega)
      obtain ⟨p, rfl, hp⟩ := hx k x _ hk hq
      obtain ⟨dx, hp⟩ := hp
      obtain ⟨z1, z2, z3⟩ := sz _ (List.mem_of_getElem? hq)
      have lk := lz k (by omega)
      refine ⟨_, rfl, _, rfl, p, dx, _, rfl, hp, p, dx, _, _, rfl, hp, rf_bot _ _, _, _, rfl, (by rw [Int.natAbs_natCast]; exact lk), z2, ?_⟩
      refine ⟨rfl, some (V.ref p), ?_⟩
      rw [lcmQ_take hq, Int.natAbs_natCast]
      rfl
    · rintro σ G ⟨rfl, v2, rfl⟩
      rw [show qs.take xs.length = qs by rw [lx, List.take_length]]
      have lq := lz qs.length (Nat.le_refl _)
      rw [List.take_length] at lq
      have lb : (lcmQ qs).log2 < 64 := by
        by_cases e : lcmQ qs = 0
        · rw [e]; decide
        · exact (Nat.log2_lt e).mpr lq
      refine ⟨_, rfl, a, rfl, ⟨xs, sl_of ha⟩, fun D hD => ?_⟩
      refine lc_list (xs := xs) (fun k G2 => Same G G2 ∧ IntsAt G2 D ((clearQ qs).take k)) ⟨same_new hD, upd_same⟩ (fun k G2 _ z => sl_of (z.1 _ _ ha)) ?_ ?_
      · rintro k x G2 hk ⟨sG, hacc⟩
        have hk' := lt_of_at hk
        have hq : qs[k]? = some (qs[k]'(by omega)) := List.getElem?_eq_getElem (by omega)
        obtain ⟨p, rfl, hp⟩ := hx k x _ hk hq
        obtain ⟨dx, hp⟩ := rat_s hp sG
        obtain ⟨z1, z2, z3⟩ := sz _ (List.mem_of_getElem? hq)
        have zb : (qs[k]'(by omega)).2.natAbs.log2 < 64 := (Nat.log2_lt (by omega)).mpr z2
        have ez : (clearQ qs)[k]? = some ((qs[k]'(by omega)).1 * ((lcmQ qs : Nat) : Int).fdiv (qs[k]'(by omega)).2) := by
          unfold clearQ
          rw [List.getElem?_map, hq]
          rfl
        have zf : (((lcmQ qs : Nat) : Int).fdiv (qs[k]'(by omega)).2).natAbs.log2 < 64 := by
          have := fdiv_size (a := ((lcmQ qs : Nat) : Int)) (b := (qs[k]'(by omega)).2) (by omega) z1
          rw [Int.natAbs_natCast] at this
          by_cases e : (((lcmQ qs : Nat) : Int).fdiv (qs[k]'(by omega)).2).natAbs = 0
          · rw [e]; decide
          · exact (Nat.log2_lt e).mpr (by omega)
        refine ⟨rfl, _, rfl, p, dx, _, rfl, hp, p, dx, _, _, rfl, hp, rf_top _ _, _, rfl, _, rfl, p, dx, _, rfl, hp, p, dx, _, _, rfl, hp, rf_bot _ _, _, _, rfl, rfl, ⟨by omega, by omega⟩, _, _, rfl, rfl, (by unfold CMulW; omega), ?_⟩
        refine ⟨_, hacc, szlt (by rw [List.length_map, List.length_take]; omega), same_mut sG hD, ?_⟩
        show IntsAt _ D _
        unfold IntsAt
        rw [take_at ez, List.map_append]
        exact upd_same
      · rintro G2 ⟨sG, hacc⟩
        have el : (clearQ qs).length = xs.length := by unfold clearQ; rw [List.length_map, lx]
        rw [← el, List.take_length] at hacc
        refine ⟨_, rfl, szle (by show 2 ≤ 100000; decide), fun t ht => ?_⟩
        have st := same_new (o := .tup [V.ref D, V.int (lcmQ qs : Nat)]) ht
        exact q _ t D (sG.trans st) hD upd_same (st _ _ hacc)
end
end Tk

namespace Tk
open PySem PySem.Spec PyProof.Rows L2 ClX
abbrev sInWhole : Stmt := top 25
theorem xr_base {H G : Hp} {a : Addr} (h : H a = none) (e : Same H G) : Same H (xr a a G) := fun b o q => by
  have : b ≠ a := fun z => by rw [z, h] at q; cases q
  exact xr_get this this (e b o q)
theorem wrs_cons {H : Hp} {a : Addr} {xs : List V} {q : List Int} {qs : List (List Int)} (h : IntsAt H a q) (h2 : WRs H xs qs) : WRs H (.ref a :: xs) (q :: qs) := ⟨⟨a, rfl, h⟩, h2⟩
theorem wsS_none {s : Dt.WS} {p : Nat} (h : Dt.rowW s.rows p s.places.length (s.rows.length - s.places.length) = none) : Dt.wsS s p = s := by
  unfold Dt.wsS; rw [h]
theorem wsS_some {s : Dt.WS} {p t : Nat} (h : Dt.rowW s.rows p s.places.length (s.rows.length - s.places.length) = some t) : Dt.wsS s p =
    { rows := Dt.clrW (Dt.movW s.rows s.places.length t) (s.rows[t]?.getD []) s.places.length p s.head, places := s.places ++ [p], head := Dt.gt s.rows t p, turns := s.turns + (t - s.places.length) } := by
  unfold Dt.wsS; rw [h]
/-- what the steps need: the widths and the sizes -/
structure WsOk (R : List (List Int)) (m n : Nat) : Prop where
  len : ∀ p, p ≤ n → (Dt.wsA R p).rows.length = m
  wid : ∀ p, p ≤ n → ∀ q ∈ (Dt.wsA R p).rows, q.length = n
  siz : ∀ p, p ≤ n → ∀ q ∈ (Dt.wsA R p).rows, ∀ z ∈ q, SzI z
  hd0 : ∀ p, p ≤ n → (Dt.wsA R p).head ≠ 0
  hds : ∀ p, p ≤ n → SzI (Dt.wsA R p).head
  pls : ∀ p, p ≤ n → (Dt.wsA R p).places.length ≤ m
  m6 : m ≤ 64
  n6 : n ≤ 64
  first : n = if m = 0 then 0 else (R[0]?.getD []).length
def spInWhole (K : PySem.W.Frag) : Sp := fun vs H Q _ => ∃ (r : Addr) (R : List (List Int)) (m n : Nat), vs = [.ref r] ∧ WTab H r R ∧ WsOk R m n ∧
  ∀ H' t r' pl, Same H H' → H pl = none → H' t = some (.tup [.ref r', .ref pl, .int (Dt.wsA R n).head, .int ((Dt.wsA R n).turns : Nat)]) → WTab H' r' (Dt.wsA R n).rows → H' pl = some (.lst ((Dt.wsA R n).places.map fun j => V.int (j : Nat))) → Q (.ref t) H'
theorem cut_to {xs : List V} {k : Nat} (h : k ≤ xs.length) : cutV xs none (some (k : Int)) = xs.take k := by
  unfold cutV
  have e : HT.sIx xs.length xs.length (some (k : Int)) = min k xs.length := HT.sIx_nat ..
  rw [e]
  show (xs.drop 0).take (min k xs.length - 0) = _
  rw [List.drop_zero, Nat.sub_zero, Nat.min_eq_left h]
theorem cut_from {xs : List V} {k : Nat} : cutV xs (some (k : Int)) none = xs.drop k := by
  unfold cutV
  have e : HT.sIx xs.length 0 (some (k : Int)) = min k xs.length := HT.sIx_nat ..
  rw [e]
  show (xs.drop (min k xs.length)).take (xs.length - min k xs.length) = _
  rw [List.take_of_length_le (by simp)]
  by_cases h : k ≤ xs.length
  · rw [Nat.min_eq_left h]
  · rw [Nat.min_eq_right (by omega), List.drop_of_length_le (by omega), List.drop_of_length_le (by omega)]
theorem cut_mid {xs : List V} {k t : Nat} (h : k ≤ t) (h2 : t ≤ xs.length) : cutV xs (some (k : Int)) (some (t : Int)) = (xs.take t).drop k := by
  unfold cutV
  have e : HT.sIx xs.length 0 (some (k : Int)) = min k xs.length := HT.sIx_nat ..
  have e2 : HT.sIx xs.length xs.length (some (t : Int)) = min t xs.length := HT.sIx_nat ..
  rw [e, e2, Nat.min_eq_left h2, Nat.min_eq_left (by omega), List.drop_take]
section
variable {P : Program} {w : World} {K : PySem.W.Frag} {mg : Str → Option Value} {base : Heap}
abbrev nInWhole : List Str := ["rows", "wide", "places", "head", "turns", "place", "first", "at", "lead", "k", "row"]
theorem sc_inWhole : FnScope nInWhole ["rows"] (defScope sInWhole) := ⟨rfl, rfl, rfl, by decide +kernel, rfl, by decide +kernel, by decide +kernel⟩
abbrev teCl (K : PySem.W.Frag) : TE := tIf (tTest (tOp rEq (tVar 9) (tVar 6))) (tVar 10) (tCall (spOffW K) [] E0 (tCons (tVar 10) (tCons (tVar 8) (tCons (tVar 5) (tCons (tVar 3) tNil)))))
theorem ok_inWhole {f f1 f2 : Addr} {fd fd1 fd2 : FuncData} (F : Fun K "in_whole_steps" "in_whole_steps" sInWhole f fd) (D1 : Df K mg "row_with" sRowWith ["rows", "first", "place"] f1 fd1) (D2 : Df K mg "taken_off" sTakenOff ["row", "lead", "place", "past"] f2 fd2) (B : Bl mg) :
    FnOk P w K mg base CX0 2 f fd ["rows"] (spInWhole K) := by
  have G1 : FnOk P w K mg base CX0 1 f1 fd1 ["rows", "first", "place"] (spRowW K) := ok_rowWith D1.F B
  have G2 : FnOk P w K mg base CX0 1 f2 fd2 ["row", "lead", "place", "past"] (spOffW K) := ok_takenOff D2.F B
  refine F.ok sc_inWhole (fun vs H Q E h => ?_) (fun cdv A outer s H vs Q E hr h => ?_)
  · obtain ⟨r, R, m, n, rfl, _⟩ := h
    rfl
  · obtain ⟨r, R, m, n, rfl, hT, ok, q⟩ := h
    refine ⟨_, C8.pss_cut (ps_set (i := 1) sc_inWhole.nd rfl (Or.inl rfl) (pe_ifExp (pt_truth (pv 0) (fun _ => rfl)) (pe_callB call_len_seq (by rfl) B.len PySem.boot_len (pa_cons (pe_ix ix_list (pv 0) pe_int (fun _ _ => rfl)) pa_nil)) pe_int))
      (pss_cons (ps_asg (pe_tup (pa_cons (pe_lst pa_nil) (pa_cons pe_int (pa_cons pe_int pa_nil)))) (pg_tup rfl (pgs_cons (pg_name (i := 2) sc_inWhole.nd rfl (Or.inl rfl)) (pgs_cons (pg_name (i := 3) sc_inWhole.nd rfl (Or.inr rfl)) (pgs_cons (pg_name (i := 4) sc_inWhole.nd rfl (Or.inl rfl)) pgs_nil)))))
      (pss_cons (ps_for PassesOwn.never rfl (pi_range1 rfl B.range (pa_cons (pv 1) pa_nil)) (pg_name (i := 5) sc_inWhole.nd rfl (Or.inr rfl))
        (pss_cons (ps_set (i := 6) sc_inWhole.nd rfl (Or.inr rfl) (pe_callB call_len_seq (by rfl) B.len PySem.boot_len (pa_cons (pv 2) pa_nil)))
        (pss_cons (ps_set (i := 7) sc_inWhole.nd rfl (Or.inl rfl) (pe_call G1 hr rfl D1.g D1.F.kp D1.b .nil pass0 (pa_cons (pv 0) (pa_cons (pv 6) (pa_cons (pv 5) pa_nil)))))
        (pss_cons (ps_if (pt_cmpR op_isN (pv 7) pe_non (nomark _)) (pss_one ps_continue) pss_nil)
        (pss_cons (ps_set (i := 8) sc_inWhole.nd rfl (Or.inr rfl) (pe_ix ix_list (pv 0) (pv 7) (fun _ _ => rfl)))
        (pss_cons (ps_set (i := 4) sc_inWhole.nd rfl (Or.inl rfl) (pe_op op_sub (pe_op op_add (pv 4) (pv 7)) (pv 6)))
        (pss_cons (ps_set (i := 0) sc_inWhole.nd rfl (Or.inl rfl) (pe_lst (StX.pa_star (pe_slice sl_list (pv 0) po_none (po_some (pv 6))) (pa_cons (pv 8) (StX.pa_star (pe_slice sl_list (pv 0) (po_some (pv 6)) (po_some (pv 7))) (StX.pa_star (pe_slice sl_list (pv 0) (po_some (pe_op op_add (pv 7) pe_int)) po_none) pa_nil))))))
        (pss_cons (ps_setLc (i := 0) (own := [("k", 9), ("row", 10)]) (g := gTup K 2 (gCons (gName 9) (gCons (gName 10) gNil))) (tt := tYes) (te := teCl K) rfl sc_inWhole.nd rfl rfl (sw_true rfl rfl rfl (by decide +kernel)) (pi_enum (by rfl) B.enumerate (pa_cons (pv 0) pa_nil)) (blkOk_by (N := nInWhole) (sc := defScope sInWhole) (by decide +kernel))
          (fun _ _ _ _ _ => pg_tup rfl (pgs_cons (pg_name (i := 9) sc_inWhole.nd rfl (Or.inl rfl)) (pgs_cons (pg_name (i := 10) sc_inWhole.nd rfl (Or.inl rfl)) pgs_nil))) (fun _ _ _ _ _ => pts_nil)
          (fun _ _ _ _ _ => pe_ifExp (pt_cmpR op_eq (pv 9) (pv 6) (nomark _)) (pv 10) (pe_call G2 hr rfl D2.g D2.F.kp D2.b .nil pass0 (pa_cons (pv 10) (pa_cons (pv 8) (pa_cons (pv 5) (pa_cons (pv 3) pa_nil)))))))
        (pss_cons (ps_set (i := 3) sc_inWhole.nd rfl (Or.inr rfl) (pe_ix ix_list (pv 8) (pv 5) (fun _ _ => rfl)))
        (pss_one (ps_expr (pe_bm PySem.F.plainAttrs_list PySem.F.slot_list_append PySem.F.type_list_append mt_append (pv 2) (pa_cons (pv 5) pa_nil)))))))))))))
      (pss_one (ps_ret (pe_tup (pa_cons (pv 0) (pa_cons (pv 2) (pa_cons (pv 3) (pa_cons (pv 4) pa_nil))))))))), ?_⟩
    have m6 := ok.m6
    have n6 := ok.n6
    obtain ⟨xs, hr1, hW⟩ := id hT
    obtain ⟨lx, hx⟩ := wrs_at hW
    have lR : R.length = m := ok.len 0 (Nat.zero_le _)
    refine ⟨fun σ' H' => H' = H ∧ σ' = [some (V.ref r), some (V.int (n : Nat)), none, none, none, none, none, none, none, none, none], ?_, ?_⟩
    · refine ⟨_, rfl, _, .inl ⟨xs, sl_of hr1, rfl⟩, ?_⟩
      refine ite2 (fun c => ?_) (fun c => ?_)
      · have m0 : 0 < m := by
          cases xs with
          | nil => simp at c
          | cons x xs => simp at lx; omega
        obtain ⟨a, ha, hA⟩ := hx 0 _ (List.getElem?_eq_getElem (by omega))
        have e : n = R[0].length := by
          have := ok.first
          rw [if_neg (by omega), List.getElem?_eq_getElem (by omega)] at this
          exact this
        refine ⟨_, rfl, r, xs, _, _, rfl, rfl, sl_of hr1, atI_nat (j := 0) ha, a, _, rfl, .inl (sl_of hA), rfl, ?_⟩
        rw [List.length_map, ← e]
        rfl
      · have m0 : m = 0 := by
          cases xs with
          | nil => simp at lx; omega
          | cons x xs => simp at c
        have e : n = 0 := by
          have := ok.first
          rw [if_pos m0] at this
          exact this
        refine ⟨rfl, ?_⟩
        rw [e]
        rfl
    rintro σ' H' ⟨rfl, rfl⟩
    refine ⟨szle (by decide), fun pl hpl => ⟨szle (by show 3 ≤ 100000; decide), fun tt htt => ⟨tt, _, rfl, st_of upd_same, rfl, _, _, rfl, _, _, rfl, _, _, rfl, rfl, ?_⟩⟩⟩
    have npt : pl ≠ tt := fun z => by rw [← z, upd_same] at htt; cases htt
    have s2 := (same_new (o := .lst []) hpl).trans (same_new (o := .tup [V.ref pl, V.int 1, V.int 0]) htt)
    have hpl2 : (upd (upd H' pl (.lst [])) tt (.tup [V.ref pl, V.int 1, V.int 0])) pl = some (.lst []) := by rw [upd_ne npt, upd_same]
    generalize upd (upd H' pl (.lst [])) tt (.tup [V.ref pl, V.int 1, V.int 0]) = H2 at s2 hpl2
    refine ⟨_, rfl, n, rfl, by omega, by omega, for_range (lo := 0) (n := ((n : Nat) : Int).toNat) (fun p σ G => ∃ (rr : Addr) (v5 v6 v7 v8 : Option V), σ = [some (V.ref rr), some (V.int (n : Nat)), some (V.ref pl), some (V.int (Dt.wsA R p).head), some (V.int ((Dt.wsA R p).turns : Nat)), v5, v6, v7, v8, none, none] ∧ Same H' G ∧
      G pl = some (.lst ((Dt.wsA R p).places.map fun j => V.int (j : Nat))) ∧ WTab (xr pl pl G) rr (Dt.wsA R p).rows) ⟨r, none, none, none, none, rfl, s2, hpl2, wt_s hT (xr_base hpl s2)⟩ ?_ ?_⟩
    · rintro p σ G hp ⟨rr, v5, v6, v7, v8, rfl, sG, hpl', hTr⟩
      have hpn : p < n := by omega
      have e0 : (0 : Int) + (p : Nat) = (p : Int) := Int.zero_add _
      have o1 := ok.len p (by omega)
      have o2 := ok.wid p (by omega)
      have o3 := ok.siz p (by omega)
      have o4 := ok.hd0 p (by omega)
      have o5 := ok.hds p (by omega)
      have o6 := ok.pls p (by omega)
      have es : Dt.wsA R (p + 1) = Dt.wsS (Dt.wsA R p) p := rfl
      rw [es, e0]
      generalize Dt.wsA R p = s at *
      refine ⟨_, rfl, pl, _, rfl, .inl (sl_of hpl'), ?_⟩
      rw [List.length_map]
      refine ⟨_, rfl, _, rfl, _, rfl, rr, s.rows, s.places.length, p, n, rfl, wt_s hTr xr_le, by omega, by omega, o2, hpn, ?_⟩
      rcases hw : Dt.rowW s.rows p s.places.length (s.rows.length - s.places.length) with _ | t
      · rw [wsS_none hw]
        refine ⟨_, rfl, ?_⟩
        refine ⟨rfl, _, rfl, iteT ?_⟩
        exact ⟨rr, _, _, _, _, rfl, sG, hpl', hTr⟩
      · obtain ⟨t1, t2, t3⟩ := Dt.rowW_some hw
        rw [wsS_some hw]
        have et : ((s.turns : Nat) : Int) + (t : Nat) - (s.places.length : Nat) = ((s.turns + (t - s.places.length) : Nat) : Int) := by omega
        refine ⟨_, rfl, ?_⟩
        obtain ⟨xr_, hrr, hWr⟩ := id hTr
        obtain ⟨lxr, hxr⟩ := wrs_at hWr
        have tl : t < s.rows.length := by omega
        obtain ⟨la, hla, hLA⟩ := hxr t _ (List.getElem?_eq_getElem tl)
        refine ⟨rfl, _, rfl, iteF ?_⟩
        refine ⟨_, rfl, _, rfl, rr, xr_, _, _, rfl, rfl, sl_of (xr_le _ _ hrr), atI_nat hla, ?_⟩
        refine ⟨_, rfl, _, rfl, _, _, rfl, rfl, _, rfl, _, _, rfl, rfl, ?_⟩
        show gName 4 (V.int (((s.turns : Nat) : Int) + (t : Nat) - (s.places.length : Nat))) _ _ _
        rw [et]
        have hrG := xr_le _ _ hrr
        refine ⟨_, rfl, _, rfl, _, rfl, rr, xr_, rfl, sl_of hrG, fun c1 hc1 => ⟨c1, _, rfl, .inr (sl_of upd_same), _, rfl, ?_⟩⟩
        have sc1 := same_new (o := .lst (cutV xr_ none (some ((s.places.length : Nat) : Int)))) hc1
        generalize upd G c1 _ = Ga at sc1 ⊢
        refine ⟨_, rfl, _, rfl, _, rfl, _, rfl, _, rfl, rr, xr_, rfl, sl_of (sc1 _ _ hrG), fun c2 hc2 => ⟨c2, _, rfl, .inr (sl_of upd_same), ?_⟩⟩
        have sc2 := same_new (o := .lst (cutV xr_ (some ((s.places.length : Nat) : Int)) (some ((t : Nat) : Int)))) hc2
        generalize upd Ga c2 _ = Gb at sc2 ⊢
        have s12 := sc1.trans sc2
        refine ⟨_, rfl, _, rfl, _, _, rfl, rfl, _, rfl, rr, xr_, rfl, sl_of (s12 _ _ hrG), fun c3 hc3 => ⟨c3, _, rfl, .inr (sl_of upd_same), ?_⟩⟩
        have sc3 := same_new (o := .lst (cutV xr_ (some (((t : Nat) : Int) + 1)) none)) hc3
        generalize upd Gb c3 _ = Gc at sc3 ⊢
        have s13 := s12.trans sc3
        have k1 : s.places.length ≤ xr_.length := by omega
        have ec3 : cutV xr_ (some (((t : Nat) : Int) + 1)) none = xr_.drop (t + 1) := cut_from (k := t + 1)
        rw [cut_to k1, cut_mid t1 (by omega), ec3]
        refine ⟨szle (by show (xr_.take s.places.length ++ V.ref la :: ((xr_.take t).drop s.places.length ++ (xr_.drop (t + 1) ++ []))).length ≤ 100000; simp; omega), fun L hL => ?_⟩
        show gName 0 (V.ref L) _ (upd Gc L (.lst (xr_.take s.places.length ++ V.ref la :: ((xr_.take t).drop s.places.length ++ (xr_.drop (t + 1) ++ []))))) _
        rw [List.append_nil]
        obtain ⟨nxs, hnx⟩ : ∃ nxs, nxs = xr_.take s.places.length ++ V.ref la :: ((xr_.take t).drop s.places.length ++ xr_.drop (t + 1)) := ⟨_, rfl⟩
        rw [← hnx]
        have sL := same_new (o := .lst nxs) hL
        have hLL : (upd Gc L (.lst nxs)) L = some (.lst nxs) := upd_same
        have s0 : Same G (upd Gc L (.lst nxs)) := s13.trans sL
        generalize upd Gc L (.lst nxs) = G0 at sL hLL s0 ⊢
        have lead0 : s.rows[t]?.getD [] = s.rows[t] := by rw [List.getElem?_eq_getElem tl]; rfl
        have hWm : WRs (xr pl pl G0) nxs (Dt.movW s.rows s.places.length t) := by
          rw [hnx]
          refine wrs_s (xr_s s0) ?_
          unfold Dt.movW
          rw [lead0]
          exact wrs_app (wrs_take _ hWr) (wrs_cons hLA (wrs_app (wrs_drop _ (wrs_take _ hWr)) (wrs_drop _ hWr)))
        obtain ⟨lnx, hnxs⟩ := wrs_at hWm
        have mlen := Dt.movW_len t1 tl
        have hLA0 := xr_le _ _ (xr_s s0 _ _ hLA)
        have hpl0 := s0 _ _ hpl'
        have llen : s.rows[t].length = n := o2 _ (List.getElem_mem tl)
        refine ⟨_, rfl, L, nxs, rfl, sl_of hLL, fun D hD => ?_⟩
        have nDpl : pl ≠ D := fun z => by rw [← z, hpl0] at hD; cases hD
        refine lc_it (walk_enum (K := K) (a := L) (xs := nxs)) (fun i G' => Same G0 G' ∧ ∃ acc, G' D = some (.lst acc) ∧ WRs (xr pl D G') acc ((Dt.clrW (Dt.movW s.rows s.places.length t) (s.rows[t]?.getD []) s.places.length p s.head).take i)) ⟨same_new hD, [], upd_same, trivial⟩ (fun i G' _ z => sl_of (z.1 _ _ hLL)) ?_ ?_
        · rintro i v G3 G4 hi ⟨sG3, acc, hacc, hA⟩ ⟨T, x, y, rfl, hT, rfl, hx, hy⟩
          cases hx
          have hi' : i < (Dt.movW s.rows s.places.length t).length := by omega
          obtain ⟨a, ha, hIa⟩ := hnxs i _ (List.getElem?_eq_getElem hi')
          have hy' : nxs[i]? = some y := hy
          rw [ha] at hy'
          cases hy'
          have rlen : (Dt.movW s.rows s.places.length t)[i].length = n := o2 _ (Dt.movW_mem tl (List.getElem_mem hi'))
          have rsz := o3 _ (Dt.movW_mem tl (List.getElem_mem hi'))
          have lsz := o3 _ (List.getElem_mem tl)
          have sT := same_new (o := .tup [V.int (i : Nat), V.ref a]) hT
          have nDT : D ≠ T := fun z => by rw [← z, hacc] at hT; cases hT
          have hlt := (wrs_at hA).1
          have hlt2 : acc.length ≤ 64 := by rw [hlt, List.length_take]; omega
          have ez : (Dt.clrW (Dt.movW s.rows s.places.length t) (s.rows[t]?.getD []) s.places.length p s.head)[i]? = some (if i = s.places.length then (Dt.movW s.rows s.places.length t)[i] else Dt.offW (Dt.movW s.rows s.places.length t)[i] s.rows[t] p s.head) := by
            unfold Dt.clrW
            rw [List.getElem?_mapIdx, List.getElem?_eq_getElem hi', lead0]
            rfl
          have fin : ∀ (G5 : Hp) (b : Addr) (rw' : List Int), Same (upd G3 T (.tup [V.int (i : Nat), V.ref a])) G5 → IntsAt (xr pl D G5) b rw' → rw' = (if i = s.places.length then (Dt.movW s.rows s.places.length t)[i] else Dt.offW (Dt.movW s.rows s.places.length t)[i] s.rows[t] p s.head) →
              ∃ acc', G5 D = some (.lst acc') ∧ acc'.length < sizeLine ∧ (Same G0 (upd G5 D (.lst (acc' ++ [V.ref b]))) ∧ ∃ ac, upd G5 D (.lst (acc' ++ [V.ref b])) D = some (.lst ac) ∧ WRs (xr pl D (upd G5 D (.lst (acc' ++ [V.ref b])))) ac ((Dt.clrW (Dt.movW s.rows s.places.length t) (s.rows[t]?.getD []) s.places.length p s.head).take (i + 1))) := fun G5 b rw' s5 hb e => by
            refine ⟨acc, s5 _ _ (sT _ _ hacc), szlt (by omega), same_mut ((sG3.trans sT).trans s5) hD, acc ++ [.ref b], upd_same, ?_⟩
            rw [take_at ez, ← e]
            exact wrs_s xr_up (wrs_app (wrs_s (xr_s (sT.trans s5)) hA) (wrs_cons hb trivial))
          have hIa4 : IntsAt (upd G3 T (.tup [V.int (i : Nat), V.ref a])) a (Dt.movW s.rows s.places.length t)[i] := sT _ _ (sG3 _ _ (xr_le _ _ hIa))
          have hIax : IntsAt (xr pl D (upd G3 T (.tup [V.int (i : Nat), V.ref a]))) a (Dt.movW s.rows s.places.length t)[i] := by
            obtain ⟨n1, _⟩ := xr_ne hIa
            have n2 : a ≠ D := fun z => by
              have := xr_le _ _ hIa
              rw [z, hD] at this
              cases this
            exact xr_get n1 n2 hIa4
          refine ⟨T, _, rfl, st_of upd_same, rfl, _, _, rfl, _, _, rfl, rfl, rfl, ?_⟩
          refine ⟨_, rfl, _, rfl, rfl, _, rfl, ?_⟩
          refine ite2 (fun c => ?_) (fun c => ?_)
          · have c' : i = s.places.length := by simp at c; omega
            exact ⟨_, rfl, fin _ a _ (fun _ _ z => z) hIax (by rw [if_pos c'])⟩
          · have c' : ¬ i = s.places.length := by simp at c; omega
            refine ⟨_, rfl, _, rfl, _, rfl, _, rfl, a, la, _, s.rows[t], p, s.head, rfl, hIa4, sT _ _ (sG3 _ _ hLA0), by omega, by omega, by omega, rsz, lsz, o4, o5, fun G5 b s5 nb hb => ?_⟩
            refine fin G5 b _ s5 (xr_get ?_ ?_ hb) (by rw [if_neg c'])
            · exact fun z => by rw [z, sT _ _ (sG3 _ _ hpl0)] at nb; cases nb
            · exact fun z => by rw [z, sT _ _ hacc] at nb; cases nb
        rintro G' ⟨sG', acc, hacc, hA⟩
        rw [List.take_of_length_le (by rw [Dt.clrW_len]; omega)] at hA
        have hpl1 := sG' _ _ hpl0
        refine ⟨_, rfl, _, rfl, la, _, _, _, rfl, rfl, sl_of (sG' _ _ hLA0), atI_int (by omega), ?_⟩
        refine ⟨_, rfl, .inl ⟨rfl, _, sl_of hpl1⟩, _, rfl, pl, _, _, rfl, rfl, hpl1, szlt (by rw [List.length_map]; omega), ?_⟩
        have nDa : D ≠ pl := fun z => nDpl z.symm
        have sEnd : Same H' (upd G' pl (.lst ((s.places.map fun j => V.int (j : Nat)) ++ [V.int (p : Nat)]))) := fun b o hb => by
          have : b ≠ pl := fun z => by rw [z, hpl] at hb; cases hb
          rw [upd_ne this]
          exact sG' _ _ (s0 _ _ (sG _ _ hb))
        refine ⟨D, some (V.int (p : Nat)), some (V.int (s.places.length : Nat)), some (V.int (t : Nat)), some (V.ref la), ?_, sEnd, ?_, acc, ?_, ?_⟩
        · show _ = [some (V.ref D), some (V.int (n : Nat)), some (V.ref pl), some (V.int (Dt.gt s.rows t p)), some (V.int ((s.turns + (t - s.places.length) : Nat))), some (V.int (p : Nat)), some (V.int (s.places.length : Nat)), some (V.int (t : Nat)), some (V.ref la), none, none]
          rw [Dt.gt_row tl]
          rfl
        · rw [upd_same, List.map_append]
          rfl
        · exact xr_get nDa nDa (by rw [upd_ne nDa]; exact hacc)
        · refine wrs_s (fun b o hb => ?_) hA
          obtain ⟨n1, n2⟩ := xr_ne hb
          exact xr_get n1 n1 (by rw [upd_ne n1]; exact xr_le _ _ hb)
    · rintro σ G ⟨rr, v5, v6, v7, v8, rfl, sG, hpl', hTr⟩
      rw [Int.toNat_natCast] at *
      refine ⟨_, rfl, _, rfl, _, rfl, _, rfl, szle (by show 4 ≤ 100000; decide), fun t ht => ?_⟩
      have st := same_new (o := .tup [V.ref rr, V.ref pl, V.int (Dt.wsA R n).head, V.int ((Dt.wsA R n).turns : Nat)]) ht
      exact q _ t rr pl (sG.trans st) hpl upd_same (wt_s hTr (xr_le.trans st)) (st _ _ hpl')
end
end Tk

namespace Tk
open PySem PySem.Spec PyProof.Rows L2 ClX
abbrev sDetOf : Stmt := top 26
def oversQ (z : Int × Int) (bs : List Nat) : Int × Int := bs.foldl (fun (f : Int × Int) (b : Nat) => overQ f ((b : Int), 1)) z
def wsQ (qss : List (List (Int × Int))) : Dt.WS := Dt.wsA (qss.map clearQ) qss.length
def detQ (qss : List (List (Int × Int))) : Int × Int :=
  if (wsQ qss).places.length < qss.length then (0, 1) else oversQ ((if (wsQ qss).turns % 2 = 0 then (wsQ qss).head else -(wsQ qss).head), 1) (qss.map lcmQ)
structure DetOk (n : Nat) (qss : List (List (Int × Int))) : Prop where
  num : ∀ q ∈ qss, ∀ z ∈ q, 0 < z.2 ∧ z.2.natAbs < 2 ^ 64 ∧ z.1.natAbs.log2 < 100000
  lcm : ∀ q ∈ qss, ∀ k, k ≤ q.length → lcmQ (q.take k) < 2 ^ 64
  ws : WsOk (qss.map clearQ) n n
def spDetOf (K : PySem.W.Frag) (C : Addr) : Sp := fun vs H Q _ => ∃ (v : V) (n : Nat) (qss : List (List (Int × Int))), vs = [v] ∧ TabAt K C H v n qss ∧ DetOk n qss ∧ ∀ H' r, Same H H' → RatAt C H' r (detQ qss) → Q (.ref r) H'
theorem lcmQ_pos : ∀ {qs : List (Int × Int)}, (∀ z ∈ qs, 0 < z.2) → 0 < lcmQ qs := by
  intro qs
  unfold lcmQ
  suffices h : ∀ (b : Nat), 0 < b → (∀ z ∈ qs, 0 < z.2) → 0 < qs.foldl (fun b q => Nat.lcm b q.2.natAbs) b by
    exact h 1 (by decide)
  induction qs with
  | nil => intro b hb _; exact hb
  | cons q qs ih =>
    intro b hb h
    have := h q (by simp)
    exact ih _ (Nat.lcm_pos hb (by omega)) fun z hz => h z (List.mem_cons_of_mem _ hz)
theorem over_size {x : Int × Int} {b : Nat} (hx : 0 < x.2) (hb : 0 < b) : 0 < (overQ x ((b : Int), 1)).2 ∧ (overQ x ((b : Int), 1)).2.natAbs ≤ x.2.natAbs * b ∧ (overQ x ((b : Int), 1)).1.natAbs ≤ x.1.natAbs := by
  have b0 : x.2 * (b : Int) ≠ 0 := Int.mul_ne_zero (by omega) (by omega)
  have bp : 0 < x.2 * (b : Int) := Int.mul_pos hx (by omega)
  obtain ⟨k, l, e, e1, e2⟩ := low_fac (t := x.1 * 1) b0
  have c0 := com_ne (t := x.1 * 1) b0
  have cp : 0 < comQ (x.1 * 1) (x.2 * (b : Int)) := by
    unfold comQ
    rw [if_pos bp]
    have := Nat.gcd_pos_of_pos_right (x.1 * 1).natAbs (n := (x.2 * (b : Int)).natAbs) (by omega)
    omega
  have ee : overQ x ((b : Int), 1) = (k, l) := e
  rw [ee]
  have le (c z w : Int) (h : c ≠ 0) (q : w = c * z) : z.natAbs ≤ w.natAbs := by
    rw [q, Int.natAbs_mul]
    exact Nat.le_mul_of_pos_left _ (by omega)
  refine ⟨?_, ?_, ?_⟩
  · show 0 < l
    rw [e2] at bp
    have : ¬ l ≤ 0 := fun h => by
      have := Int.mul_le_mul_of_nonneg_left h (by omega : 0 ≤ comQ (x.1 * 1) (x.2 * (b : Int)))
      rw [Int.mul_zero] at this
      omega
    omega
  · have := le _ _ _ c0 e2
    rw [Int.natAbs_mul, Int.natAbs_natCast] at this
    exact this
  · have := le _ _ _ c0 e1
    rw [Int.mul_one] at this
    exact this
theorem overs_size : ∀ {bs : List Nat} {x : Int × Int}, 0 < x.2 → (∀ b ∈ bs, 0 < b ∧ b < 2 ^ 64) → 0 < (oversQ x bs).2 ∧ (oversQ x bs).2.natAbs ≤ x.2.natAbs * 2 ^ (64 * bs.length) ∧ (oversQ x bs).1.natAbs ≤ x.1.natAbs
  | [], x, hx, _ => ⟨hx, by simp [oversQ], Nat.le_refl _⟩
  | b :: bs, x, hx, h => by
    obtain ⟨h1, h2⟩ := h b (by simp)
    obtain ⟨a1, a2, a3⟩ := over_size hx h1
    obtain ⟨c1, c2, c3⟩ := overs_size (bs := bs) a1 fun z hz => h z (List.mem_cons_of_mem _ hz)
    refine ⟨c1, ?_, Nat.le_trans c3 a3⟩
    refine Nat.le_trans c2 ?_
    rw [List.length_cons, show 64 * (bs.length + 1) = 64 + 64 * bs.length by omega, Nat.pow_add, ← Nat.mul_assoc]
    exact Nat.mul_le_mul_right _ (Nat.le_trans a2 (Nat.mul_le_mul_left _ (by omega)))
theorem overs_take {z : Int × Int} {bs : List Nat} {k b : Nat} (h : bs[k]? = some b) : oversQ z (bs.take (k + 1)) = overQ (oversQ z (bs.take k)) ((b : Int), 1) := by
  unfold oversQ
  rw [take_at h, List.foldl_append]
  rfl
/-- the parts: whole rows and their bottoms -/
def PartsP (H : Hp) : List V → List (List (Int × Int)) → Prop
  | [], [] => True
  | x :: xs, q :: qs => (∃ t l, x = .ref t ∧ H t = some (.tup [.ref l, .int (lcmQ q : Nat)]) ∧ IntsAt H l (clearQ q)) ∧ PartsP H xs qs
  | _, _ => False
theorem parts_s {H H' : Hp} (e : Same H H') : ∀ {xs : List V} {qs : List (List (Int × Int))}, PartsP H xs qs → PartsP H' xs qs
  | [], [], _ => trivial
  | _ :: _, _ :: _, ⟨⟨t, l, h1, h2, h3⟩, h⟩ => ⟨⟨t, l, h1, e _ _ h2, e _ _ h3⟩, parts_s e h⟩
  | [], _ :: _, h => h.elim
  | _ :: _, [], h => h.elim
theorem parts_app {H : Hp} : ∀ {xs ys : List V} {qs rs : List (List (Int × Int))}, PartsP H xs qs → PartsP H ys rs → PartsP H (xs ++ ys) (qs ++ rs)
  | [], _, [], _, _, h => h
  | _ :: _, _, _ :: _, _, ⟨h1, h2⟩, h => ⟨h1, parts_app h2 h⟩
  | [], _, _ :: _, _, h, _ => h.elim
  | _ :: _, _, [], _, h, _ => h.elim
theorem parts_at {H : Hp} : ∀ {xs : List V} {qs : List (List (Int × Int))}, PartsP H xs qs → xs.length = qs.length ∧ ∀ (i : Nat) x, xs[i]? = some x → ∃ q t l, qs[i]? = some q ∧ x = V.ref t ∧ H t = some (.tup [V.ref l, V.int (lcmQ q : Nat)]) ∧ IntsAt H l (clearQ q)
  | [], [], _ => ⟨rfl, fun i q h => nomatch h⟩
  | x :: xs, q :: qs, ⟨⟨t, l, h1, h2, h3⟩, h⟩ => by
    obtain ⟨e, f⟩ := parts_at h
    refine ⟨by rw [List.length_cons, List.length_cons, e], fun i z hz => ?_⟩
    cases i with
    | zero => cases hz; exact ⟨q, t, l, rfl, h1, h2, h3⟩
    | succ i => exact f i z hz
  | [], _ :: _, h => h.elim
  | _ :: _, [], h => h.elim
section
variable {P : Program} {w : World} {K : PySem.W.Frag} {mg : Str → Option Value} {base : Heap}
abbrev nDetOf : List Str := ["table", "parts", "_", "places", "head", "turns", "found", "bottom", "row", "whole"]
theorem sc_detOf : FnScope nDetOf ["table"] (defScope sDetOf) := ⟨rfl, rfl, rfl, by decide +kernel, rfl, by decide +kernel, by decide +kernel⟩
theorem ok_detOf {f f1 fT fC fW fO fI C pT gT pB gB : Addr} {fd fd1 fdT fdC fdW dO dI dT dB : FuncData} (F : Fun K "determinant_of" "determinant_of" sDetOf f fd) (M : RtM K mg C fI dI) (Z : RtP K C pT gT pB gB dT dB) (D1 : Df K mg "is_integer" sIsInt ["value"] f1 fd1)
    (DT : Df K mg "told" sTold0 ["rows"] fT fdT) (GTo : FnOk P w K mg base CX0 5 fT fdT ["rows"] (spToldQ K C)) (DC : Df K mg "cleared" sCleared ["row"] fC fdC) (hlcm : mg "lcm" = some (.builtin "math.lcm")) (DW : Df K mg "in_whole_steps" sInWhole ["rows"] fW fdW) (GW : FnOk P w K mg base CX0 2 fW fdW ["rows"] (spInWhole K))
    (mO : Meth K C "over" fO) (GO : FnOk P w K mg base CX0 5 fO dO ["self", "other"] (spOver C)) (bO : Binds K dO ["self", "other"] []) (B : Bl mg) : FnOk P w K mg base CX0 6 f fd ["table"] (spDetOf K C) := by
  have GC : FnOk P w K mg base CX0 3 fC fdC ["row"] (spCleared K C) := ok_cleared DC.F M Z hlcm B
  have GI : FnOk P w K mg base CX0 2 fI dI ["self", "top", "bottom"] (spRInit C) := ok_rinit M.FI M.c D1 B
  obtain ⟨tk, b1⟩ := M.bI1
  refine F.ok sc_detOf (fun vs H Q E h => ?_) (fun cdv A outer s H vs Q E hr h => ?_)
  · obtain ⟨v, n, qss, rfl, _⟩ := h
    rfl
  · obtain ⟨v, n, qss, rfl, hT, ok, q⟩ := h
    refine ⟨_, pss_cons (ps_setLc (i := 1) (own := [("row", 8)]) (g := gName 8) (tt := tYes) (te := tCall (spCleared K C) [] E0 (tCons (tVar 8) tNil)) rfl sc_detOf.nd rfl rfl (sw_true rfl rfl rfl (by decide +kernel)) (pi_list (pe_call GTo hr rfl DT.g DT.F.kp DT.b .nil pass0 (pa_cons (pv 0) pa_nil))) (blkOk_by (N := nDetOf) (sc := defScope sDetOf) (by decide +kernel))
        (fun _ _ _ _ _ => pg_name (i := 8) sc_detOf.nd rfl (Or.inl rfl)) (fun _ _ _ _ _ => pts_nil)
        (fun _ _ _ _ _ => pe_call GC (hr.mono (by decide)) rfl DC.g DC.F.kp DC.b .nil pass0 (pa_cons (pv 8) pa_nil)))
      (pss_cons (ps_asg (pe_call GW (hr.mono (by decide)) rfl DW.g DW.F.kp DW.b .nil pass0 (pa_cons
          (pe_lc (own := [("whole", 9), ("_", 2)]) (g := gTup K 2 (gCons (gName 9) (gCons (gName 2) gNil))) (tt := tYes) (te := tVar 9) rfl sc_detOf.nd (pi_list (pv 1)) (blkOk_by (N := nDetOf) (sc := defScope sDetOf) (by decide +kernel))
            (fun _ _ _ _ _ => pg_tup rfl (pgs_cons (pg_name (i := 9) sc_detOf.nd rfl (Or.inl rfl)) (pgs_cons (pg_name (i := 2) sc_detOf.nd rfl (Or.inl rfl)) pgs_nil))) (fun _ _ _ _ _ => pts_nil) (fun _ _ _ _ _ => pv 9)) pa_nil))
          (pg_tup rfl (pgs_cons (pg_name (i := 2) sc_detOf.nd rfl (Or.inl rfl)) (pgs_cons (pg_name (i := 3) sc_detOf.nd rfl (Or.inl rfl)) (pgs_cons (pg_name (i := 4) sc_detOf.nd rfl (Or.inl rfl)) (pgs_cons (pg_name (i := 5) sc_detOf.nd rfl (Or.inl rfl)) pgs_nil))))))
      (pss_cons (ps_if (pt_cmpR op_lt (pe_callB call_len_seq (by rfl) B.len PySem.boot_len (pa_cons (pv 3) pa_nil)) (pe_callB call_len_seq (by rfl) B.len PySem.boot_len (pa_cons (pv 1) pa_nil)) (nomark _))
        (pss_one (ps_ret (pe_make M.mkr GI (hr.mono (by decide)) rfl M.c.mgC b1 (dvs := [V.int 1]) (.cons ⟨tk, rfl⟩ .nil) pass0 (pa_cons pe_int pa_nil)))) pss_nil)
      (C8.pss_cut (ps_set (i := 6) sc_detOf.nd rfl (Or.inl rfl) (pe_make M.mkr GI (hr.mono (by decide)) rfl M.c.mgC b1 (dvs := [V.int 1]) (.cons ⟨tk, rfl⟩ .nil) pass0 (pa_cons (pe_ifExp (pt_cmpR op_eq (pe_op op_mod (pv 5) pe_int) pe_int (nomark _)) (pv 4) (pe_un un_neg (pv 4))) pa_nil)))
      (pss_cons (ps_for PassesOwn.never rfl (pi_list (pv 1)) (pg_tup rfl (pgs_cons (pg_name (i := 2) sc_detOf.nd rfl (Or.inl rfl)) (pgs_cons (pg_name (i := 7) sc_detOf.nd rfl (Or.inl rfl)) pgs_nil)))
        (pss_one (ps_set (i := 6) sc_detOf.nd rfl (Or.inl rfl) (pe_meth (pv 6) M.c.cl mO GO hr bO .nil pass0 (pa_cons (pv 7) pa_nil)))))
      (pss_one (ps_ret (pv 6))))))), ?_⟩
    have n6 := hT.1
    have ln := hT.2.1
    have lr := hT.2.2.1
    refine ⟨_, rfl, v, n, qss, rfl, hT, fun H1 r s1 _ hRT _ => ?_⟩
    obtain ⟨ys, hy, hRR⟩ := hRT
    have ly := rt_len hRR
    refine ⟨r, rfl, ⟨ys, sl_of hy⟩, fun D hD => ?_⟩
    refine lc_list (xs := ys) (fun k G => Same H1 G ∧ ∃ acc, G D = some (.lst acc) ∧ PartsP (xr D D G) acc (qss.take k)) ⟨same_new hD, [], upd_same, trivial⟩ (fun k G _ z => sl_of (z.1 _ _ hy)) ?_ ?_
    · rintro k x G hk ⟨sG, acc, hacc, hP⟩
      obtain ⟨qs, a', zs, hq, rfl, _, hz, hR⟩ := rt_at hRR k x hk
      have hqm := List.mem_of_getElem? hq
      have lz := lr qs hqm
      have fewk := (parts_at hP).1
      have : (qss.take k).length ≤ 6 := by rw [List.length_take]; omega
      refine ⟨rfl, _, rfl, a', zs, qs, rfl, sG _ _ hz, rats_s sG hR, by omega, ok.num qs hqm, ok.lcm qs hqm, fun G2 t l s2 l0 ht hl => ?_⟩
      have hacc2 := s2 _ _ hacc
      have nt : t ≠ D := fun z => by rw [z, hacc2] at ht; cases ht
      have nl : l ≠ D := fun z => by rw [z, hacc] at l0; cases l0
      refine ⟨acc, hacc2, szlt (by omega), same_mut (sG.trans s2) hD, acc ++ [.ref t], upd_same, ?_⟩
      rw [take_at hq]
      exact parts_s xr_up (parts_app (parts_s (xr_s s2) hP) ⟨⟨t, l, rfl, xr_get nt nt ht, xr_get nl nl hl⟩, trivial⟩)
    rintro G ⟨sG, acc, hacc, hP⟩
    rw [show qss.take ys.length = qss by rw [ly, List.take_length]] at hP
    have s2 := s1.trans sG
    obtain ⟨lacc, hpart⟩ := parts_at hP
    -- the whole rows
    refine ⟨_, rfl, D, rfl, ⟨acc, sl_of hacc⟩, fun D2 hD2 => ?_⟩
    refine lc_list (xs := acc) (fun k G2 => Same G G2 ∧ ∃ ac, G2 D2 = some (.lst ac) ∧ WRs (xr D2 D2 G2) ac ((qss.map clearQ).take k)) ⟨same_new hD2, [], upd_same, trivial⟩ (fun k G2 _ z => sl_of (z.1 _ _ hacc)) ?_ ?_
    · rintro k x G2 hk ⟨sG2, ac, hac, hA⟩
      obtain ⟨qs, t, l, hq, rfl, ht, hl⟩ := hpart k x hk
      have ht2 := sG2 _ _ (xr_le _ _ ht)
      have hlG := xr_le _ _ hl
      have nl : l ≠ D2 := fun z => by rw [z, hD2] at hlG; cases hlG
      have fewk := (wrs_at hA).1
      have : ((qss.map clearQ).take k).length ≤ 6 := by rw [List.length_take, List.length_map]; omega
      have ez : (qss.map clearQ)[k]? = some (clearQ qs) := by rw [List.getElem?_map, hq]; rfl
      refine ⟨t, _, rfl, st_of ht2, rfl, _, _, rfl, _, _, rfl, rfl, rfl, ?_⟩
      refine ⟨_, rfl, ac, hac, szlt (by omega), same_mut sG2 hD2, ac ++ [.ref l], upd_same, ?_⟩
      rw [take_at ez]
      exact wrs_s xr_up (wrs_app hA (wrs_cons (xr_get nl nl (sG2 _ _ hlG)) trivial))
    rintro G2 ⟨sG2, ac, hac, hA⟩
    rw [List.take_of_length_le (by rw [List.length_map]; omega)] at hA
    refine ⟨D2, qss.map clearQ, n, n, rfl, ⟨ac, hac, wrs_s xr_le hA⟩, ok.ws, fun H3 t3 r3 pl s3 _ ht3 hT3 hpl3 => ?_⟩
    refine ⟨t3, _, rfl, st_of ht3, rfl, _, _, rfl, _, _, rfl, _, _, rfl, _, _, rfl, rfl, ?_⟩
    have hacc3 := s3 _ _ (sG2 _ _ hacc)
    have s03 : Same H H3 := s2.trans (sG2.trans s3)
    have hds := ok.ws.hds n (Nat.le_refl _)
    refine ⟨_, rfl, pl, _, rfl, .inl (sl_of hpl3), _, rfl, D, _, rfl, .inl (sl_of hacc3), _, _, rfl, rfl, _, rfl, ?_⟩
    rw [List.length_map, lacc]
    have ew : Dt.wsA (qss.map clearQ) n = wsQ qss := by unfold wsQ; rw [ln]
    rw [ew] at hds ⊢
    refine ite2 (fun c => ?_) (fun c => ?_)
    · intro x dx nx ndx nex
      have sm : Same H3 (upd (upd H3 dx (.own x)) x (.ins C dx [])) := fun b o e => by
        rw [upd_ne (ne_of_none e nx), upd_ne (ne_of_none e ndx)]
        exact e
      refine ⟨x, dx, 0, 1, rfl, upd_same, by decide, by decide, fun H' keep hr' => ⟨rfl, ?_⟩⟩
      rw [low_one] at hr'
      have c' : (wsQ qss).places.length < qss.length := by simp at c; omega
      exact q H' x (s03.trans fun b o e => keep b o (ne_of_none e nx) (sm b o e)) (by unfold detQ; rw [if_pos c']; exact hr')
    have c' : ¬ (wsQ qss).places.length < qss.length := by simp at c; omega
    have ed : detQ qss = oversQ ((if (wsQ qss).turns % 2 = 0 then (wsQ qss).head else -(wsQ qss).head), 1) (qss.map lcmQ) := by unfold detQ; rw [if_neg c']
    rw [ed] at q
    obtain ⟨h0, hh⟩ : ∃ h0, h0 = (if (wsQ qss).turns % 2 = 0 then (wsQ qss).head else -(wsQ qss).head) := ⟨_, rfl⟩
    rw [← hh] at q
    have h0s : h0.natAbs.log2 < 4000 := by
      unfold SzI at hds
      rw [hh]
      split
      · exact hds
      · rw [Int.natAbs_neg]; exact hds
    refine ⟨fun σ' H' => ∃ x : Addr, σ' = [some v, some (V.ref D), some (V.ref r3), some (V.ref pl), some (V.int (wsQ qss).head), some (V.int ((wsQ qss).turns : Nat)), some (V.ref x), none, none, none] ∧ Same H3 H' ∧ RatAt C H' x (h0, 1), ?_, ?_⟩
    · have fin : ∀ (i : Int), i = h0 → ∀ x dx, H3 x = none → H3 dx = none → dx ≠ x → spRInit C [.ref x, .int i, .int 1] (upd (upd H3 dx (.own x)) x (.ins C dx [])) (fun u H' => u = .non ∧ Same H3 H' ∧ RatAt C H' x (h0, 1)) E0 := fun i e x dx nx ndx nex => by
        subst e
        have sm : Same H3 (upd (upd H3 dx (.own x)) x (.ins C dx [])) := fun b o e => by
          rw [upd_ne (ne_of_none e nx), upd_ne (ne_of_none e ndx)]
          exact e
        refine ⟨x, dx, i, 1, rfl, upd_same, by decide, by decide, fun H' keep hr' => ⟨rfl, ?_⟩⟩
        rw [low_one] at hr'
        exact ⟨fun b o e => keep b o (ne_of_none e nx) (sm b o e), hr'⟩
      refine ⟨_, rfl, _, _, rfl, rfl, (show (0 : Int) < 2 by decide), rfl, _, rfl, ?_⟩
      refine ite2 (fun c => ?_) (fun c => ?_)
      · have e : (wsQ qss).turns % 2 = 0 := by simp at c; omega
        refine ⟨_, rfl, fun x dx nx ndx nex => ?_⟩
        obtain ⟨p, d, t, b, e1, e2, e3, e4, h⟩ := fin (wsQ qss).head (by rw [hh, if_pos e]) x dx nx ndx nex
        exact ⟨p, d, t, b, e1, e2, e3, e4, fun H' k hr => ⟨rfl, x, rfl, (h H' k hr).2⟩⟩
      · have e : ¬ (wsQ qss).turns % 2 = 0 := by simp at c; omega
        refine ⟨_, rfl, _, rfl, fun x dx nx ndx nex => ?_⟩
        obtain ⟨p, d, t, b, e1, e2, e3, e4, h⟩ := fin (-(wsQ qss).head) (by rw [hh, if_neg e]) x dx nx ndx nex
        exact ⟨p, d, t, b, e1, e2, e3, e4, fun H' k hr => ⟨rfl, x, rfl, (h H' k hr).2⟩⟩
    rintro σ' H4 ⟨x0, rfl, s4, hx0⟩
    have lb : (qss.map lcmQ).length = qss.length := List.length_map ..
    have bsz : ∀ b ∈ qss.map lcmQ, 0 < b ∧ b < 2 ^ 64 := fun b hb => by
      obtain ⟨qs, h1, rfl⟩ := List.mem_map.mp hb
      have := ok.lcm qs h1 qs.length (Nat.le_refl _)
      rw [List.take_length] at this
      exact ⟨lcmQ_pos fun z hz => (ok.num qs h1 z hz).1, this⟩
    have hacc4 := s4 _ _ hacc3
    refine ⟨_, rfl, D, rfl, ⟨acc, sl_of hacc4⟩, for_list (xs := acc) (fun k σ G => ∃ (x : Addr) (v2 v7 : Option V), σ = [some v, some (V.ref D), v2, some (V.ref pl), some (V.int (wsQ qss).head), some (V.int ((wsQ qss).turns : Nat)), some (V.ref x), v7, none, none] ∧ Same H4 G ∧ RatAt C G x (oversQ (h0, 1) ((qss.map lcmQ).take k))) ⟨x0, _, _, rfl, fun _ _ z => z, hx0⟩ (fun k σ G _ z => by
      obtain ⟨_, _, _, _, z, _⟩ := z
      exact sl_of (z _ _ hacc4)) ?_ ?_⟩
    · rintro k y σ G5 hk ⟨x, v2, v7, rfl, s5, hx⟩
      obtain ⟨qs, t, l, hq, rfl, ht, hl⟩ := hpart k y hk
      have ht5 := s5 _ _ (s4 _ _ (s3 _ _ (sG2 _ _ (xr_le _ _ ht))))
      have ez : (qss.map lcmQ)[k]? = some (lcmQ qs) := by rw [List.getElem?_map, hq]; rfl
      obtain ⟨b1, b2⟩ := bsz _ (List.mem_of_getElem? ez)
      have ho := overs_size (bs := (qss.map lcmQ).take k) (x := (h0, 1)) (Int.one_pos) fun b hb => bsz b (List.mem_of_mem_take hb)
      obtain ⟨o1, o2, o3⟩ := ho
      have lt : ((qss.map lcmQ).take k).length ≤ 6 := by rw [List.length_take]; omega
      have lg : ∀ {a e : Nat}, a < 2 ^ e → 0 < e → a.log2 < e := fun {a e} h h' => by
        by_cases z : a = 0
        · rw [z]; simpa using h'
        · exact (Nat.log2_lt z).mpr h
      have o2' : (oversQ (h0, 1) ((qss.map lcmQ).take k)).2.natAbs.log2 < 4000 := by
        refine lg (Nat.lt_of_le_of_lt o2 ?_) (by omega)
        show 1 * 2 ^ (64 * ((qss.map lcmQ).take k).length) < 2 ^ 4000
        rw [Nat.one_mul]
        exact Nat.pow_lt_pow_right (by decide) (by omega)
      have o3' : (oversQ (h0, 1) ((qss.map lcmQ).take k)).1.natAbs.log2 < 100000 := by
        have a1 : (oversQ (h0, 1) ((qss.map lcmQ).take k)).1.natAbs ≤ h0.natAbs := o3
        have := log2_monoR a1 (by omega)
        omega
      have lcl : (lcmQ qs).log2 < 64 := lg b2 (by decide)
      obtain ⟨dx, hx'⟩ := id hx
      refine ⟨t, _, rfl, st_of ht5, rfl, _, _, rfl, _, _, rfl, rfl, ?_⟩
      refine ⟨_, rfl, x, dx, _, rfl, hx', rfl, _, rfl, x, .int (lcmQ qs : Nat), _, ((lcmQ qs : Nat), 1), rfl, hx, .inr ⟨_, rfl, rfl⟩, ⟨o1, o2', o3'⟩, ⟨Int.one_pos, by show (1 : Int).natAbs.log2 < 4000; decide, by show ((lcmQ qs : Nat) : Int).natAbs.log2 < 100000; rw [Int.natAbs_natCast]; omega⟩, by show ((lcmQ qs : Nat) : Int) ≠ 0; omega, by show ((lcmQ qs : Nat) : Int).natAbs.log2 < 4000; rw [Int.natAbs_natCast]; omega, fun G6 r6 s6 hr6 => ?_⟩
      refine ⟨r6, _, _, rfl, s5.trans s6, ?_⟩
      rw [overs_take ez]
      exact hr6
    · rintro G5 σ ⟨x, v2, v7, rfl, s5, hx⟩
      rw [List.take_of_length_le (by omega)] at hx
      exact ⟨_, rfl, q _ x (s03.trans (s4.trans s5)) hx⟩
end
end Tk

namespace Tk
namespace Dt
/-- the bound, a whole number -/
def bdN (B : Nat) : Nat → Nat
  | 0 => 1
  | n + 1 => (n + 1) * (B * bdN B n)
theorem bdN_bdD (B : Nat) : ∀ n, bdD (B : Rat) n = ((bdN B n : Nat) : Rat)
  | 0 => rfl
  | n + 1 => by
    show ((n + 1 : Nat) : Rat) * ((B : Rat) * bdD (B : Rat) n) = (((n + 1) * (B * bdN B n) : Nat) : Rat)
    rw [bdN_bdD B n, Rat.natCast_mul, Rat.natCast_mul]
theorem sz_int (z : Int) : sz (z : Rat) = ((z.natAbs : Nat) : Rat) := by
  unfold sz
  rcases Int.natAbs_eq z with h | h
  · rw [if_neg]
    · conv => lhs; rw [h]
      rfl
    · intro c
      have : z < 0 := Rat.intCast_lt_intCast.mp c
      omega
  · by_cases c : z = 0
    · subst c; rfl
    · have c0 : (z : Rat) < 0 := Rat.intCast_lt_intCast.mpr (by omega : z < 0)
      rw [if_pos c0, ← Rat.intCast_neg]
      have : -z = (z.natAbs : Int) := by omega
      rw [this]; rfl
theorem int_le {z : Int} {N : Nat} (h : sz (z : Rat) ≤ (N : Rat)) : z.natAbs ≤ N := by
  rw [sz_int] at h
  exact Rat.natCast_le_natCast.mp h
theorem le_int {z : Int} {N : Nat} (h : z.natAbs ≤ N) : sz (z : Rat) ≤ (N : Rat) := by
  rw [sz_int]
  exact Rat.natCast_le_natCast.mpr h
theorem gt_mem {R : List (List Int)} {i l : Nat} (hi : i < R.length) (hl : l < R[i].length) : R[i][l] = gt R i l := by
  rw [gt_row hi, List.getElem?_eq_getElem hl]; rfl
theorem ws_sizes {R0 : List (List Int)} {m n : Nat} (h1 : R0.length = m) (h2 : ∀ r ∈ R0, r.length = n) {B : Nat} (hB : 1 ≤ B) (h : ∀ q ∈ R0, ∀ z ∈ q, z.natAbs ≤ B) {p : Nat} (hp : p ≤ n) :
    (∀ q ∈ (wsA R0 p).rows, ∀ z ∈ q, z.natAbs ≤ bdN B m) ∧ (wsA R0 p).head ≠ 0 ∧ (wsA R0 p).head.natAbs ≤ bdN B m ∧ (wsA R0 p).rows.length = m ∧ (∀ q ∈ (wsA R0 p).rows, q.length = n) ∧ (wsA R0 p).places.length ≤ m := by
  obtain ⟨len, wid, σ, wk⟩ := wsA_ok h1 h2 p hp
  have km := wk.st.km
  have b1 : (1 : Rat) ≤ (B : Rat) := by
    have : (1 : Rat) = ((1 : Nat) : Rat) := rfl
    rw [this]
    exact Rat.natCast_le_natCast.mpr hB
  have hA : ∀ i, i < m → ∀ l, l < n → sz ((fun i => toM R0 (σ i)) i l) ≤ (B : Rat) := fun i hi l hl => by
    have hs := wk.per i hi
    show sz ((gt R0 (σ i) l : Int) : Rat) ≤ _
    refine le_int ?_
    have hl' : l < (R0[σ i]'(by omega)).length := by rw [h2 _ (List.getElem_mem _)]; exact hl
    rw [← gt_mem (by omega) hl']
    exact h _ (List.getElem_mem _) _ (List.getElem_mem _)
  refine ⟨fun q hq z hz => ?_, fun e => wk.st.nz (by rw [e]; rfl), ?_, len, wid, km⟩
  · obtain ⟨i, hi, rfl⟩ := List.getElem_of_mem hq
    obtain ⟨l, hl, rfl⟩ := List.getElem_of_mem hz
    rw [gt_mem hi hl]
    have hl' : l < n := by rw [wid _ (List.getElem_mem hi)] at hl; exact hl
    have := wk.st.size b1 hA (i := i) (l := l) (by omega) hl'
    rw [bdN_bdD] at this
    exact int_le this
  · have := det_sz (b := (B : Rat)) (Rat.le_trans (by decide) b1) (n := (wsA R0 p).places.length) (f := at_ (fun i => toM R0 (σ i)) fun j => (wsA R0 p).places[j]?.getD 0) fun i hi j hj => hA i (by omega) _ (wk.st.pl _ hj)
    rw [← wk.st.hd] at this
    have m2 := bdD_mono b1 (wsA R0 p).places.length (m - (wsA R0 p).places.length)
    rw [show (wsA R0 p).places.length + (m - (wsA R0 p).places.length) = m by omega] at m2
    have t := Rat.le_trans this m2
    rw [bdN_bdD] at t
    exact int_le t
/-- rows times numbers -/
def prodR (n : Nat) (c : Nat → Rat) : Rat := match n with
  | 0 => 1
  | n + 1 => c 0 * prodR n fun i => c (i + 1)
theorem det_scale : ∀ (n : Nat) (f : M) (c : Nat → Rat), det n (fun i j => c i * f i j) = prodR n c * det n f
  | 0, _, _ => by show (1 : Rat) = 1 * 1; grind
  | n + 1, f, c => by
    show sumR (n + 1) _ = (c 0 * prodR n fun i => c (i + 1)) * sumR (n + 1) _
    rw [← sumR_mul]
    refine sumR_congr fun j hj => ?_
    have e : det n (mi (fun i j => c i * f i j) j) = prodR n (fun i => c (i + 1)) * det n (mi f j) := det_scale n (mi f j) fun i => c (i + 1)
    rw [e]
    grind
theorem prodR_ne : ∀ {n : Nat} {c : Nat → Rat}, (∀ i, i < n → c i ≠ 0) → prodR n c ≠ 0
  | 0, _, _ => by show (1 : Rat) ≠ 0; decide
  | n + 1, c, h => fun e => by
    rcases Rat.mul_eq_zero.mp e with q | q
    · exact h 0 (by omega) q
    · exact prodR_ne (c := fun i => c (i + 1)) (fun i hi => h (i + 1) (by omega)) q
end Dt
end Tk

namespace Tk
/-! ## determinants of tables of Ratios: mathematics -/
/-- the table as numbers -/
def qM (qss : List (List (Int × Int))) : Dt.M := fun i j => valQ ((qss[i]?.getD [])[j]?.getD (0, 1))
theorem val_div {q : Int × Int} (h : q.2 ≠ 0) : valQ q = (q.1 : Rat) / (q.2 : Rat) := by
  unfold valQ
  exact Rat.divInt_eq_div ..
theorem lcmQ_dvd {qs : List (Int × Int)} : ∀ z ∈ qs, z.2.natAbs ∣ lcmQ qs := by
  unfold lcmQ
  suffices h : ∀ (b : Nat), b ∣ qs.foldl (fun b q => Nat.lcm b q.2.natAbs) b ∧ ∀ z ∈ qs, z.2.natAbs ∣ qs.foldl (fun b q => Nat.lcm b q.2.natAbs) b from (h 1).2
  induction qs with
  | nil => intro b; exact ⟨Nat.dvd_refl _, fun z h => nomatch h⟩
  | cons q qs ih =>
    intro b
    obtain ⟨i1, i2⟩ := ih (Nat.lcm b q.2.natAbs)
    refine ⟨Nat.dvd_trans (Nat.dvd_lcm_left _ _) i1, fun z hz => ?_⟩
    rcases List.mem_cons.mp hz with h | h
    · rw [h]; exact Nat.dvd_trans (Nat.dvd_lcm_right _ _) i1
    · exact i2 z h
theorem lcmQ_of {qs : List (Int × Int)} {D : Nat} (h : ∀ z ∈ qs, z.2.natAbs ∣ D) : lcmQ qs ∣ D := by
  unfold lcmQ
  suffices h : ∀ (b : Nat), b ∣ D → (∀ z ∈ qs, z.2.natAbs ∣ D) → qs.foldl (fun b q => Nat.lcm b q.2.natAbs) b ∣ D from h 1 (Nat.one_dvd _) ‹_›
  clear h
  induction qs with
  | nil => intro b hb _; exact hb
  | cons q qs ih => exact fun b hb h => ih _ (Nat.lcm_dvd hb (h q (by simp))) fun z hz => h z (List.mem_cons_of_mem _ hz)
theorem clear_val {L : Nat} {q : Int × Int} (hq : 0 < q.2) (h : q.2.natAbs ∣ L) : ((q.1 * ((L : Int).fdiv q.2) : Int) : Rat) = (L : Rat) * valQ q := by
  obtain ⟨c, hc⟩ := h
  have e : ((L : Nat) : Int) = q.2 * (c : Int) := by
    rw [hc, Int.natCast_mul]
    have : ((q.2.natAbs : Nat) : Int) = q.2 := by omega
    rw [this]
  have ef : ((L : Nat) : Int).fdiv q.2 = (c : Int) := by rw [e, Int.mul_fdiv_cancel_left _ (by omega)]
  rw [ef, val_div (by omega)]
  have eL : (L : Rat) = (q.2 : Rat) * (c : Rat) := by
    have : ((L : Nat) : Rat) = (((L : Nat) : Int) : Rat) := rfl
    rw [this, e, Rat.intCast_mul]; rfl
  have nz : (q.2 : Rat) ≠ 0 := fun z => by
    have := Rat.intCast_eq_zero_iff.mp z
    omega
  have := Rat.mul_inv_cancel _ nz
  rw [eL, Rat.intCast_mul, Rat.div_def]
  show (q.1 : Rat) * (c : Rat) = _
  grind
theorem over_val {x : Int × Int} {b : Nat} (hx : x.2 ≠ 0) (hb : 0 < b) : valQ (overQ x ((b : Int), 1)) * (b : Rat) = valQ x := by
  have b0 : x.2 * (b : Int) ≠ 0 := Int.mul_ne_zero hx (by omega)
  unfold overQ
  rw [val_low b0, Rat.divInt_eq_div, val_div hx, Rat.intCast_mul, Rat.intCast_mul, Rat.div_def, Rat.div_def]
  have e : (((b : Nat) : Int) : Rat) = (b : Rat) := rfl
  have n1 : (b : Rat) ≠ 0 := fun z => by
    have : ((b : Nat) : Int) = 0 := Rat.intCast_eq_zero_iff.mp z
    omega
  have n2 : (x.2 : Rat) ≠ 0 := fun z => hx (Rat.intCast_eq_zero_iff.mp z)
  have i1 := Rat.mul_inv_cancel _ n1
  have i2 := Rat.mul_inv_cancel _ n2
  have i3 := Rat.mul_inv_cancel _ (show (x.2 : Rat) * (b : Rat) ≠ 0 from fun z => (Rat.mul_eq_zero.mp z).elim n2 n1)
  rw [e]
  show (x.1 : Rat) * ((1 : Int) : Rat) * ((x.2 : Rat) * (b : Rat))⁻¹ * (b : Rat) = (x.1 : Rat) * (x.2 : Rat)⁻¹
  have one : ((1 : Int) : Rat) = 1 := rfl
  rw [one]
  generalize ((x.2 : Rat) * (b : Rat))⁻¹ = u at *
  generalize (x.2 : Rat)⁻¹ = v at *
  grind
theorem low_over {x : Int × Int} {b : Nat} (hx : x.2 ≠ 0) (hb : 0 < b) : LowQ (overQ x ((b : Int), 1)) := low_low (Int.mul_ne_zero hx (by show ((b : Nat) : Int) ≠ 0; omega))
theorem overs_val : ∀ {bs : List Nat} {x : Int × Int}, LowQ x → (∀ b ∈ bs, 0 < b) → LowQ (oversQ x bs) ∧ valQ (oversQ x bs) * Dt.prodR bs.length (fun i => ((bs[i]?.getD 1 : Nat) : Rat)) = valQ x
  | [], x, hx, _ => ⟨hx, by show valQ x * 1 = _; grind⟩
  | b :: bs, x, hx, h => by
    have hb := h b (by simp)
    obtain ⟨i1, i2⟩ := overs_val (bs := bs) (low_over (x := x) hx.ne hb) fun z hz => h z (List.mem_cons_of_mem _ hz)
    refine ⟨i1, ?_⟩
    show valQ (oversQ (overQ x ((b : Int), 1)) bs) * ((b : Rat) * Dt.prodR bs.length fun i => ((bs[i]?.getD 1 : Nat) : Rat)) = _
    have o := over_val (x := x) (b := b) hx.ne hb
    grind
/-- the determinant that the program finds is that of the numbers -/
theorem detQ_ok {n : Nat} {qss : List (List (Int × Int))} (hl : qss.length = n) (hw : ∀ q ∈ qss, q.length = n) (hp : ∀ q ∈ qss, ∀ z ∈ q, 0 < z.2) : LowQ (detQ qss) ∧ valQ (detQ qss) = Dt.det n (qM qss) := by
  have lR : (qss.map clearQ).length = n := by rw [List.length_map]; exact hl
  have wR : ∀ r ∈ qss.map clearQ, r.length = (qss.map clearQ).length := fun r hr => by
    obtain ⟨q, h1, rfl⟩ := List.mem_map.mp hr
    rw [lR]
    unfold clearQ
    rw [List.length_map]
    exact hw q h1
  have D := Dt.detW_ok wR
  rw [lR] at D
  have sc : Dt.det n (Dt.toM (qss.map clearQ)) = Dt.det n (fun i j => (((qss.map lcmQ)[i]?.getD 1 : Nat) : Rat) * qM qss i j) := Dt.det_congr fun i hi j hj => by
    have hi' : i < qss.length := by omega
    have hq := hw _ (List.getElem_mem hi')
    have hj' : j < qss[i].length := by omega
    unfold Dt.toM Dt.gt qM
    rw [List.getElem?_map, List.getElem?_map, List.getElem?_eq_getElem hi']
    show ((((clearQ qss[i])[j]?).getD 0 : Int) : Rat) = ((lcmQ qss[i] : Nat) : Rat) * valQ ((qss[i][j]?).getD (0, 1))
    have ez : (clearQ qss[i])[j]? = some (qss[i][j].1 * ((lcmQ qss[i] : Nat) : Int).fdiv qss[i][j].2) := by
      unfold clearQ
      rw [List.getElem?_map, List.getElem?_eq_getElem hj']
      rfl
    rw [ez, List.getElem?_eq_getElem hj']
    exact clear_val (hp _ (List.getElem_mem hi') _ (List.getElem_mem hj')) (lcmQ_dvd _ (List.getElem_mem hj'))
  rw [sc, Dt.det_scale] at D
  have bp : ∀ b ∈ qss.map lcmQ, 0 < b := fun b hb => by
    obtain ⟨q, h1, rfl⟩ := List.mem_map.mp hb
    exact lcmQ_pos (hp q h1)
  have pn : Dt.prodR n (fun i => (((qss.map lcmQ)[i]?.getD 1 : Nat) : Rat)) ≠ 0 := Dt.prodR_ne fun i hi e => by
    have hi' : i < (qss.map lcmQ).length := by rw [List.length_map]; omega
    rw [List.getElem?_eq_getElem hi'] at e
    have h1 := bp _ (List.getElem_mem hi')
    have : (((qss.map lcmQ)[i] : Nat) : Int) = 0 := Rat.intCast_eq_zero_iff.mp e
    omega
  unfold Dt.detW at D
  rw [lR] at D
  have ew : Dt.wsA (qss.map clearQ) n = wsQ qss := by unfold wsQ; rw [hl]
  rw [ew] at D
  unfold detQ
  rw [hl]
  split
  · rename_i c
    rw [if_pos c] at D
    refine ⟨⟨by decide, by decide⟩, ?_⟩
    rw [val_0]
    have : Dt.prodR n (fun i => (((qss.map lcmQ)[i]?.getD 1 : Nat) : Rat)) * Dt.det n (qM qss) = 0 := D.symm
    rcases Rat.mul_eq_zero.mp this with q | q
    · exact absurd q pn
    · exact q.symm
  · rename_i c
    rw [if_neg c] at D
    have L1 : LowQ ((if (wsQ qss).turns % 2 = 0 then (wsQ qss).head else -(wsQ qss).head), 1) := ⟨Int.one_pos, by simp⟩
    obtain ⟨o1, o2⟩ := overs_val L1 bp
    refine ⟨o1, ?_⟩
    rw [List.length_map, hl] at o2
    have vx : valQ ((if (wsQ qss).turns % 2 = 0 then (wsQ qss).head else -(wsQ qss).head), 1) = ((if (wsQ qss).turns % 2 = 0 then (wsQ qss).head else -(wsQ qss).head : Int) : Rat) := by
      rw [val_div (by show (1 : Int) ≠ 0; decide)]
      have one : ((1 : Int) : Rat) = 1 := rfl
      show _ / ((1 : Int) : Rat) = _
      rw [one, Rat.div_def]
      grind
    rw [vx, D] at o2
    generalize Dt.prodR n (fun i => (((qss.map lcmQ)[i]?.getD 1 : Nat) : Rat)) = p at *
    have := Rat.mul_inv_cancel _ pn
    have e : (valQ (oversQ ((if (wsQ qss).turns % 2 = 0 then (wsQ qss).head else -(wsQ qss).head), 1) (qss.map lcmQ)) - Dt.det n (qM qss)) * p = 0 := by grind
    rcases Rat.mul_eq_zero.mp e with q | q
    · grind
    · exact absurd q pn
end Tk

namespace Tk
open PySem PySem.Spec PyProof.Rows L2 ClX
abbrev sCrossed : Stmt := top 48
/-! ## the law's own determinant, by the first row -/
def minQ (T : List (List (Int × Int))) (j : Nat) : List (List (Int × Int)) := (T.drop 1).map fun row => row.take j ++ row.drop (j + 1)
def crossS (f : Nat → Int × Int) (row : List (Int × Int)) : Nat → Int × Int
  | 0 => (0, 1)
  | j + 1 => if (row[j]?.getD (0, 1)).1 = 0 then crossS f row j else if j % 2 = 0 then addQ (crossS f row j) (mulQ (row[j]?.getD (0, 1)) (f j)) else subQ (crossS f row j) (mulQ (row[j]?.getD (0, 1)) (f j))
def crossQ : Nat → List (List (Int × Int)) → Int × Int
  | 0, _ => (1, 1)
  | n + 1, T => crossS (fun j => crossQ n (minQ T j)) (T[0]?.getD []) (n + 1)
def CrossOk : Nat → List (List (Int × Int)) → Prop
  | 0, _ => True
  | n + 1, T => ∀ j, j < n + 1 → ((T[0]?.getD [])[j]?.getD (0, 1)).1 ≠ 0 → CrossOk n (minQ T j) ∧ Small ((T[0]?.getD [])[j]?.getD (0, 1)) ∧ Small (crossQ n (minQ T j)) ∧ Small (mulQ ((T[0]?.getD [])[j]?.getD (0, 1)) (crossQ n (minQ T j))) ∧ Small (crossS (fun j => crossQ n (minQ T j)) (T[0]?.getD []) j)
def spCross (K : PySem.W.Frag) (n : Nat) : Sp := fun vs H Q _ => ∃ (r : Addr) (T : List (List (Int × Int))), vs = [.ref r] ∧ LTab K H r T ∧ T.length = n ∧ (∀ q ∈ T, q.length = n) ∧ n ≤ 6 ∧ CrossOk n T ∧ NewPair K H Q (crossQ n T)
theorem pt_drop1 {K : PySem.W.Frag} {H : Hp} : ∀ {xs : List V} {qs : List (List (Int × Int))}, PtRows K H xs qs → PtRows K H (xs.drop 1) (qs.drop 1)
  | [], [], _ => trivial
  | _ :: _, _ :: _, ⟨_, h⟩ => h
  | [], _ :: _, h => h.elim
  | _ :: _, [], h => h.elim
theorem prs_take {K : PySem.W.Frag} {H : Hp} : ∀ (k : Nat) {xs : List V} {qs : List (Int × Int)}, PrsP K H xs qs → PrsP K H (xs.take k) (qs.take k)
  | 0, _, _, _ => trivial
  | _ + 1, [], [], _ => trivial
  | k + 1, _ :: _, _ :: _, ⟨h1, h2⟩ => ⟨h1, prs_take k h2⟩
  | _, [], _ :: _, h => h.elim
  | _, _ :: _, [], h => h.elim
theorem prs_drop {K : PySem.W.Frag} {H : Hp} : ∀ (k : Nat) {xs : List V} {qs : List (Int × Int)}, PrsP K H xs qs → PrsP K H (xs.drop k) (qs.drop k)
  | 0, _, _, h => h
  | _ + 1, [], [], _ => trivial
  | k + 1, _ :: _, _ :: _, ⟨_, h2⟩ => prs_drop k h2
  | _, [], _ :: _, h => h.elim
  | _, _ :: _, [], h => h.elim
theorem plainPC : ∀ ps : List (Int × Int), PyData.canLayAll0 (ps.map dP) = true
  | [] => rfl
  | p :: ps => by
    show (PyData.canLay0 (dP p) && PyData.canLayAll0 (ps.map dP)) = true
    rw [plainPC ps]; rfl
theorem depthPC : ∀ ps : List (Int × Int), PyData.depthAll (ps.map dP) ≤ 3
  | [] => by simp [PyData.depthAll]
  | p :: ps => by
    have h := depthPC ps
    have h2 : PyData.depth (dP p) ≤ 3 := by simp [dP, PyData.depth, PyData.depthAll]
    simp only [List.map_cons, PyData.depthAll]
    omega
theorem plainPPC : ∀ ps : List (List (Int × Int)), PyData.canLayAll0 (ps.map fun qs => .list (qs.map dP)) = true
  | [] => rfl
  | p :: ps => by
    show (PyData.canLay0 (.list (p.map dP)) && PyData.canLayAll0 (ps.map fun qs => .list (qs.map dP))) = true
    rw [plainPPC ps, PyData.canLay0, plainPC]; rfl
theorem depthPPC : ∀ ps : List (List (Int × Int)), PyData.depthAll (ps.map fun qs => .list (qs.map dP)) ≤ 5
  | [] => by simp [PyData.depthAll]
  | p :: ps => by
    have h := depthPPC ps
    have h2 := depthPC p
    simp only [List.map_cons, PyData.depthAll, PyData.depth]
    omega
theorem shaped_tabC (qss : List (List (Int × Int))) : SeqAt.shaped (tabD qss) = true := by
  unfold SeqAt.shaped tabD
  rw [Bool.and_eq_true_iff]
  refine ⟨by rw [PyData.canLay0]; exact plainPPC qss, decide_eq_true ?_⟩
  have := depthPPC qss
  rw [PyData.depth]
  omega
section
variable {P : Program} {w : World} {K : PySem.W.Frag} {mg : Str → Option Value} {base : Heap}
abbrev nCrossed : List Str := ["_law_table_here", "_law_total", "_law_place", "_law_number", "_law_less_here", "_law_row_here"]
theorem sc_crossed : FnScope nCrossed ["_law_table_here"] (defScope sCrossed) := ⟨rfl, rfl, rfl, by decide +kernel, rfl, by decide +kernel, by decide +kernel⟩
abbrev teMin (K : PySem.W.Frag) : TE := tOp rCat (tSl (rSlL K) (tVar 5) tNoPart (tPart (tVar 2))) (tSl (rSlL K) (tVar 5) (tPart (tOp (rI0 fun i j => .int (i + j)) (tVar 2) (tC (.int 1)))) tNoPart)
theorem ok_crossed {f f1 f2 f3 : Addr} {fd fd1 fd2 fd3 : FuncData} (D : Df K mg "_law_crossed" sCrossed ["_law_table_here"] f fd) (D1 : Df K mg "_law_by" sByR ["_law_one", "_law_other"] f1 fd1) (G1 : FnOk P w K mg base CX0 2 f1 fd1 ["_law_one", "_law_other"] (spTwoR K mulQ))
    (D2 : Df K mg "_law_sum" sSumR ["_law_one", "_law_other"] f2 fd2) (G2 : FnOk P w K mg base CX0 2 f2 fd2 ["_law_one", "_law_other"] (spTwoR K addQ)) (D3 : Df K mg "_law_less" sLessR ["_law_one", "_law_other"] f3 fd3) (G3 : FnOk P w K mg base CX0 3 f3 fd3 ["_law_one", "_law_other"] (spTwoR K subQ)) (B : Bl mg) :
    ∀ n, FnOk P w K mg base CX0 (n + 4) f fd ["_law_table_here"] (spCross K n) := by
  intro n
  induction n with
  | zero =>
    refine D.F.ok sc_crossed (fun vs H Q E h => ?_) (fun cdv A outer s H vs Q E hr h => ?_)
    · obtain ⟨r, T, rfl, _⟩ := h
      rfl
    · obtain ⟨r, T, rfl, ⟨xs, hx, hT⟩, hl, _, _, _, q⟩ := h
      refine ⟨_, pss_cons (ps_if (pt_cmpR (op_eqD hr.units) (pv 0) (pe_lst pa_nil) (nomark _)) (pss_one (ps_ret (pe_tup (pa_cons pe_int (pa_cons pe_int pa_nil))))) pss_nil) pss_never, ?_⟩
      have e : T = [] := List.length_eq_zero_iff.mp hl
      subst e
      refine ⟨_, rfl, szle (by decide), fun e he => ?_⟩
      have se := same_new (o := .lst []) he
      refine ⟨tabD [], tabD [], .lst (sl_of (se _ _ hx)) (pt_dps (pt_s se hT)), .lst (sl_of upd_same) .nil, rfl, rfl, _, rfl, ?_⟩
      rw [eqv_tab]
      refine iteT ⟨szle (by show 2 ≤ 100000; decide), fun t ht => ?_⟩
      exact q _ t (se.trans (same_new ht)) (se.free ht) (st_of upd_same)
  | succ n ih =>
    refine D.F.ok sc_crossed (fun vs H Q E h => ?_) (fun cdv A outer s H vs Q E hr h => ?_)
    · obtain ⟨r, T, rfl, _⟩ := h
      rfl
    · obtain ⟨r, T, rfl, ⟨xs, hx, hT⟩, hl, hw, n6, ok, q⟩ := h
      refine ⟨_, pss_cons (ps_if (pt_cmpR (op_eqD hr.units) (pv 0) (pe_lst pa_nil) (nomark _)) (pss_one (ps_ret (pe_tup (pa_cons pe_int (pa_cons pe_int pa_nil))))) pss_nil)
        (pss_cons (ps_set (i := 1) sc_crossed.nd rfl (Or.inl rfl) (pe_tup (pa_cons pe_int (pa_cons pe_int pa_nil))))
        (pss_cons (ps_for PassesOwn.never rfl (pi_enum (by rfl) B.enumerate (pa_cons (pe_ix ix_list (pv 0) pe_int (fun _ _ => rfl)) pa_nil)) (pg_tup rfl (pgs_cons (pg_name (i := 2) sc_crossed.nd rfl (Or.inr rfl)) (pgs_cons (pg_name (i := 3) sc_crossed.nd rfl (Or.inl rfl)) pgs_nil)))
          (pss_one (ps_if (pt_cmpR op_ne (pe_ix ix_tup (pv 3) pe_int (fun _ _ => rfl)) pe_int (nomark _))
            (pss_cons (ps_set (i := 4) sc_crossed.nd rfl (Or.inl rfl) (pe_call G1 (hr.mono (by omega)) rfl D1.g D1.F.kp D1.b .nil pass0 (pa_cons (pv 3) (pa_cons (pe_call ih (hr.mono (by omega)) rfl D.g D.F.kp D.b .nil pass0 (pa_cons
              (pe_lc (own := [("_law_row_here", 5)]) (g := gName 5) (tt := tYes) (te := teMin K) rfl sc_crossed.nd (pi_list (pe_slice sl_list (pv 0) (po_some pe_int) po_none)) (blkOk_by (N := nCrossed) (sc := defScope sCrossed) (by decide +kernel)) (fun _ _ _ _ _ => pg_name (i := 5) sc_crossed.nd rfl (Or.inl rfl)) (fun _ _ _ _ _ => pts_nil)
                (fun _ _ _ _ _ => pe_op op_cat (pe_slice sl_list (pv 5) po_none (po_some (pv 2))) (pe_slice sl_list (pv 5) (po_some (pe_op op_add (pv 2) pe_int)) po_none))) pa_nil)) pa_nil))))
            (pss_one (ps_set (i := 1) sc_crossed.nd rfl (Or.inl rfl) (pe_ifExp (pt_cmpR op_eq (pe_op op_mod (pe_callTy call_int1 (by rfl) B.int PyProof.Rows.boot_int (pa_cons (pv 2) pa_nil)) pe_int) pe_int (nomark _))
              (pe_call G2 (hr.mono (by omega)) rfl D2.g D2.F.kp D2.b .nil pass0 (pa_cons (pv 1) (pa_cons (pv 4) pa_nil))) (pe_call G3 (hr.mono (by omega)) rfl D3.g D3.F.kp D3.b .nil pass0 (pa_cons (pv 1) (pa_cons (pv 4) pa_nil))))))) pss_nil)))
        (pss_one (ps_ret (pv 1))))), ?_⟩
      have Tn : T ≠ [] := fun e => by rw [e] at hl; simp at hl
      obtain ⟨row, hrow⟩ : ∃ row, T[0]? = some row := ⟨T[0]'(by omega), List.getElem?_eq_getElem (by omega)⟩
      have lrow : row.length = n + 1 := hw row (List.mem_of_getElem? hrow)
      have lx : xs.length = T.length := pt_len hT
      obtain ⟨q0, a0, ys, hq0, hx0, ha0, hys⟩ := pt_at hT 0 _ (List.getElem?_eq_getElem (show 0 < xs.length by omega))
      rw [hrow] at hq0
      cases hq0
      have h0x : xs[0]? = some (V.ref a0) := by rw [← hx0]; exact List.getElem?_eq_getElem (by omega)
      obtain ⟨lys, hys'⟩ := prs_at hys
      refine ⟨_, rfl, szle (by decide), fun e he => ?_⟩
      have se := same_new (o := .lst []) he
      refine ⟨tabD T, tabD [], .lst (sl_of (se _ _ hx)) (pt_dps (pt_s se hT)), .lst (sl_of upd_same) .nil, shaped_tabC _, rfl, _, rfl, ?_⟩
      rw [eqv_tab, decide_eq_false Tn]
      refine iteF ⟨szle (by show 2 ≤ 100000; decide), fun t ht => ?_⟩
      have s1 := se.trans (same_new (o := .tup [V.int 0, V.int 1]) ht)
      have ht' : PairAt K (upd (upd H e (.lst [])) t (.tup [V.int 0, V.int 1])) t (0, 1) := st_of upd_same
      generalize upd (upd H e (.lst [])) t (.tup [V.int 0, V.int 1]) = H1 at s1 ht'
      refine ⟨_, rfl, r, xs, _, _, rfl, rfl, sl_of (s1 _ _ hx), atI_nat (j := 0) h0x, a0, ys, rfl, sl_of (s1 _ _ ha0), ?_⟩
      refine for_it (walk_enum (K := K) (a := a0) (xs := ys)) (fun j σ G => ∃ (u : Addr) (v2 v3 v4 : Option V), σ = [some (V.ref r), some (V.ref u), v2, v3, v4, none] ∧ Same H1 G ∧ H u = none ∧ PairAt K G u (crossS (fun j => crossQ n (minQ T j)) row j)) ⟨t, none, none, none, rfl, fun _ _ z => z, se.free ht, ht'⟩ (fun j σ G _ z => by
        obtain ⟨_, _, _, _, _, z, _⟩ := z
        exact sl_of (z _ _ (s1 _ _ ha0))) ?_ ?_
      · rintro j y σ G G' hj ⟨u, v2, v3, v4, rfl, sG, hu0, hu⟩ ⟨tt, x1, y1, rfl, htt, rfl, hx1, hy1⟩
        cases hx1
        obtain ⟨z, p, hz, rfl, hp⟩ := hys' j y1 hy1
        have st := same_new (o := .tup [V.int (j : Nat), V.ref p]) htt
        have hutt := pair_sR hu st
        have sGt := sG.trans st
        have hp' := pair_sR hp (s1.trans sGt)
        refine ⟨tt, _, rfl, st_of upd_same, rfl, _, _, rfl, _, _, rfl, rfl, ?_⟩
        generalize upd G tt (.tup [V.int (j : Nat), V.ref p]) = G1 at hutt sGt hp' ⊢
        have hrz : row[j]?.getD (0, 1) = z := by rw [hz]; rfl
        have eS : crossS (fun j => crossQ n (minQ T j)) row (j + 1) = if z.1 = 0 then crossS (fun j => crossQ n (minQ T j)) row j else if j % 2 = 0 then addQ (crossS (fun j => crossQ n (minQ T j)) row j) (mulQ z (crossQ n (minQ T j))) else subQ (crossS (fun j => crossQ n (minQ T j)) row j) (mulQ z (crossQ n (minQ T j))) := by
          rw [← hrz]; rfl
        rw [eS]
        refine ⟨_, rfl, p, _, _, _, rfl, rfl, hp', rfl, rfl, _, rfl, ?_⟩
        refine ite2 (fun c => ?_) (fun c => ?_)
        · have c' : z.1 ≠ 0 := fun e => by rw [e] at c; simp at c
          rw [if_neg c']
          have hjn : j < n + 1 := by have := lt_of_at hy1; omega
          have okj := ok j hjn (by rw [hrow]; show (row[j]?.getD (0, 1)).1 ≠ 0; rw [hrz]; exact c')
          rw [hrow] at okj
          obtain ⟨k1, k2, k3, k4, k5⟩ := okj
          rw [show (some row).getD [] = row from rfl, hrz] at k2 k4
          rw [show (some row).getD [] = row from rfl] at k5
          have hxG := sGt _ _ (s1 _ _ hx)
          refine ⟨_, rfl, _, rfl, _, rfl, r, xs, rfl, sl_of hxG, fun c1 hc1 => ?_⟩
          have e1 : cutV xs (some (1 : Int)) none = xs.drop 1 := cut_from (k := 1)
          rw [e1]
          have sc := same_new (o := .lst (xs.drop 1)) hc1
          have hcc : (upd G1 c1 (.lst (xs.drop 1))) c1 = some (.lst (xs.drop 1)) := upd_same
          have sGc := sGt.trans sc
          have s1c := s1.trans sGc
          refine ⟨c1, rfl, ⟨_, sl_of hcc⟩, fun D' hD => ?_⟩
          generalize upd G1 c1 (.lst (xs.drop 1)) = Gc at sc hcc sGc s1c hD ⊢
          have hTc : PtRows K Gc (xs.drop 1) (T.drop 1) := pt_drop1 (pt_s s1c hT)
          refine lc_list (xs := xs.drop 1) (fun k G2 => Same Gc G2 ∧ ∃ acc, G2 D' = some (.lst acc) ∧ PtRows K (xr D' D' G2) acc ((minQ T j).take k)) ⟨same_new hD, [], upd_same, trivial⟩ (fun k G2 _ z => sl_of (z.1 _ _ hcc)) ?_ ?_
          · rintro k x G2 hk ⟨s2, acc, hacc, hP⟩
            obtain ⟨qs, b, zs, hq, rfl, hb, hzs⟩ := pt_at hTc k x hk
            have hqT : qs ∈ T := List.mem_of_mem_drop (List.mem_of_getElem? hq)
            have lqs := hw qs hqT
            obtain ⟨lzs, _⟩ := prs_at hzs
            have hb2 := s2 _ _ hb
            have fewk := pt_len hP
            have : ((minQ T j).take k).length ≤ 6 := by unfold minQ; rw [List.length_take, List.length_map, List.length_drop]; omega
            have ez : (minQ T j)[k]? = some (qs.take j ++ qs.drop (j + 1)) := by
              unfold minQ
              rw [List.getElem?_map, hq]
              rfl
            refine ⟨rfl, _, rfl, _, rfl, _, rfl, b, zs, rfl, sl_of hb2, fun c2 hc2 => ?_⟩
            have e2 : cutV zs none (some ((j : Nat) : Int)) = zs.take j := cut_to (by omega)
            rw [e2]
            have sc2 := same_new (o := .lst (zs.take j)) hc2
            refine ⟨_, rfl, _, rfl, _, _, rfl, rfl, _, rfl, b, zs, rfl, sl_of (sc2 _ _ hb2), fun c3 hc3 => ?_⟩
            have e3 : cutV zs (some (((j : Nat) : Int) + 1)) none = zs.drop (j + 1) := cut_from (k := j + 1)
            rw [e3]
            have sc3 := same_new (o := .lst (zs.drop (j + 1))) hc3
            refine ⟨c2, c3, _, _, rfl, rfl, sc3 _ _ upd_same, upd_same, szle (by rw [List.length_take, List.length_drop]; omega), fun c4 hc4 => ?_⟩
            have sc4 := same_new (o := .lst (zs.take j ++ zs.drop (j + 1))) hc4
            have h4 : (upd (upd (upd G2 c2 (.lst (zs.take j))) c3 (.lst (zs.drop (j + 1)))) c4 (.lst (zs.take j ++ zs.drop (j + 1)))) c4 = some (.lst (zs.take j ++ zs.drop (j + 1))) := upd_same
            have s24 := sc2.trans (sc3.trans sc4)
            generalize upd (upd (upd G2 c2 (.lst (zs.take j))) c3 (.lst (zs.drop (j + 1)))) c4 (.lst (zs.take j ++ zs.drop (j + 1))) = G4 at s24 h4 ⊢
            have hacc4 := s24 _ _ hacc
            have hc4D : c4 ≠ D' := fun e => by
              have h2 := sc3 _ _ (sc2 _ _ hacc)
              rw [← e, hc4] at h2
              cases h2
            refine ⟨acc, hacc4, szlt (by omega), same_mut (s2.trans s24) hD, acc ++ [.ref c4], upd_same, ?_⟩
            rw [take_at ez]
            refine pt_s xr_up (pt_app (pt_s (xr_s s24) hP) ⟨⟨c4, _, rfl, xr_get hc4D hc4D h4, ?_⟩, trivial⟩)
            have hzx := prs_sR (xr_base hD (s2.trans s24)) hzs
            exact prs_appR (prs_take j hzx) (prs_drop (j + 1) hzx)
          rintro G2 ⟨s2, acc, hacc, hP⟩
          rw [List.take_of_length_le (by unfold minQ; rw [List.length_map, List.length_drop, List.length_drop]; omega)] at hP
          have lm : (minQ T j).length = n := by unfold minQ; rw [List.length_map, List.length_drop]; omega
          have wm : ∀ qs ∈ minQ T j, qs.length = n := fun qs hq => by
            unfold minQ at hq
            obtain ⟨rw', h1, rfl⟩ := List.mem_map.mp hq
            have := hw rw' (List.mem_of_mem_drop h1)
            rw [List.length_append, List.length_take, List.length_drop]
            omega
          refine ⟨D', minQ T j, rfl, ⟨acc, hacc, pt_s xr_le hP⟩, lm, wm, by omega, k1, fun G3 u3 s3 _ hu3 => ?_⟩
          have sc3 := sc.trans (s2.trans s3)
          refine ⟨p, u3, z, crossQ n (minQ T j), rfl, pair_sR hp' sc3, hu3, k2, k3, fun G4 m s4 _ hm => ?_⟩
          have sc4 := sc3.trans s4
          have hu4 := pair_sR hutt sc4
          have s04 := s1.trans (sGt.trans sc4)
          refine ⟨_, rfl, .inl ⟨_, rfl, _, _, rfl, rfl, (show (0 : Int) < 2 by decide), rfl, _, rfl, ?_⟩⟩
          refine ite2 (fun d => ?_) (fun d => ?_)
          · have d' : j % 2 = 0 := by simp at d; omega
            rw [if_pos d']
            exact ⟨_, rfl, _, rfl, u, m, _, _, rfl, hu4, hm, k5, k4, fun G5 v s5 v0 hv => ⟨v, _, _, _, rfl, sGt.trans (sc4.trans s5), s04.free v0, hv⟩⟩
          · have d' : ¬ j % 2 = 0 := by simp at d; omega
            rw [if_neg d']
            exact ⟨_, rfl, _, rfl, u, m, _, _, rfl, hu4, hm, k5, k4, fun G5 v s5 v0 hv => ⟨v, _, _, _, rfl, sGt.trans (sc4.trans s5), s04.free v0, hv⟩⟩
        · have c' : z.1 = 0 := by simp at c; exact c
          rw [if_pos c']
          exact ⟨u, _, _, _, rfl, sGt, hu0, hutt⟩
      · rintro σ G ⟨u, v2, v3, v4, rfl, sG, hu0, hu⟩
        have eq : crossQ (n + 1) T = crossS (fun j => crossQ n (minQ T j)) row ys.length := by
          show crossS _ (T[0]?.getD []) (n + 1) = _
          rw [hrow, lys, lrow]
          rfl
        rw [← eq] at hu
        exact ⟨_, rfl, q G u (s1.trans sG) hu0 hu⟩
end
end Tk

namespace Tk
theorem low_01 : LowQ (0, 1) := ⟨by decide, by decide⟩
theorem low_11 : LowQ (1, 1) := ⟨by decide, by decide⟩
theorem bd_01 : Bd 1 (0, 1) := ⟨low_01, by decide, by decide⟩
theorem bd_11 : Bd 1 (1, 1) := ⟨low_11, by decide, by decide⟩
theorem crossS_s (f : Nat → Int × Int) (row : List (Int × Int)) (j : Nat) : crossS f row (j + 1) = if (row[j]?.getD (0, 1)).1 = 0 then crossS f row j else if j % 2 = 0 then addQ (crossS f row j) (mulQ (row[j]?.getD (0, 1)) (f j)) else subQ (crossS f row j) (mulQ (row[j]?.getD (0, 1)) (f j)) := rfl
theorem crossS_ok {f : Nat → Int × Int} {row : List (Int × Int)} : ∀ (k : Nat), k ≤ row.length → (∀ q ∈ row, LowQ q) → (∀ j, j < k → LowQ (f j)) → LowQ (crossS f row k) ∧ valQ (crossS f row k) = Dt.sumR k fun j => Dt.sg j * valQ (row[j]?.getD (0, 1)) * valQ (f j)
  | 0, _, _, _ => ⟨low_01, val_0⟩
  | k + 1, hk, hr, hf => by
    obtain ⟨i1, i2⟩ := crossS_ok k (by omega) hr fun j hj => hf j (by omega)
    have lr : LowQ (row[k]?.getD (0, 1)) := by
      rw [List.getElem?_eq_getElem (by omega)]
      exact hr _ (List.getElem_mem _)
    have lf := hf k (by omega)
    have lm := low_mul lr lf
    have vm := val_mul lr.ne lf.ne
    rw [Dt.sumR_s, ← i2, crossS_s]
    split
    · rename_i c
      refine ⟨i1, ?_⟩
      have : valQ (row[k]?.getD (0, 1)) = 0 := by
        rw [val_div lr.ne, c]
        have z : ((0 : Int) : Rat) = 0 := rfl
        rw [z, Rat.div_def]
        grind
      rw [this]
      grind
    · split
      · rename_i d
        refine ⟨low_add i1 lm, ?_⟩
        rw [val_add i1.ne lm.ne, vm]
        unfold Dt.sg
        rw [if_pos d]
        grind
      · rename_i d
        refine ⟨low_sub i1 lm, ?_⟩
        rw [val_sub i1.ne lm.ne, vm]
        unfold Dt.sg
        rw [if_neg d]
        grind
theorem minQ_len {n j : Nat} {T : List (List (Int × Int))} (hl : T.length = n + 1) : (minQ T j).length = n := by unfold minQ; rw [List.length_map, List.length_drop]; omega
theorem minQ_wid {n j : Nat} {T : List (List (Int × Int))} (hj : j < n + 1) (hw : ∀ q ∈ T, q.length = n + 1) : ∀ q ∈ minQ T j, q.length = n := fun q h => by
  unfold minQ at h
  obtain ⟨r, h1, rfl⟩ := List.mem_map.mp h
  have := hw r (List.mem_of_mem_drop h1)
  rw [List.length_append, List.length_take, List.length_drop]
  omega
theorem minQ_all {j : Nat} {T : List (List (Int × Int))} {Z : Int × Int → Prop} (h : ∀ q ∈ T, ∀ z ∈ q, Z z) : ∀ q ∈ minQ T j, ∀ z ∈ q, Z z := fun q hq z hz => by
  unfold minQ at hq
  obtain ⟨r, h1, rfl⟩ := List.mem_map.mp hq
  rcases List.mem_append.mp hz with a | a
  · exact h r (List.mem_of_mem_drop h1) z (List.mem_of_mem_take a)
  · exact h r (List.mem_of_mem_drop h1) z (List.mem_of_mem_drop a)
theorem minQ_qM {n j : Nat} {T : List (List (Int × Int))} (hl : T.length = n + 1) (hw : ∀ q ∈ T, q.length = n + 1) (hj : j < n + 1) : ∀ a, a < n → ∀ b, b < n → qM (minQ T j) a b = Dt.mi (qM T) j a b := fun a ha b hb => by
  have h1 : a + 1 < T.length := by omega
  have wr := hw _ (List.getElem_mem h1)
  unfold qM Dt.mi minQ
  rw [List.getElem?_map, List.getElem?_drop, show 1 + a = a + 1 by omega, List.getElem?_eq_getElem h1]
  show valQ (((T[a + 1].take j ++ T[a + 1].drop (j + 1))[b]?).getD (0, 1)) = valQ ((((T[a + 1]?).getD [])[Dt.sk j b]?).getD (0, 1))
  rw [List.getElem?_eq_getElem h1]
  show _ = valQ ((T[a + 1][Dt.sk j b]?).getD (0, 1))
  congr 2
  unfold Dt.sk
  by_cases c : b < j
  · rw [if_pos c, List.getElem?_append_left (by rw [List.length_take]; omega), List.getElem?_take, if_pos c]
  · rw [if_neg c, List.getElem?_append_right (by rw [List.length_take]; omega), List.getElem?_drop, List.length_take]
    congr 1
    omega
theorem crossQ_ok : ∀ (n : Nat) {T : List (List (Int × Int))}, T.length = n → (∀ q ∈ T, q.length = n) → (∀ q ∈ T, ∀ z ∈ q, LowQ z) → LowQ (crossQ n T) ∧ valQ (crossQ n T) = Dt.det n (qM T)
  | 0, T, _, _, _ => ⟨low_11, by show valQ (1, 1) = 1; decide +kernel⟩
  | n + 1, T, hl, hw, h => by
    have h0 : 0 < T.length := by omega
    have er : T[0]?.getD [] = T[0] := by rw [List.getElem?_eq_getElem h0]; rfl
    have wr := hw _ (List.getElem_mem h0)
    have sub (j : Nat) (hj : j < n + 1) := crossQ_ok n (minQ_len hl) (minQ_wid hj hw) (minQ_all (j := j) h)
    obtain ⟨c1, c2⟩ := crossS_ok (f := fun j => crossQ n (minQ T j)) (row := T[0]) (n + 1) (by omega) (h _ (List.getElem_mem h0)) fun j hj => (sub j hj).1
    show LowQ (crossS _ (T[0]?.getD []) (n + 1)) ∧ valQ (crossS _ (T[0]?.getD []) (n + 1)) = _
    rw [er]
    refine ⟨c1, c2.trans ?_⟩
    show _ = Dt.sumR (n + 1) fun j => Dt.sg j * qM T 0 j * Dt.det n (Dt.mi (qM T) j)
    refine Dt.sumR_congr fun j hj => ?_
    rw [(sub j hj).2, Dt.det_congr (minQ_qM hl hw hj)]
    unfold qM
    rw [er]
/-- the program's determinant is the law's -/
theorem det_cross {n : Nat} {T : List (List (Int × Int))} (hl : T.length = n) (hw : ∀ q ∈ T, q.length = n) (h : ∀ q ∈ T, ∀ z ∈ q, LowQ z) : detQ T = crossQ n T := by
  obtain ⟨a1, a2⟩ := crossQ_ok n hl hw h
  obtain ⟨b1, b2⟩ := detQ_ok hl hw fun q hq z hz => (h q hq z hz).pos
  exact low_ext b1 a1 (b2.trans a2.symm)
/-- how long the law's determinant gets -/
def cB (b : Nat) : Nat → Nat
  | 0 => 1
  | n + 1 => 1 + (n + 1) * (b + cB b n + 1)
theorem crossS_bd {f : Nat → Int × Int} {row : List (Int × Int)} {b c : Nat} : ∀ (k : Nat), k ≤ row.length → (∀ q ∈ row, Bd b q) → (∀ j, j < k → Bd c (f j)) → Bd (1 + k * (b + c + 1)) (crossS f row k)
  | 0, _, _, _ => bd_le bd_01 (by omega)
  | k + 1, hk, hr, hf => by
    have i1 := crossS_bd k (by omega) hr fun j hj => hf j (by omega)
    have lr : Bd b (row[k]?.getD (0, 1)) := by
      rw [List.getElem?_eq_getElem (by omega)]
      exact hr _ (List.getElem_mem _)
    have lm := bd_mul lr (hf k (by omega))
    have e : 1 + (k + 1) * (b + c + 1) = 1 + k * (b + c + 1) + (b + c) + 1 := by rw [Nat.succ_mul]; omega
    rw [e]
    rw [crossS_s]
    split
    · exact bd_le i1 (by omega)
    · split
      · exact bd_add i1 lm
      · exact bd_sub i1 lm
theorem crossQ_bd {b : Nat} : ∀ (n : Nat) {T : List (List (Int × Int))}, T.length = n → (∀ q ∈ T, q.length = n) → BdR b T → Bd (cB b n) (crossQ n T)
  | 0, T, _, _, _ => bd_11
  | n + 1, T, hl, hw, h => by
    have h0 : 0 < T.length := by omega
    have er : T[0]?.getD [] = T[0] := by rw [List.getElem?_eq_getElem h0]; rfl
    have wr := hw _ (List.getElem_mem h0)
    show Bd _ (crossS _ (T[0]?.getD []) (n + 1))
    rw [er]
    exact crossS_bd (n + 1) (by omega) (h _ (List.getElem_mem h0)) fun j hj => crossQ_bd n (minQ_len hl) (minQ_wid hj hw) (minQ_all (j := j) h)
theorem cross_good {b : Nat} : ∀ (n : Nat) {T : List (List (Int × Int))}, T.length = n → (∀ q ∈ T, q.length = n) → BdR b T → cB b n ≤ 3999 → CrossOk n T
  | 0, T, _, _, _, _ => trivial
  | n + 1, T, hl, hw, h, hc => fun j hj _ => by
    have h0 : 0 < T.length := by omega
    have er : T[0]?.getD [] = T[0] := by rw [List.getElem?_eq_getElem h0]; rfl
    have wr := hw _ (List.getElem_mem h0)
    have ec : cB b (n + 1) = 1 + (n + 1) * (b + cB b n + 1) := rfl
    have mono : ∀ k, k ≤ n + 1 → 1 + k * (b + cB b n + 1) ≤ cB b (n + 1) := fun k hk => by rw [ec]; exact Nat.add_le_add_left (Nat.mul_le_mul_right _ hk) _
    have m1 := mono 1 (by omega)
    have sub (j : Nat) (hj : j < n + 1) := crossQ_bd n (minQ_len hl) (minQ_wid hj hw) (minQ_all (j := j) h)
    have lr : Bd b (T[0][j]?.getD (0, 1)) := by
      rw [List.getElem?_eq_getElem (by omega)]
      exact h _ (List.getElem_mem h0) _ (List.getElem_mem _)
    rw [er]
    refine ⟨cross_good n (minQ_len hl) (minQ_wid hj hw) (minQ_all (j := j) h) (by omega), bd_small lr (by omega), bd_small (sub j hj) (by omega), bd_small (bd_mul lr (sub j hj)) (by omega), bd_small (crossS_bd j (by omega) (h _ (List.getElem_mem h0)) fun i hi => sub i (by omega)) ?_⟩
    have := mono j (by omega)
    omega
end Tk

namespace Tk
/-! ## rules of determinants, over pairs -/
theorem det_val {n : Nat} {A : List (List (Int × Int))} (hA : A.length = n) (wA : ∀ q ∈ A, q.length = n) (lA : LowR A) : LowQ (detQ A) ∧ valQ (detQ A) = Dt.det n (qM A) := detQ_ok hA wA fun q hq z hz => (lA q hq z hz).pos
theorem qM_tab {n : Nat} {f : Nat → Nat → Int × Int} {i j : Nat} (hi : i < n) (hj : j < n) : qM (tabQ n f) i j = valQ (f i j) := by
  unfold qM
  rw [tab_get hi hj]
theorem det_cols {n : Nat} {A : List (List (Int × Int))} (hA : A.length = n) (wA : ∀ q ∈ A, q.length = n) (lA : LowR A) : detQ (colsQ n A) = detQ A := by
  obtain ⟨a1, a2⟩ := det_val hA wA lA
  obtain ⟨c1, c2⟩ := cols_shape (n := n) hA
  obtain ⟨b1, b2⟩ := det_val c1 c2 (lowR_cols hA wA lA)
  refine low_ext b1 a1 (b2.trans (Eq.trans ?_ a2.symm))
  rw [← Dt.det_tr n (qM A)]
  refine Dt.det_congr fun i hi j hj => ?_
  show _ = qM A j i
  rw [tab_rep hA wA, cols_tab, qM_tab hi hj, qM_tab hj hi]
theorem qM_times {n : Nat} {A B : List (List (Int × Int))} (hA : A.length = n) (wA : ∀ q ∈ A, q.length = n) (lA : LowR A) (hB : B.length = n) (wB : ∀ q ∈ B, q.length = n) (lB : LowR B) {i j : Nat} (hi : i < n) (hj : j < n) :
    qM (timesQ n A B) i j = Dt.mul n (qM A) (qM B) i j := by
  have L := lowT_of hA wA lA
  have M := lowT_of hB wB lB
  have e : timesQ n A B = tabQ n fun i j => sumQ ((List.range n).map fun k => mulQ ((A[i]?.getD [])[k]?.getD (0, 1)) ((B[k]?.getD [])[j]?.getD (0, 1))) := by
    conv => lhs; rw [tab_rep hA wA, tab_rep hB wB]
    exact times_tab
  rw [e, qM_tab hi hj, (low_sums fun k hk => low_mul (L i hi k hk) (M k hk j hj)).2]
  show _ = ((List.range n).map fun k => qM A i k * qM B k j).sum
  congr 1
  refine List.map_congr_left fun k hk => ?_
  have hk := List.mem_range.mp hk
  rw [val_mul (L i hi k hk).ne (M k hk j hj).ne]
  rfl
theorem det_times {n : Nat} {A B : List (List (Int × Int))} (hA : A.length = n) (wA : ∀ q ∈ A, q.length = n) (lA : LowR A) (hB : B.length = n) (wB : ∀ q ∈ B, q.length = n) (lB : LowR B) : detQ (timesQ n A B) = mulQ (detQ A) (detQ B) := by
  obtain ⟨a1, a2⟩ := det_val hA wA lA
  obtain ⟨b1, b2⟩ := det_val hB wB lB
  obtain ⟨c1, c2⟩ := times_shape (n := n) (B := B) hA
  obtain ⟨d1, d2⟩ := det_val c1 c2 (lowR_times hA wA lA hB wB lB)
  refine low_ext d1 (low_mul a1 b1) ?_
  rw [d2, val_mul a1.ne b1.ne, a2, b2, ← Dt.det_mul]
  exact Dt.det_congr fun i hi j hj => qM_times hA wA lA hB wB lB hi hj
theorem val_negQ {x : Int × Int} (h : x.2 ≠ 0) : valQ (lowQ (-x.1) x.2) = -valQ x := by
  rw [val_low h, Rat.divInt_eq_div, val_div h, Rat.intCast_neg, Rat.div_def, Rat.div_def]
  grind
theorem det_swapQ {n : Nat} {r0 r1 : List (Int × Int)} {rs : List (List (Int × Int))} (hA : (r0 :: r1 :: rs).length = n) (wA : ∀ q ∈ r0 :: r1 :: rs, q.length = n) (lA : LowR (r0 :: r1 :: rs)) :
    detQ (r1 :: r0 :: rs) = lowQ (-(detQ (r0 :: r1 :: rs)).1) (detQ (r0 :: r1 :: rs)).2 := by
  obtain ⟨a1, a2⟩ := det_val hA wA lA
  have sw : ∀ {q}, q ∈ r1 :: r0 :: rs → q ∈ r0 :: r1 :: rs := fun {q} h => by
    simp at h ⊢
    rcases h with h | h | h
    · exact .inr (.inl h)
    · exact .inl h
    · exact .inr (.inr h)
  have hn : 2 ≤ n := by simp at hA; omega
  obtain ⟨b1, b2⟩ := det_val (A := r1 :: r0 :: rs) (n := n) hA (fun q h => wA q (sw h)) (fun q h => lA q (sw h))
  refine low_ext b1 (low_low a1.ne) ?_
  rw [b2, val_negQ a1.ne, a2, ← Dt.det_sr (c := 0) (d := 1) (by omega) (by omega) (by decide)]
  refine Dt.det_congr fun i hi j hj => ?_
  unfold Dt.sr
  match i with
  | 0 => rfl
  | 1 => rfl
  | i + 2 => rfl
theorem det_scaleQ {n : Nat} {r0 : List (Int × Int)} {rs : List (List (Int × Int))} {q : Int × Int} (hq : LowQ q) (hA : (r0 :: rs).length = n) (wA : ∀ q ∈ r0 :: rs, q.length = n) (lA : LowR (r0 :: rs)) :
    detQ (r0.map (mulQ q) :: rs) = mulQ q (detQ (r0 :: rs)) := by
  obtain ⟨a1, a2⟩ := det_val hA wA lA
  have hn : 0 < n := by simp at hA; omega
  have l0 : r0.length = n := wA r0 (by simp)
  have lo0 : ∀ z ∈ r0, LowQ z := lA r0 (by simp)
  obtain ⟨b1, b2⟩ := det_val (A := r0.map (mulQ q) :: rs) (n := n) hA (fun z h => by
    rcases List.mem_cons.mp h with h | h
    · rw [h, List.length_map]; exact l0
    · exact wA z (List.mem_cons_of_mem _ h)) (fun z h => by
    rcases List.mem_cons.mp h with h | h
    · rw [h]
      intro y hy
      obtain ⟨x, hx, rfl⟩ := List.mem_map.mp hy
      exact low_mul hq (lo0 x hx)
    · exact lA z (List.mem_cons_of_mem _ h))
  refine low_ext b1 (low_mul hq a1) ?_
  rw [b2, val_mul hq.ne a1.ne, a2]
  have := Dt.det_row (n := n) (f := qM (r0.map (mulQ q) :: rs)) (g := qM (r0 :: rs)) (h := qM (r0 :: rs)) (c := 0) (x := valQ q) (y := 0) hn (fun j hj => by
    show valQ (((r0.map (mulQ q))[j]?).getD (0, 1)) = valQ q * valQ ((r0[j]?).getD (0, 1)) + 0 * _
    rw [List.getElem?_map, List.getElem?_eq_getElem (by omega)]
    show valQ (mulQ q r0[j]) = valQ q * valQ r0[j] + _
    rw [val_mul hq.ne (lo0 _ (List.getElem_mem _)).ne]
    grind) (fun i hi h0 j hj => by
    match i with
    | 0 => exact absurd rfl h0
    | i + 1 => exact ⟨rfl, rfl⟩)
  rw [this]
  grind
/-- what the determinant needs, from bounds: bottoms that divide D -/
theorem bdN_pow (b : Nat) : ∀ n, n ≤ 8 → Dt.bdN (2 ^ b) n ≤ 2 ^ (n * (b + 3))
  | 0, _ => by show 1 ≤ 2 ^ (0 * (b + 3)); simp
  | n + 1, h => by
    have i := bdN_pow b n (by omega)
    show (n + 1) * (2 ^ b * Dt.bdN (2 ^ b) n) ≤ 2 ^ ((n + 1) * (b + 3))
    have e : 2 ^ ((n + 1) * (b + 3)) = 2 ^ 3 * (2 ^ b * 2 ^ (n * (b + 3))) := by
      rw [← Nat.pow_add, ← Nat.pow_add]
      congr 1
      rw [Nat.succ_mul]
      omega
    rw [e]
    exact Nat.mul_le_mul (by omega) (Nat.mul_le_mul_left _ i)
theorem detOk_of {n D k : Nat} {A : List (List (Int × Int))} (n6 : n ≤ 6) (hA : A.length = n) (wA : ∀ q ∈ A, q.length = n) (hD : 0 < D) (hD2 : D < 2 ^ 64) (hk : k ≤ 500) (h : ∀ q ∈ A, ∀ z ∈ q, 0 < z.2 ∧ z.2.natAbs ∣ D ∧ z.1.natAbs < 2 ^ k) : DetOk n A := by
  have lc : ∀ q ∈ A, ∀ j, lcmQ (q.take j) ∣ D := fun q hq j => lcmQ_of fun z hz => (h q hq z (List.mem_of_mem_take hz)).2.1
  have lz : ∀ q ∈ A, lcmQ q ∣ D := fun q hq => by have := lc q hq q.length; rwa [List.take_length] at this
  have lR : (A.map clearQ).length = n := by rw [List.length_map]; exact hA
  have wR : ∀ r ∈ A.map clearQ, r.length = n := fun r hr => by
    obtain ⟨q, h1, rfl⟩ := List.mem_map.mp hr
    unfold clearQ
    rw [List.length_map]
    exact wA q h1
  have lg : ∀ {a e : Nat}, a < 2 ^ e → 0 < e → a.log2 < e := fun {a e} h h' => by
    by_cases z : a = 0
    · rw [z]; simpa using h'
    · exact (Nat.log2_lt z).mpr h
  have bR : ∀ r ∈ A.map clearQ, ∀ z ∈ r, z.natAbs ≤ 2 ^ (k + 64) := fun r hr z hz => by
    obtain ⟨q, h1, rfl⟩ := List.mem_map.mp hr
    unfold clearQ at hz
    obtain ⟨y, h2, rfl⟩ := List.mem_map.mp hz
    obtain ⟨y1, y2, y3⟩ := h q h1 y h2
    have f := fdiv_size (a := ((lcmQ q : Nat) : Int)) (b := y.2) (by omega) y1
    rw [Int.natAbs_natCast] at f
    have g := Nat.le_of_dvd hD (lz q h1)
    rw [Int.natAbs_mul, Nat.pow_add]
    exact Nat.mul_le_mul (by omega) (by omega)
  have bn := bdN_pow (k + 64) n (by omega)
  have bn2 : Dt.bdN (2 ^ (k + 64)) n < 2 ^ 4000 := by
    refine Nat.lt_of_le_of_lt bn (Nat.pow_lt_pow_right (by decide) ?_)
    have : n * (k + 64 + 3) ≤ 6 * (k + 64 + 3) := Nat.mul_le_mul_right _ n6
    omega
  have S (p : Nat) (hp : p ≤ n) := Dt.ws_sizes lR wR (Nat.one_le_two_pow (n := k + 64)) bR hp
  have sm : ∀ {z : Int}, z.natAbs ≤ Dt.bdN (2 ^ (k + 64)) n → SzI z := fun {z} hz => lg (Nat.lt_of_le_of_lt hz bn2) (by omega)
  refine ⟨fun q hq z hz => ?_, fun q hq j _ => Nat.lt_of_le_of_lt (Nat.le_of_dvd hD (lc q hq j)) hD2, ?_⟩
  · obtain ⟨a, b, c⟩ := h q hq z hz
    have := Nat.le_of_dvd hD b
    refine ⟨a, by omega, ?_⟩
    have := lg (Nat.lt_of_lt_of_le c (Nat.pow_le_pow_right (by decide) (by omega : k ≤ 501))) (by omega)
    omega
  · refine ⟨fun p hp => (S p hp).2.2.2.1, fun p hp => (S p hp).2.2.2.2.1, fun p hp q hq z hz => sm ((S p hp).1 q hq z hz), fun p hp => (S p hp).2.1, fun p hp => sm (S p hp).2.2.1, fun p hp => (S p hp).2.2.2.2.2, by omega, by omega, ?_⟩
    split
    · rename_i c; exact c
    · rename_i c
      have h0 : 0 < (A.map clearQ).length := by omega
      rw [List.getElem?_eq_getElem h0]
      exact (wR _ (List.getElem_mem h0)).symm
end Tk

namespace Tk
def prodL (c : Nat → Rat) : Nat → Rat
  | 0 => 1
  | n + 1 => prodL c n * c n
theorem det_upperR : ∀ {n : Nat} {f : Dt.M}, (∀ i, i < n → ∀ j, j < i → f i j = 0) → Dt.det n (Dt.tr f) = prodL (fun i => f i i) n
  | 0, _, _ => rfl
  | n + 1, f, h => by
    rw [Dt.det_last (fun i hi => h n (by omega) i hi), det_upperR fun i hi j hj => h i (by omega) j hj]
    show f n n * _ = _ * f n n
    rw [Rat.mul_comm]
/-- the product along the corner's line -/
def lineQ (A : List (List (Int × Int))) : Nat → Int × Int
  | 0 => (1, 1)
  | k + 1 => mulQ (lineQ A k) ((A[k]?.getD [])[k]?.getD (0, 1))
theorem lineQ_ok {n : Nat} {A : List (List (Int × Int))} (hA : A.length = n) (wA : ∀ q ∈ A, q.length = n) (lA : LowR A) : ∀ k, k ≤ n → LowQ (lineQ A k) ∧ valQ (lineQ A k) = prodL (fun i => qM A i i) k
  | 0, _ => ⟨low_11, by show valQ (1, 1) = 1; decide +kernel⟩
  | k + 1, h => by
    obtain ⟨i1, i2⟩ := lineQ_ok hA wA lA k (by omega)
    have l := lowT_of hA wA lA k (by omega) k (by omega)
    exact ⟨low_mul i1 l, by show valQ (mulQ _ _) = prodL _ k * qM A k k; rw [val_mul i1.ne l.ne, i2]; rfl⟩
theorem det_corner {n : Nat} {A : List (List (Int × Int))} (hA : A.length = n) (wA : ∀ q ∈ A, q.length = n) (lA : LowR A) (h : ∀ i, i < n → ∀ j, j < i → (A[i]?.getD [])[j]?.getD (0, 1) = (0, 1)) : detQ A = lineQ A n := by
  obtain ⟨a1, a2⟩ := det_val hA wA lA
  obtain ⟨b1, b2⟩ := lineQ_ok hA wA lA n (Nat.le_refl _)
  refine low_ext a1 b1 ?_
  rw [a2, b2, ← Dt.det_tr]
  exact det_upperR fun i hi j hj => by
    unfold qM
    rw [h i hi j hj]
    exact val_0
/-- a row and a number times another row -/
def plusQ (q : Int × Int) (r s : List (Int × Int)) : List (Int × Int) := List.zipWith (fun a b => addQ a (mulQ q b)) r s
theorem plusQ_low {q : Int × Int} (hq : LowQ q) {r s : List (Int × Int)} (hr : ∀ z ∈ r, LowQ z) (hs : ∀ z ∈ s, LowQ z) : ∀ z ∈ plusQ q r s, LowQ z := fun z hz => by
  unfold plusQ at hz
  obtain ⟨i, hi, rfl⟩ := List.getElem_of_mem hz
  rw [List.getElem_zipWith]
  exact low_add (hr _ (List.getElem_mem _)) (low_mul hq (hs _ (List.getElem_mem _)))
theorem det_plus {n a b : Nat} {A : List (List (Int × Int))} {q : Int × Int} (hq : LowQ q) (hA : A.length = n) (wA : ∀ q ∈ A, q.length = n) (lA : LowR A) (ha : a < n) (hb : b < n) (ab : a ≠ b) :
    (A.set a (plusQ q (A[a]?.getD []) (A[b]?.getD []))).length = n ∧ (∀ r ∈ A.set a (plusQ q (A[a]?.getD []) (A[b]?.getD [])), r.length = n) ∧ LowR (A.set a (plusQ q (A[a]?.getD []) (A[b]?.getD []))) ∧ detQ (A.set a (plusQ q (A[a]?.getD []) (A[b]?.getD []))) = detQ A := by
  have ea : A[a]?.getD [] = A[a]'(by omega) := by rw [List.getElem?_eq_getElem (by omega)]; rfl
  have eb : A[b]?.getD [] = A[b]'(by omega) := by rw [List.getElem?_eq_getElem (by omega)]; rfl
  have la : (A[a]'(by omega)).length = n := wA _ (List.getElem_mem _)
  have lb : (A[b]'(by omega)).length = n := wA _ (List.getElem_mem _)
  have lla := lA _ (List.getElem_mem (show a < A.length by omega))
  have llb := lA _ (List.getElem_mem (show b < A.length by omega))
  rw [ea, eb]
  have lp : (plusQ q (A[a]'(by omega)) (A[b]'(by omega))).length = n := by unfold plusQ; rw [List.length_zipWith]; omega
  have h1 : (A.set a (plusQ q (A[a]'(by omega)) (A[b]'(by omega)))).length = n := by rw [List.length_set]; exact hA
  have h2 : ∀ r ∈ A.set a (plusQ q (A[a]'(by omega)) (A[b]'(by omega))), r.length = n := fun r hr => by
    rcases List.mem_or_eq_of_mem_set hr with h | h
    · exact wA r h
    · rw [h]; exact lp
  have h3 : LowR (A.set a (plusQ q (A[a]'(by omega)) (A[b]'(by omega)))) := fun r hr => by
    rcases List.mem_or_eq_of_mem_set hr with h | h
    · exact lA r h
    · rw [h]; exact plusQ_low hq lla llb
  refine ⟨h1, h2, h3, ?_⟩
  obtain ⟨a1, a2⟩ := det_val hA wA lA
  obtain ⟨b1, b2⟩ := det_val h1 h2 h3
  refine low_ext b1 a1 ?_
  rw [a2, b2]
  have other (X : List (Int × Int)) (i j : Nat) (h : i ≠ a) : qM (A.set a X) i j = qM A i j := by
    unfold qM
    rw [List.getElem?_set_ne (fun e => h e.symm)]
  have self (X : List (Int × Int)) (j : Nat) : qM (A.set a X) a j = valQ (X[j]?.getD (0, 1)) := by
    unfold qM
    rw [List.getElem?_set_self (by omega)]
    rfl
  have := Dt.det_row (n := n) (f := qM (A.set a (plusQ q (A[a]'(by omega)) (A[b]'(by omega))))) (g := qM A) (h := qM (A.set a (A[b]'(by omega)))) (c := a) (x := 1) (y := valQ q) ha (fun j hj => by
    rw [self, self]
    unfold plusQ
    rw [List.getElem?_zipWith, List.getElem?_eq_getElem (by omega), List.getElem?_eq_getElem (by omega)]
    show valQ (addQ _ (mulQ q _)) = 1 * qM A a j + valQ q * valQ _
    have z1 := lla _ (List.getElem_mem (show j < (A[a]'(by omega)).length by omega))
    have z2 := llb _ (List.getElem_mem (show j < (A[b]'(by omega)).length by omega))
    rw [val_add z1.ne (low_mul hq z2).ne, val_mul hq.ne z2.ne]
    have : qM A a j = valQ (A[a]'(by omega))[j] := by
      unfold qM
      rw [ea, List.getElem?_eq_getElem (by omega)]
      rfl
    rw [this]
    show _ = 1 * _ + valQ q * valQ ((A[b]'(by omega))[j])
    grind) (fun i hi h0 j hj => ⟨other _ i j h0, by rw [other _ i j h0, other _ i j h0]⟩)
  have z : Dt.det n (qM (A.set a (A[b]'(by omega)))) = 0 := Dt.det_eqr (c := a) (d := b) ha hb ab fun j hj => by
    rw [self, other _ b j (fun e => ab e.symm)]
    unfold qM
    rw [eb]
  rw [this, z]
  grind
end Tk

namespace Tk
/-! ## bottoms that divide -/
/-- a number that D makes whole -/
def DvQ (D : Nat) (q : Int × Int) : Prop := Dt.IsI (valQ q * (D : Rat))
theorem dv_bot {D : Nat} {q : Int × Int} (h : LowQ q) (d : DvQ D q) : q.2.natAbs ∣ D := by
  obtain ⟨z, hz⟩ := d
  have nz : (q.2 : Rat) ≠ 0 := fun e => h.ne (Rat.intCast_eq_zero_iff.mp e)
  have i := Rat.mul_inv_cancel _ nz
  rw [val_div h.ne, Rat.div_def] at hz
  have e : ((q.1 * (D : Int) : Int) : Rat) = ((z * q.2 : Int) : Rat) := by
    rw [Rat.intCast_mul, Rat.intCast_mul, ← hz]
    show (q.1 : Rat) * (D : Rat) = _
    grind
  have e2 : q.1 * (D : Int) = z * q.2 := Rat.intCast_inj.mp e
  have d1 : q.2.natAbs ∣ q.1.natAbs * D := by
    have : (q.1 * (D : Int)).natAbs = (z * q.2).natAbs := by rw [e2]
    rw [Int.natAbs_mul, Int.natAbs_mul, Int.natAbs_natCast] at this
    exact ⟨z.natAbs, by rw [this, Nat.mul_comm]⟩
  have c : Nat.gcd q.1.natAbs q.2.natAbs = 1 := h.cop
  exact (Nat.Coprime.dvd_of_dvd_mul_left (by rw [Nat.coprime_comm]; exact c) d1)
theorem dv_of {D : Nat} {q : Int × Int} (h : 0 < q.2) (d : q.2.natAbs ∣ D) : DvQ D q := by
  refine ⟨_, Eq.trans (Rat.mul_comm ..) (clear_val (L := D) h d).symm⟩
theorem dv_mul {D E : Nat} {x y : Int × Int} (hx : LowQ x) (hy : LowQ y) (a : DvQ D x) (b : DvQ E y) : DvQ (D * E) (mulQ x y) := by
  unfold DvQ at *
  rw [val_mul hx.ne hy.ne, Rat.natCast_mul]
  have := a.mul b
  have e : valQ x * valQ y * ((D : Rat) * (E : Rat)) = valQ x * (D : Rat) * (valQ y * (E : Rat)) := by grind
  rw [e]
  exact this
theorem dv_sum {D n : Nat} {F : Nat → Int × Int} (h : ∀ k, k < n → LowQ (F k)) (d : ∀ k, k < n → DvQ D (F k)) : DvQ D (sumQ ((List.range n).map F)) := by
  unfold DvQ at *
  rw [(low_sums h).2]
  have e : (((List.range n).map fun k => valQ (F k)).sum) * (D : Rat) = Dt.sumR n fun k => (D : Rat) * valQ (F k) := by
    rw [Dt.sumR_mul, Rat.mul_comm]
    rfl
  rw [e]
  exact Dt.IsI.sum fun k hk => by rw [Rat.mul_comm]; exact d k hk
theorem dv_ent {q : Int × Int} (h : 0 < q.2) (h9 : q.2 ≤ 9) : DvQ 2520 q := by
  refine dv_of h ?_
  obtain ⟨m, hm⟩ : ∃ m : Nat, q.2.natAbs = m := ⟨_, rfl⟩
  have : m = 1 ∨ m = 2 ∨ m = 3 ∨ m = 4 ∨ m = 5 ∨ m = 6 ∨ m = 7 ∨ m = 8 ∨ m = 9 := by omega
  rw [hm]
  rcases this with h | h | h | h | h | h | h | h | h <;> (subst h; decide)
def DvR (D : Nat) (A : List (List (Int × Int))) : Prop := ∀ q ∈ A, ∀ z ∈ q, DvQ D z
theorem detOk_gen {n D k : Nat} {A : List (List (Int × Int))} (n6 : n ≤ 6) (hA : A.length = n) (wA : ∀ q ∈ A, q.length = n) (hD : 0 < D) (hD2 : D < 2 ^ 64) (hk : k ≤ 500) (h : BdR k A) (d : DvR D A) : DetOk n A :=
  detOk_of n6 hA wA hD hD2 hk fun q hq z hz => ⟨(h q hq z hz).low.pos, dv_bot (h q hq z hz).low (d q hq z hz), (h q hq z hz).top⟩
theorem dvR_times {n D E : Nat} {A B : List (List (Int × Int))} (hA : A.length = n) (wA : ∀ q ∈ A, q.length = n) (lA : LowR A) (hB : B.length = n) (wB : ∀ q ∈ B, q.length = n) (lB : LowR B) (dA : DvR D A) (dB : DvR E B) : DvR (D * E) (timesQ n A B) := by
  have L := lowT_of hA wA lA
  have M := lowT_of hB wB lB
  have e : timesQ n A B = tabQ n fun i j => sumQ ((List.range n).map fun k => mulQ ((A[i]?.getD [])[k]?.getD (0, 1)) ((B[k]?.getD [])[j]?.getD (0, 1))) := by
    conv => lhs; rw [tab_rep hA wA, tab_rep hB wB]
    exact times_tab
  have inA : ∀ i, i < n → ∀ k, k < n → DvQ D ((A[i]?.getD [])[k]?.getD (0, 1)) := fun i hi k hk => by
    have h1 : i < A.length := by omega
    have h2 : k < A[i].length := by rw [wA _ (List.getElem_mem h1)]; exact hk
    rw [List.getElem?_eq_getElem h1]
    show DvQ D ((A[i][k]?).getD (0, 1))
    rw [List.getElem?_eq_getElem h2]
    exact dA _ (List.getElem_mem h1) _ (List.getElem_mem h2)
  have inB : ∀ i, i < n → ∀ k, k < n → DvQ E ((B[i]?.getD [])[k]?.getD (0, 1)) := fun i hi k hk => by
    have h1 : i < B.length := by omega
    have h2 : k < B[i].length := by rw [wB _ (List.getElem_mem h1)]; exact hk
    rw [List.getElem?_eq_getElem h1]
    show DvQ E ((B[i][k]?).getD (0, 1))
    rw [List.getElem?_eq_getElem h2]
    exact dB _ (List.getElem_mem h1) _ (List.getElem_mem h2)
  rw [e]
  intro q hq z hz
  unfold tabQ at hq
  obtain ⟨i, hi, rfl⟩ := List.mem_map.mp hq
  obtain ⟨j, hj, rfl⟩ := List.mem_map.mp hz
  have hi := List.mem_range.mp hi
  have hj := List.mem_range.mp hj
  exact dv_sum (fun k hk => low_mul (L i hi k hk) (M k hk j hj)) fun k hk => dv_mul (L i hi k hk) (M k hk j hj) (inA i hi k hk) (inB k hk j hj)
theorem dvR_cols {n D : Nat} {A : List (List (Int × Int))} (hA : A.length = n) (wA : ∀ q ∈ A, q.length = n) (d : DvR D A) : DvR D (colsQ n A) := by
  intro cs hcs q hq
  unfold colsQ at hcs
  obtain ⟨j, hj, rfl⟩ := List.mem_map.mp hcs
  obtain ⟨qs, hqs, rfl⟩ := List.mem_map.mp hq
  have hj := List.mem_range.mp hj
  rw [List.getElem?_eq_getElem (by rw [wA qs hqs]; exact hj)]
  exact d qs hqs _ (List.getElem_mem _)
theorem dvR_scale {D E : Nat} {r0 : List (Int × Int)} {rs : List (List (Int × Int))} {q : Int × Int} (hq : LowQ q) (dq : DvQ E q) (hE : 0 < E) (lA : LowR (r0 :: rs)) (d : DvR D (r0 :: rs)) : DvR (E * D) (r0.map (mulQ q) :: rs) := by
  intro r hr z hz
  rcases List.mem_cons.mp hr with h | h
  · subst h
    obtain ⟨y, hy, rfl⟩ := List.mem_map.mp hz
    exact dv_mul hq (lA r0 (by simp) y hy) dq (d r0 (by simp) y hy)
  · have := d r (List.mem_cons_of_mem _ h) z hz
    unfold DvQ at *
    have e : valQ z * ((E * D : Nat) : Rat) = (E : Rat) * (valQ z * (D : Rat)) := by rw [Rat.natCast_mul]; grind
    rw [e]
    exact Dt.IsI.mul ⟨(E : Int), rfl⟩ this
end Tk

namespace Tk
open PySem PySem.Spec PyProof.Rows L2 ClX
abbrev sDet : Stmt := top 39
section
variable {P : Program} {w : World} {K : PySem.W.Frag} {mg : Str → Option Value} {base : Heap}
theorem sc_det : FnScope ["table"] ["table"] (defScope sDet) := ⟨rfl, rfl, rfl, by decide +kernel, rfl, by decide +kernel, by decide +kernel⟩
theorem ok_det {f f1 f2 C : Addr} {fd fd1 fd2 : FuncData} (F : Fun K "determinant" "determinant" sDet f fd) (D1 : Df K mg "check_table" sChkTab ["table"] f1 fd1) (G1 : FnOk P w K mg base CX0 5 f1 fd1 ["table"] (spChkTab K C)) (D2 : Df K mg "determinant_of" sDetOf ["table"] f2 fd2) (G2 : FnOk P w K mg base CX0 6 f2 fd2 ["table"] (spDetOf K C)) :
    FnOk P w K mg base CX0 7 f fd ["table"] (spDetOf K C) := by
  refine F.ok sc_det (fun vs H Q E h => ?_) (fun cdv A outer s H vs Q E hr h => ?_)
  · obtain ⟨v, n, qss, rfl, _⟩ := h
    rfl
  · obtain ⟨v, n, qss, rfl, hT, ok, q⟩ := h
    refine ⟨_, pss_cons (ps_expr (pe_call G1 (hr.mono (by decide)) rfl D1.g D1.F.kp D1.b .nil pass0 (pa_cons (pv 0) pa_nil)))
      (pss_one (ps_ret (pe_call G2 hr rfl D2.g D2.F.kp D2.b .nil pass0 (pa_cons (pv 0) pa_nil)))), ?_⟩
    refine ⟨_, rfl, v, n, qss, rfl, hT, fun H1 s1 => ?_⟩
    exact ⟨_, rfl, v, n, qss, rfl, tab_s hT s1, ok, fun H' r s' h => q H' r (s1.trans s') h⟩
end
end Tk

namespace Tk
open PySem PySem.Spec PyProof.Rows L2 ClX
abbrev sOne14 : Stmt := top 57
abbrev sCorner14 : Stmt := top 58
/-! ## k14: one_right -/
def KwR14 (fd : FuncData) (ks ps : List Str) : Prop := ∀ (s : Shared) (ws : List Value), ws.length = ks.length → BindsTo s fd ⟨[], ks.zip ws⟩ (ps.zip ws.reverse)
structure Calls14 (P : Program) (w : World) (K : PySem.W.Frag) (mg : Str → Option Value) (base : Heap) (C : Addr) : Prop where
  table : ∃ f fd, Df K mg "_law_table" sTableR ["_law_pot_here", "_law_size"] f fd ∧ FnOk P w K mg base CX0 6 f fd ["_law_pot_here", "_law_size"] (spTableR K)
  given : ∃ f fd, Df K mg "_law_given" sGivR ["_law_pot_here", "_law_rows"] f fd ∧ FnOk P w K mg base CX0 6 f fd ["_law_pot_here", "_law_rows"] (spGivR K C)
  cross : ∃ f fd, Df K mg "_law_crossed" sCrossed ["_law_table_here"] f fd ∧ ∀ n, FnOk P w K mg base CX0 (n + 4) f fd ["_law_table_here"] (spCross K n)
  det : ∃ f fd, Df K mg "determinant" sDet ["table"] f fd ∧ FnOk P w K mg base CX0 7 f fd ["table"] (spDetOf K C) ∧ KwR14 fd ["table"] ["table"]
  times : ∃ f fd, Df K mg "times" sTimesT ["table", "other"] f fd ∧ FnOk P w K mg base CX0 8 f fd ["table", "other"] (spTimesT K C)
  about : ∃ f fd, Df K mg "about" sAboutT ["table"] f fd ∧ FnOk P w K mg base CX0 7 f fd ["table"] (spAboutT K C)
  pair : ∃ f fd, Df K mg "_law_pair" sRtPair ["_law_value"] f fd ∧ FnOk P w K mg base CX0 3 f fd ["_law_value"] (spPairR K C)
  entry : ∃ f fd, Df K mg "_law_entry" sEntR ["_law_pot_here"] f fd ∧ FnOk P w K mg base CX0 3 f fd ["_law_pot_here"] (spEntR K)
  by_ : ∃ f fd, Df K mg "_law_by" sByR ["_law_one", "_law_other"] f fd ∧ FnOk P w K mg base CX0 2 f fd ["_law_one", "_law_other"] (spTwoR K mulQ)
  eq : ∃ f fd, PySem.W.findIn K (.ref C) "__eq__" = some (some (.ref f)) ∧ PySem.W.isFn K (.ref f) = true ∧ NeO.NeC K C f ∧ FnOk P w K mg base CX0 1 f fd ["self", "other"] (spREq C) ∧ Binds K fd ["self", "other"] []
  rep : ∃ f fd, PySem.W.findIn K (.ref C) "__repr__" = some (some (.ref f)) ∧ PySem.W.isFn K (.ref f) = true ∧ FnOk P w K mg base CX0 1 f fd ["self"] (spRShow C rpQ) ∧ Binds K fd ["self"] []
  mul : ∃ f fd, NeO.BinT K C f "mul" ∧ FnOk P w K mg base CX0 5 f fd ["self", "other"] (spBin C mulQ) ∧ Binds K fd ["self", "other"] []
  neg : ∃ f fd, PySem.W.findIn K (.ref C) "__neg__" = some (some (.ref f)) ∧ PySem.W.isFn K (.ref f) = true ∧ FnOk P w K mg base CX0 4 f fd ["self"] (spNeg C) ∧ Binds K fd ["self"] []
theorem ent_bd14 {q : Int × Int} (h : EntQ q) : Bd 5 q := by
  have h1 := h.top
  have h2 := h.bot
  have h3 := h.low.pos
  exact ⟨h.low, by omega, by omega⟩
theorem ent_tiny14 {q : Int × Int} (h : EntQ q) : Tiny q := by
  have h1 := h.top
  have h2 := h.bot
  have h3 := h.low.pos
  exact ⟨Nat.lt_of_le_of_lt h1 (by decide), Nat.lt_of_le_of_lt (show q.2.natAbs ≤ 9 by omega) (by decide)⟩
theorem ent_dv14 {q : Int × Int} (h : EntQ q) : DvQ 2520 q := dv_ent h.low.pos h.bot
theorem times_asks14 {k l n : Nat} {A B : List (List (Int × Int))} (n6 : n ≤ 6) (hA : A.length = n) (wA : ∀ qs ∈ A, qs.length = n) (bA : BdR k A) (hB : B.length = n) (wB : ∀ qs ∈ B, qs.length = n) (bB : BdR l B) (e : 1 + 6 * (k + l + 1) ≤ 3999) :
    (∀ qs ∈ A, ∀ q ∈ qs, Small q) ∧ (∀ cs ∈ colsQ n B, ∀ q ∈ cs, Small q) ∧ ∀ qs ∈ A, ∀ cs ∈ colsQ n B, (∀ z ∈ prodsQ qs cs, Small z) ∧ ∀ i, i ≤ (prodsQ qs cs).length → Small (sumQ ((prodsQ qs cs).take i)) :=
  ⟨bdR_small bA (by omega), bdR_small (bdR_cols hB wB bB) (by omega), fun qs hq cs hc => bd_sums (bA qs hq) (bdR_cols hB wB bB cs hc) (by rw [wA qs hq]; exact n6) e⟩
theorem cB5 {n : Nat} (h : n ≤ 4) : cB 5 n ≤ 449 := by
  have : n = 0 ∨ n = 1 ∨ n = 2 ∨ n = 3 ∨ n = 4 := by omega
  rcases this with h | h | h | h | h <;> (subst h; decide)
theorem shaped_prsC (ps : List (Int × Int)) : SeqAt.shaped (.list (ps.map dP)) = true := by
  unfold SeqAt.shaped
  rw [Bool.and_eq_true_iff]
  refine ⟨by rw [PyData.canLay0]; exact plainPC ps, decide_eq_true ?_⟩
  have := depthPC ps
  rw [PyData.depth]
  omega
theorem ne_rats {C a b : Addr} {H : Hp} {x : Int × Int} {Q : VK} (ha : RatAt C H a x) (hb : RatAt C H b x) (q : Q (.bl false) H) : NeO.rNeI C (spREq C) (.ref a) (.ref b) H Q := by
  obtain ⟨dx, h⟩ := id ha
  obtain ⟨dy, g⟩ := id hb
  refine ⟨a, b, dx, dy, _, _, rfl, rfl, h, g, a, b, x, x, rfl, ha, hb, true, ?_, q⟩
  rw [decide_eq_true rfl]
theorem shaped_pair14 (p : Int × Int) : SeqAt.shaped (dP p) = true := by
  simp [SeqAt.shaped, dP, PyData.canLay0, PyData.canLayAll0, PyData.depth, PyData.depthAll]
theorem pair_x14 {K : PySem.W.Frag} {a p : Addr} {H H' : Hp} {q : Int × Int} (h : PairAt K H p q) (pot : Pot H a) (e : SmX a H H') : PairAt K H' p q := by
  have : PrsP K H' [.ref p] [q] := prs_x ⟨⟨p, rfl, h⟩, trivial⟩ pot e
  obtain ⟨⟨p', e, h⟩, _⟩ := this
  cases e
  exact h
def spOne14 : Sp := fun vs H Q _ => ∃ (a : Addr) (n : Nat), vs = [.ref a, .int n] ∧ Pot H a ∧ n ≤ 4 ∧ ∀ H', SmX a H H' → Pot H' a → Q (.bl true) H'
section
variable {P : Program} {w : World} {K : PySem.W.Frag} {mg : Str → Option Value} {base : Heap}
abbrev nOne14 : List Str := ["_law_pot_here", "_law_size", "_law_table_here", "_law_other", "_law_given_here", "_law_far", "_law_cross", "_law_stay", "_law_number", "_law_scaled", "_law_entry_here"]
theorem sc_one14 : FnScope nOne14 ["_law_pot_here", "_law_size"] (defScope sOne14) := ⟨rfl, rfl, rfl, by decide +kernel, rfl, by decide +kernel, by decide +kernel⟩
theorem ok_one14 {f C : Addr} {fd : FuncData} (F : Fun K "_law_one_right" "_law_one_right" sOne14 f fd) (Z : Calls14 P w K mg base C) (B : Bl mg) : FnG P w K mg base 10 f fd ["_law_pot_here", "_law_size"] spOne14 := by
  obtain ⟨fT, dT, DT, GT⟩ := Z.table
  obtain ⟨fG, dG, DG, GG⟩ := Z.given
  obtain ⟨fC, dC, DC, GC⟩ := Z.cross
  obtain ⟨fD, dD, DD, GD, kD⟩ := Z.det
  obtain ⟨fX, dX, DX, GX⟩ := Z.times
  obtain ⟨fA, dA, DA, GA⟩ := Z.about
  obtain ⟨fQ, dQ, DQ, GQ⟩ := Z.pair
  obtain ⟨fN, dN, DN, GN⟩ := Z.entry
  obtain ⟨fB, dB', DB, GB⟩ := Z.by_
  obtain ⟨fE, dE, e1, e2, NE, GE, bE⟩ := Z.eq
  obtain ⟨fP, dP', p1, p2, GP, bP⟩ := Z.rep
  obtain ⟨fM, dM, TM, GM, bM⟩ := Z.mul
  obtain ⟨fV, dV, v1, v2, GV, bV⟩ := Z.neg
  refine okG F sc_one14 (fun vs H Q E h => ?_) (fun cdv A outer s H vs Q E hgd hr h => ?_)
  · obtain ⟨a, n, rfl, _⟩ := h
    rfl
  · obtain ⟨a, n, rfl, pot, n4, q⟩ := h
    have hr2 : Room 2 _ := hr.mono (by decide)
    have hr3 : Room 3 _ := hr.mono (by decide)
    have hr4 : Room 4 _ := hr.mono (by decide)
    have hr5 : Room 5 _ := hr.mono (by decide)
    have hr6 : Room 6 _ := hr.mono (by decide)
    have hr7 : Room 7 _ := hr.mono (by decide)
    have hr8 : Room 8 _ := hr.mono (by decide)
    have hrC : Room (n + 4) _ := hr.mono (by omega)
    have hu := hr.units
    have OR : OwnRep (cxOf CX0 P w K mg base nOne14 "_law_one_right" (defScope sOne14) f cdv A outer s H E).nox C (ShowQ C) (spRShow C rpQ) 1 fP dP' ["self"] := ⟨showQ, p1, p2, GP, bP⟩
    refine ⟨_, pss_cons (ps_par (i := 2) (j := 3) rfl sc_one14.nd rfl rfl (by decide) rfl rfl (pa_cons (pe_call GT hr6 rfl DT.g DT.F.kp DT.b .nil pass0 (pa_cons (pv 0) (pa_cons (pv 1) pa_nil))) (pa_cons (pe_call GT hr6 rfl DT.g DT.F.kp DT.b .nil pass0 (pa_cons (pv 0) (pa_cons (pv 1) pa_nil))) pa_nil)) (by rfl))
      (pss_cons (ps_par3 (i := 4) (j := 5) (l := 6) rfl sc_one14.nd rfl rfl rfl (by decide) (by decide) (by decide) rfl rfl rfl (pa_cons (pe_call GG hr6 rfl DG.g DG.F.kp DG.b .nil pass0 (pa_cons (pv 0) (pa_cons (pv 2) pa_nil))) (pa_cons (pe_call GG hr6 rfl DG.g DG.F.kp DG.b .nil pass0 (pa_cons (pv 0) (pa_cons (pv 3) pa_nil))) (pa_cons (pe_call (GC n) hrC rfl DC.g DC.F.kp DC.b .nil pass0 (pa_cons (pv 2) pa_nil)) pa_nil))) (by rfl))
      (pss_cons (ps_set (i := 7) sc_one14.nd rfl (Or.inl rfl) (pe_callB (call_reprT (N := 2) OR hgd hr5) (by rfl) B.repr PyProof.Rows.boot_repr (pa_cons (pe_lst (pa_cons (pv 4) (pa_cons (pv 5) pa_nil))) pa_nil)))
      (C8.pss_cut (ps_if (PW.pt (pw_or (pt_cmpR (op_neD hu) (pe_lst (pa_cons (pe_call GQ hr3 rfl DQ.g DQ.F.kp DQ.b .nil pass0 (pa_cons (pe_call GD hr7 rfl DD.g DD.F.kp DD.b .nil pass0 (pa_cons (pv 4) pa_nil)) pa_nil)) (pa_cons (pe_call GQ hr3 rfl DQ.g DQ.F.kp DQ.b .nil pass0 (pa_cons (pe_kwR GD hr7 rfl DD.g DD.F.kp kD (pk_cons (pv 4) pk_nil)) pa_nil)) pa_nil))) (pe_lst (pa_cons (pv 6) (pa_cons (pv 6) pa_nil))) (nomark _))
          (pw_or1 (pt_cmpR op_ne (pe_callB (call_reprT (N := 2) OR hgd hr5) (by rfl) B.repr PyProof.Rows.boot_repr (pa_cons (pe_lst (pa_cons (pv 4) (pa_cons (pv 5) pa_nil))) pa_nil)) (pv 7) (nomark _))))) (pss_one (ps_ret pe_bl)) pss_nil)
      (C8.pss_cut (ps_if (PW.pt (pw_or (pt_cmpR (NeO.op_neI NE GE hr2 bE) (pe_call GD hr7 rfl DD.g DD.F.kp DD.b .nil pass0 (pa_cons (pe_call GA hr7 rfl DA.g DA.F.kp DA.b .nil pass0 (pa_cons (pv 4) pa_nil)) pa_nil)) (pe_call GD hr7 rfl DD.g DD.F.kp DD.b .nil pass0 (pa_cons (pv 4) pa_nil)) (nomark _))
          (pw_or1 (pt_cmpR (NeO.op_neI NE GE hr2 bE) (pe_call GD hr7 rfl DD.g DD.F.kp DD.b .nil pass0 (pa_cons (pe_call GX hr8 rfl DX.g DX.F.kp DX.b .nil pass0 (pa_cons (pv 4) (pa_cons (pv 5) pa_nil))) pa_nil)) (pe_op (NeO.op_binI (op := .Mult) TM.first TM.own TM.fn GM hr5 bM) (pe_call GD hr7 rfl DD.g DD.F.kp DD.b .nil pass0 (pa_cons (pv 4) pa_nil)) (pe_call GD hr7 rfl DD.g DD.F.kp DD.b .nil pass0 (pa_cons (pv 5) pa_nil))) (nomark _))))) (pss_one (ps_ret pe_bl)) pss_nil)
      (pss_cons (ps_if (pt_cmpR op_lt (pv 1) pe_int (nomark _)) (pss_one (ps_ret pe_bl)) pss_nil)
      (pss_cons (ps_set (i := 8) sc_one14.nd rfl (Or.inr rfl) (pe_call GN hr3 rfl DN.g DN.F.kp DN.b .nil pass0 (pa_cons (pv 0) pa_nil)))
      (pss_cons (ps_set (i := 9) sc_one14.nd rfl (Or.inl rfl) (pe_op op_cat (pe_lst (pa_cons (pe_lc (own := [("_law_entry_here", 10)]) (g := gName 10) (tt := tYes) (te := tCall (spTwoR K mulQ) [] E0 (tCons (tVar 8) (tCons (tVar 10) tNil))) rfl sc_one14.nd (pi_list (pe_ix ix_list (pv 2) pe_int (fun _ _ => rfl))) (blkOk_by (N := nOne14) (sc := defScope sOne14) (by decide +kernel))
              (fun _ _ _ _ _ => pg_name (i := 10) sc_one14.nd rfl (Or.inl rfl)) (fun _ _ _ _ _ => pts_nil) (fun _ _ _ _ _ => pe_call GB hr2 rfl DB.g DB.F.kp DB.b .nil pass0 (pa_cons (pv 8) (pa_cons (pv 10) pa_nil)))) pa_nil)) (pe_slice sl_list (pv 2) (po_some pe_int) po_none)))
      (C8.pss_cut (ps_if (pt_cmpR (NeO.op_neI NE GE hr2 bE) (pe_call GD hr7 rfl DD.g DD.F.kp DD.b .nil pass0 (pa_cons (pe_call GG hr6 rfl DG.g DG.F.kp DG.b .nil pass0 (pa_cons (pv 0) (pa_cons (pe_op op_cat (pe_lst (pa_cons (pe_ix ix_list (pv 2) pe_int (fun _ _ => rfl)) (pa_cons (pe_ix ix_list (pv 2) pe_int (fun _ _ => rfl)) pa_nil))) (pe_slice sl_list (pv 2) (po_some pe_int) po_none)) pa_nil))) pa_nil))
          (pe_un (NeO.un_negI v1 v2 GV hr4 bV) (pe_call GD hr7 rfl DD.g DD.F.kp DD.b .nil pass0 (pa_cons (pv 4) pa_nil))) (nomark _)) (pss_one (ps_ret pe_bl)) pss_nil)
      (pss_one (ps_ret (pe_cmpR (op_eqD hu) (pe_call GQ hr3 rfl DQ.g DQ.F.kp DQ.b .nil pass0 (pa_cons (pe_call GD hr7 rfl DD.g DD.F.kp DD.b .nil pass0 (pa_cons (pe_call GG hr6 rfl DG.g DG.F.kp DG.b .nil pass0 (pa_cons (pv 0) (pa_cons (pv 9) pa_nil))) pa_nil)) pa_nil)) (pe_call GB hr2 rfl DB.g DB.F.kp DB.b .nil pass0 (pa_cons (pv 8) (pa_cons (pv 6) pa_nil))) (nomark _)))))))))))), ?_⟩
    -- two tables
    refine ⟨_, rfl, _, rfl, a, n, rfl, pot, by omega, fun H1 r1 A1 x1 p1' h1 T1 l1 E1 => ?_⟩
    refine ⟨_, rfl, _, rfl, a, n, rfl, p1', by omega, fun H2 r2 A2 x2 p2' h2 T2 l2 E2 => ⟨_, _, rfl, ?_⟩⟩
    have T1' := lt_s T1 (xr_x x2)
    have x3 := x1.trans x2
    have w1 : ∀ qs ∈ A1, qs.length = n := fun qs h => (E1 qs h).1
    have w2 : ∀ qs ∈ A2, qs.length = n := fun qs h => (E2 qs h).1
    have b1 : BdR 5 A1 := fun qs h q hq => ent_bd14 ((E1 qs h).2 q hq)
    have b2 : BdR 5 A2 := fun qs h q hq => ent_bd14 ((E2 qs h).2 q hq)
    have d1 : DvR 2520 A1 := fun qs h q hq => ent_dv14 ((E1 qs h).2 q hq)
    have d2 : DvR 2520 A2 := fun qs h q hq => ent_dv14 ((E2 qs h).2 q hq)
    -- as they are passed, and the law's own determinant
    refine ⟨_, rfl, _, rfl, a, r1, n, A1, rfl, p2', T1', by omega, l1, fun qs h => ⟨w1 qs h, fun q hq => ent_good ((E1 qs h).2 q hq)⟩, fun H4 g1 x4 p4 _ N1 => ?_⟩
    refine ⟨_, rfl, _, rfl, a, r2, n, A2, rfl, p4, lt_s T2 (xr_x x4), by omega, l2, fun qs h => ⟨w2 qs h, fun q hq => ent_good ((E2 qs h).2 q hq)⟩, fun H5 g2 x5 p5 _ N2 => ?_⟩
    have x6 := (x3.trans x4).trans x5
    have T1x := lt_s T1' ((xr_x x4).trans (xr_x x5))
    have T1h := lt_s T1x xr_le
    have N1x := tabX_s N1 (xr_x x5)
    have N1h := tabX_s N1x xr_le
    have N2h := tabX_s N2 xr_le
    refine ⟨_, rfl, r1, A1, rfl, T1h, l1, w1, by omega, cross_good n l1 w1 b1 (by have := cB5 n4; omega), fun H6 cr s6 _ hcr => ⟨_, _, _, rfl, ?_⟩⟩
    obtain ⟨t1, m1, tx1, lm1, lt1⟩ := tx_tabX N1h fun qs h q hq => ent_tiny14 ((E1 qs h).2 q hq)
    obtain ⟨t2, m2, tx2, lm2, lt2⟩ := tx_tabX N2h fun qs h q hq => ent_tiny14 ((E2 qs h).2 q hq)
    have lz : (listText [t1, t2]).length ≤ sizeLine := by
      refine szle ?_
      have := listText_len_le [t1, t2]
      simp only [List.map_cons, List.map_nil, List.sum_cons, List.sum_nil, List.length_cons, List.length_nil] at this
      omega
    have txa : ∀ {G : Hp}, Same H5 G → TxA (ShowQ C) G [.ref g1, .ref g2] [t1, t2] (max m1 (max m2 0)) := fun sG => .cons (tx_s showQ sG _ _ _ tx1) (.cons (tx_s showQ sG _ _ _ tx2) .nil)
    have lm : max m1 (max m2 0) ≤ 2 := by omega
    refine ⟨_, rfl, _, rfl, szle (by show 2 ≤ 100000; decide), fun u hu => ?_⟩
    have su := same_new (o := .lst [V.ref g1, V.ref g2]) hu
    refine ⟨u, _, _, _, _, rfl, upd_same, (by show 2 ≤ 1000; decide), txa (s6.trans su), lm, lz, fun H7 s7 => ?_⟩
    have s57 := s6.trans (su.trans s7)
    have hcr7 := pair_sR hcr (su.trans s7)
    clear su s7 hu s6 hcr
    have dc : detQ A1 = crossQ n A1 := det_cross l1 w1 (bdR_low b1)
    have ok1 : DetOk n A1 := detOk_gen (by omega) l1 w1 (by decide) (by decide) (by decide) b1 d1
    refine ⟨fun σ G => σ = [some (V.ref a), some (V.int n), some (V.ref r1), some (V.ref r2), some (V.ref g1), some (V.ref g2), some (V.ref cr), some (V.str (listText [t1, t2])), none, none, none] ∧ Same H7 G, ?_, ?_⟩
    · refine ⟨_, rfl, .ref g1, n, A1, rfl, tabX_tab (tabX_s N1h s57), ok1, fun H8 q8 s8 R8 => ?_⟩
      refine ⟨q8, detQ A1, rfl, R8, fun H9 p9 s9 _ P9 => ?_⟩
      have s79 := s8.trans s9
      refine ⟨_, rfl, rfl, .ref g1, n, A1, rfl, tabX_tab (tabX_s N1h (s57.trans s79)), ok1, fun H10 q10 s10 R10 => ?_⟩
      refine ⟨q10, detQ A1, rfl, R10, fun H11 p11 s11 _ P11 => ?_⟩
      have s911 := s10.trans s11
      have s711 := s79.trans s911
      refine ⟨szle (by show 2 ≤ 100000; decide), fun L hL => ?_⟩
      have sL := same_new (o := .lst [V.ref p9, V.ref p11]) hL
      have hLL : (upd H11 L (.lst [V.ref p9, V.ref p11])) L = some (.lst [V.ref p9, V.ref p11]) := upd_same
      refine ⟨_, rfl, _, rfl, szle (by show 2 ≤ 100000; decide), fun M hM => ?_⟩
      have sM := same_new (o := .lst [V.ref cr, V.ref cr]) hM
      have hcrM := pair_sR hcr7 (s711.trans (sL.trans sM))
      refine ⟨.list ([detQ A1, detQ A1].map dP), .list ([crossQ n A1, crossQ n A1].map dP), .lst (sl_of (sM _ _ hLL)) (prs_dps ⟨⟨p9, rfl, pair_sR P9 (s911.trans (sL.trans sM))⟩, ⟨p11, rfl, pair_sR P11 (sL.trans sM)⟩, trivial⟩), .lst (sl_of upd_same) (prs_dps ⟨⟨cr, rfl, hcrM⟩, ⟨cr, rfl, hcrM⟩, trivial⟩), shaped_prsC _, shaped_prsC _, ?_⟩
      rw [eqv_prs, dc, decide_eq_true rfl]
      refine ⟨false, rfl, iteF ?_⟩
      have s7M := s711.trans (sL.trans sM)
      refine ⟨_, rfl, _, rfl, szle (by show 2 ≤ 100000; decide), fun u2 hu2 => ?_⟩
      have su2 := same_new (o := .lst [V.ref g1, V.ref g2]) hu2
      refine ⟨u2, _, _, _, _, rfl, upd_same, (by show 2 ≤ 1000; decide), txa ((s57.trans s7M).trans su2), lm, lz, fun H12 s12 => ?_⟩
      refine ⟨_, rfl, rfl, _, rfl, ?_⟩
      exact iteNS rfl ⟨rfl, s7M.trans (su2.trans s12)⟩
    rintro σ H8 ⟨rfl, s78⟩
    have s58 := s57.trans s78
    have sc := cols_shape (n := n) l1
    have okc : DetOk n (colsQ n A1) := detOk_gen (by omega) sc.1 sc.2 (by decide) (by decide) (by decide) (bdR_cols l1 w1 b1) (dvR_cols l1 w1 d1)
    have as12 := times_asks14 (by omega) l1 w1 b1 l2 w2 b2 (by decide)
    have st := times_shape (n := n) (A := A1) (B := A2) l1
    have okt : DetOk n (timesQ n A1 A2) := detOk_gen (D := 2520 * 2520) (k := 1 + n * (5 + 5 + 1)) (by omega) st.1 st.2 (by decide) (by decide) (by omega) (bdR_times (by omega) l1 w1 b1 l2 w2 b2) (dvR_times l1 w1 (bdR_low b1) l2 w2 (bdR_low b2) d1 d2)
    have ok2 : DetOk n A2 := detOk_gen (by omega) l2 w2 (by decide) (by decide) (by decide) b2 d2
    have dc2 : detQ A2 = crossQ n A2 := det_cross l2 w2 (bdR_low b2)
    have sm1 : Small (detQ A1) := by rw [dc]; exact bd_small (crossQ_bd n l1 w1 b1) (by have := cB5 n4; omega)
    have sm2 : Small (detQ A2) := by rw [dc2]; exact bd_small (crossQ_bd n l2 w2 b2) (by have := cB5 n4; omega)
    refine ⟨fun σ G => σ = [some (V.ref a), some (V.int n), some (V.ref r1), some (V.ref r2), some (V.ref g1), some (V.ref g2), some (V.ref cr), some (V.str (listText [t1, t2])), none, none, none] ∧ Same H8 G, ?_, ?_⟩
    · refine ⟨_, rfl, .ref g1, n, A1, rfl, tabX_tab (tabX_s N1h s58), fun H9 q9 s9 _ R9 _ => ?_⟩
      refine ⟨.ref q9, n, colsQ n A1, rfl, tab_of R9 (by omega) sc.1 sc.2, okc, fun H10 q10 s10 R10 => ?_⟩
      have s810 := s9.trans s10
      refine ⟨_, rfl, .ref g1, n, A1, rfl, tabX_tab (tabX_s N1h (s58.trans s810)), ok1, fun H11 q11 s11 R11 => ?_⟩
      have s811 := s810.trans s11
      refine ne_rats (x := detQ A1) (by have := rat_s R10 s11; rwa [det_cols l1 w1 (bdR_low b1)] at this) R11 ⟨false, rfl, iteF ?_⟩
      refine ⟨_, rfl, _, rfl, .ref g1, .ref g2, n, A1, A2, rfl, tabX_tab (tabX_s N1h (s58.trans s811)), tabX_tab (tabX_s N2h (s58.trans s811)), as12.1, as12.2.1, as12.2.2, fun H12 q12 s12 _ R12 _ => ?_⟩
      refine ⟨.ref q12, n, timesQ n A1 A2, rfl, tab_of R12 (by omega) st.1 st.2, okt, fun H13 q13 s13 R13 => ?_⟩
      have s813 := s811.trans (s12.trans s13)
      refine ⟨_, rfl, .ref g1, n, A1, rfl, tabX_tab (tabX_s N1h (s58.trans s813)), ok1, fun H14 q14 s14 R14 => ?_⟩
      have s814 := s813.trans s14
      refine ⟨_, rfl, .ref g2, n, A2, rfl, tabX_tab (tabX_s N2h (s58.trans s814)), ok2, fun H15 q15 s15 R15 => ?_⟩
      have R14' := rat_s R14 s15
      obtain ⟨e14, h14⟩ := id R14'
      obtain ⟨e15, h15⟩ := id R15
      refine ⟨q14, q15, e14, e15, _, _, rfl, rfl, h14, h15, q14, .ref q15, detQ A1, detQ A2, rfl, R14', .inl ⟨q15, rfl, R15⟩, sm1, sm2, fun H16 q16 s16 _ R16 => ⟨q16, rfl, ?_⟩⟩
      refine ne_rats (x := mulQ (detQ A1) (detQ A2)) (by have := rat_s R13 (s14.trans (s15.trans s16)); rwa [det_times l1 w1 (bdR_low b1) l2 w2 (bdR_low b2)] at this) R16 ⟨false, rfl, iteF ⟨rfl, s814.trans (s15.trans s16)⟩⟩
    rintro σ H9 ⟨rfl, s89⟩
    have s59 := s58.trans s89
    have x9 := x6.trans (smx_of s59)
    refine ⟨_, rfl, _, _, rfl, rfl, _, rfl, ?_⟩
    refine ite2 (fun c => q H9 x9 (potS p5 s59)) (fun c => ?_)
    have n2 : 2 ≤ n := by simp at c; omega
    obtain ⟨q0, q1, rs, rfl⟩ : ∃ q0 q1 rs, A1 = q0 :: q1 :: rs := by
      match A1, l1 with
      | q0 :: q1 :: rs, _ => exact ⟨q0, q1, rs, rfl⟩
      | [q0], h => simp at h; omega
      | [], h => simp at h; omega
    -- a number for the first row
    refine ⟨_, rfl, a, rfl, potS p5 s59, fun H10 pn z x10 p10 hpn hz => ?_⟩
    have x910 := x9.trans x10
    have T10x := lt_s T1x ((xr_s s59).trans (xr_x x10))
    have N10x := tabX_s N1x ((xr_s s59).trans (xr_x x10))
    have hcr10 : PairAt K H10 cr (crossQ n (q0 :: q1 :: rs)) := by
      have : PrsP K H10 [.ref cr] [crossQ n (q0 :: q1 :: rs)] := prs_x ⟨⟨cr, rfl, pair_sR hcr7 (s78.trans s89)⟩, trivial⟩ (potS p5 s59) x10
      obtain ⟨⟨p', e, h⟩, _⟩ := this
      cases e
      exact h
    obtain ⟨xs, hxs, hP⟩ := id T10x
    have hxG := xr_le _ _ hxs
    obtain ⟨qa, ca, ya, fa1, fa2, fa3, fa4⟩ := pt_at hP 0 _ (List.getElem?_eq_getElem (by have := pt_len hP; simp at this; omega))
    cases fa1
    have h0x : xs[0]? = some (V.ref ca) := by rw [← fa2]; exact List.getElem?_eq_getElem _
    have lya := (prs_at fa4).1
    have lq0 := w1 q0 (by simp)
    have szz : Bd 5 z := ent_bd14 hz.1
    refine ⟨_, rfl, r1, xs, _, _, rfl, rfl, sl_of hxG, atI_nat (j := 0) h0x, ca, rfl, ⟨ya, sl_of (xr_le _ _ fa3)⟩, fun D hD => ?_⟩
    refine lc_list (xs := ya) (fun k G => Same H10 G ∧ ∃ ac, G D = some (.lst ac) ∧ PrsP K G ac ((q0.map (mulQ z)).take k)) ⟨same_new hD, [], upd_same, by simp [PrsP]⟩ (fun k G _ p => sl_of (p.1 _ _ (xr_le _ _ fa3))) ?_ ?_
    · rintro k y G hy ⟨sG, ac, hac, hQ⟩
      obtain ⟨z2, pp, hz2, rfl, hpp⟩ := (prs_at fa4).2 k y hy
      have fewk := (prs_at hQ).1
      have : ((q0.map (mulQ z)).take k).length ≤ 60 := by rw [List.length_take, List.length_map]; omega
      refine ⟨rfl, _, rfl, _, rfl, pn, pp, z, z2, rfl, pair_sR hpn sG, pair_sR hpp (xr_le.trans sG), bd_small szz (by decide), bd_small (b1 q0 (by simp) z2 (List.mem_of_getElem? hz2)) (by decide), fun G2 r s2 _ hr2 => ?_⟩
      refine ⟨ac, s2 _ _ hac, szlt (by omega), same_mut (sG.trans s2) hD, ac ++ [.ref r], upd_same, ?_⟩
      rw [take_at (x := mulQ z z2) (by rw [List.getElem?_map, hz2]; rfl)]
      exact prs_butR (s2 _ _ hac) smx_upd (prs_appR (prs_sR s2 hQ) ⟨⟨r, rfl, hr2⟩, trivial⟩)
    rintro G ⟨sG, ac, hac, hQ⟩
    rw [show (q0.map (mulQ z)).take ya.length = q0.map (mulQ z) from List.take_of_length_le (by rw [List.length_map]; omega)] at hQ
    refine ⟨szle (by show 1 ≤ 100000; decide), fun L hL => ?_⟩
    have sL := same_new (o := .lst [V.ref D]) hL
    have hLL : (upd G L (.lst [V.ref D])) L = some (.lst [V.ref D]) := upd_same
    have s10L := sG.trans sL
    refine ⟨_, rfl, _, rfl, r1, xs, rfl, sl_of (s10L _ _ hxG), fun S hS => ?_⟩
    have e1 : cutV xs (some (1 : Int)) none = xs.drop 1 := cut_from (k := 1)
    rw [e1]
    have sS := same_new (o := .lst (xs.drop 1)) hS
    have lxs := pt_len hP
    have lA : (q0 :: q1 :: rs).length = n := l1
    refine ⟨L, S, _, _, rfl, rfl, sS _ _ hLL, upd_same, szle (by rw [List.length_drop]; simp; omega), fun W hW => ?_⟩
    have sW := same_new (o := .lst ([V.ref D] ++ xs.drop 1)) hW
    have s10W := s10L.trans (sS.trans sW)
    have sGW := sL.trans (sS.trans sW)
    have potW := potS p10 s10W
    have nDa := potF p10 hD
    have nWa : W ≠ a := potF (potS p10 (s10L.trans sS)) hW
    have TW : LTab K (xr a a (upd (upd (upd G L (.lst [V.ref D])) S (.lst (xs.drop 1))) W (.lst ([V.ref D] ++ xs.drop 1)))) W (q0.map (mulQ z) :: q1 :: rs) := by
      obtain ⟨u, v, gg, _⟩ := id potW
      refine ⟨[V.ref D] ++ xs.drop 1, xr_get nWa nWa upd_same, ⟨D, ac, rfl, xr_get nDa nDa (sGW _ _ hac), prs_xr gg gg (prs_sR sGW hQ)⟩, ?_⟩
      exact pt_s (xr_s s10W) (pt_drop1 hP)
    generalize upd (upd (upd G L (.lst [V.ref D])) S (.lst (xs.drop 1))) W (.lst ([V.ref D] ++ xs.drop 1)) = HW at s10W potW TW ⊢
    clear sS sW sGW sL hLL hQ hac sG s10L hL hS hW
    have P10W := lt_s T10x (xr_s s10W)
    have N10W := tabX_s N10x (xr_s s10W)
    have hcrW := pair_sR hcr10 s10W
    have hpnW := pair_sR hpn s10W
    have xW := x910.trans (smx_of s10W)
    have lS : (q1 :: q0 :: rs).length = n := l1
    have sub : ∀ {r}, r ∈ q1 :: q0 :: rs → r ∈ q0 :: q1 :: rs := fun {r} h => by
      simp at h ⊢
      rcases h with h | h | h
      · exact .inr (.inl h)
      · exact .inl h
      · exact .inr (.inr h)
    have okS : DetOk n (q1 :: q0 :: rs) := detOk_gen (by omega) lS (fun r h => w1 r (sub h)) (by decide) (by decide) (by decide) (fun r h => b1 r (sub h)) (fun r h => d1 r (sub h))
    have dS := det_swapQ (n := n) l1 w1 (bdR_low b1)
    obtain ⟨xs', hxs', hP'⟩ := id P10W
    have hxW := xr_le _ _ hxs'
    have lxs' := pt_len hP'
    have lA : (q0 :: q1 :: rs).length = n := l1
    have lxn : xs'.length = n := lxs'.trans lA
    obtain ⟨qb, cb, yb, fb1, fb2, fb3, fb4⟩ := pt_at hP' 0 _ (List.getElem?_eq_getElem (by simp at lxs'; omega))
    cases fb1
    obtain ⟨qc, cc, yc, fc1, fc2, fc3, fc4⟩ := pt_at hP' 1 _ (List.getElem?_eq_getElem (by simp at lxs'; omega))
    cases fc1
    have h0 : xs'[0]? = some (V.ref cb) := by rw [← fb2]; exact List.getElem?_eq_getElem _
    have h1x : xs'[1]? = some (V.ref cc) := by rw [← fc2]; exact List.getElem?_eq_getElem _
    refine ⟨fun σ G => σ = [some (V.ref a), some (V.int n), some (V.ref r1), some (V.ref r2), some (V.ref g1), some (V.ref g2), some (V.ref cr), some (V.str (listText [t1, t2])), some (V.ref pn), some (V.ref W), none] ∧ SmX a HW G ∧ Pot G a, ?_, ?_⟩
    · refine ⟨_, rfl, _, rfl, r1, xs', _, _, rfl, rfl, sl_of hxW, atI_nat (j := 1) h1x, _, rfl, r1, xs', _, _, rfl, rfl, sl_of hxW, atI_nat (j := 0) h0, szle (by show 2 ≤ 100000; decide), fun L hL => ?_⟩
      have sL := same_new (o := .lst [V.ref cc, V.ref cb]) hL
      have hLL : (upd HW L (.lst [V.ref cc, V.ref cb])) L = some (.lst [V.ref cc, V.ref cb]) := upd_same
      refine ⟨_, rfl, _, rfl, r1, xs', rfl, sl_of (sL _ _ hxW), fun S hS => ?_⟩
      have e2 : cutV xs' (some (2 : Int)) none = xs'.drop 2 := cut_from (k := 2)
      rw [e2]
      have sS := same_new (o := .lst (xs'.drop 2)) hS
      refine ⟨L, S, _, _, rfl, rfl, sS _ _ hLL, upd_same, szle (by rw [List.length_drop]; show 2 + (xs'.length - 2) ≤ 100000; omega), fun W2 hW2 => ?_⟩
      have sW2 := same_new (o := .lst ([V.ref cc, V.ref cb] ++ xs'.drop 2)) hW2
      have sWW := sL.trans (sS.trans sW2)
      have nW2 : W2 ≠ a := potF (potS potW (sL.trans sS)) hW2
      have TS : LTab K (xr a a (upd (upd (upd HW L (.lst [V.ref cc, V.ref cb])) S (.lst (xs'.drop 2))) W2 (.lst ([V.ref cc, V.ref cb] ++ xs'.drop 2)))) W2 (q1 :: q0 :: rs) := by
        refine ⟨[V.ref cc, V.ref cb] ++ xs'.drop 2, xr_get nW2 nW2 upd_same, ?_⟩
        refine pt_s (xr_s sWW) (show PtRows K (xr a a HW) (V.ref cc :: V.ref cb :: xs'.drop 2) (q1 :: q0 :: rs) from ⟨⟨cc, yc, rfl, fc3, fc4⟩, ⟨cb, yb, rfl, fb3, fb4⟩, ?_⟩)
        exact pt_drop1 (pt_drop1 hP') |> fun h => by
          rw [List.drop_drop] at h
          exact h
      generalize upd (upd (upd HW L (.lst [V.ref cc, V.ref cb])) S (.lst (xs'.drop 2))) W2 (.lst ([V.ref cc, V.ref cb] ++ xs'.drop 2)) = HX at sWW TS ⊢
      have potX := potS potW sWW
      refine ⟨a, W2, n, q1 :: q0 :: rs, rfl, potX, TS, by omega, lS, fun qs h => ⟨w1 qs (sub h), fun q hq => ent_good ((E1 qs (sub h)).2 q hq)⟩, fun H11 g3 x11 p11 _ N3 => ?_⟩
      refine ⟨.ref g3, n, q1 :: q0 :: rs, rfl, tabX_tab (tabX_s N3 xr_le), okS, fun H12 q12 s12 R12 => ?_⟩
      have N11 := tabX_s N10W ((xr_s sWW).trans (xr_x x11))
      refine ⟨_, rfl, .ref g1, n, q0 :: q1 :: rs, rfl, tabX_tab (tabX_s N11 (xr_le.trans s12)), ok1, fun H13 q13 s13 R13 => ?_⟩
      obtain ⟨e13, h13⟩ := id R13
      refine ⟨q13, e13, _, rfl, h13, q13, detQ (q0 :: q1 :: rs), rfl, R13, sm1, fun H14 q14 s14 R14 => ?_⟩
      refine ne_rats (x := lowQ (-(detQ (q0 :: q1 :: rs)).1) (detQ (q0 :: q1 :: rs)).2) (by have := rat_s R12 (s13.trans s14); rwa [dS] at this) R14 ⟨false, rfl, iteF ⟨rfl, ?_, ?_⟩⟩
      · exact ((smx_of sWW).trans x11).trans (smx_of (s12.trans (s13.trans s14)))
      · exact potS p11 (s12.trans (s13.trans s14))
    rintro σ HY ⟨rfl, xY, potY⟩
    have bW : BdR 10 (q0.map (mulQ z) :: q1 :: rs) := fun r hr y hy => by
      rcases List.mem_cons.mp hr with h | h
      · rw [h] at hy
        obtain ⟨y0, hy0, rfl⟩ := List.mem_map.mp hy
        exact bd_mul szz (b1 q0 (by simp) y0 hy0)
      · exact bd_le (b1 r (List.mem_cons_of_mem _ h) y hy) (by decide)
    have wW : ∀ r ∈ q0.map (mulQ z) :: q1 :: rs, r.length = n := fun r hr => by
      rcases List.mem_cons.mp hr with h | h
      · rw [h, List.length_map]; exact lq0
      · exact w1 r (List.mem_cons_of_mem _ h)
    have lW : (q0.map (mulQ z) :: q1 :: rs).length = n := l1
    have okW : DetOk n (q0.map (mulQ z) :: q1 :: rs) := detOk_gen (D := 2520 * 2520) (by omega) lW wW (by decide) (by decide) (by decide) bW (dvR_scale hz.1.low (ent_dv14 hz.1) (by decide) (bdR_low b1) d1)
    have dW : detQ (q0.map (mulQ z) :: q1 :: rs) = mulQ z (crossQ n (q0 :: q1 :: rs)) := by rw [← dc]; exact det_scaleQ hz.1.low l1 w1 (bdR_low b1)
    refine ⟨_, rfl, _, rfl, a, W, n, q0.map (mulQ z) :: q1 :: rs, rfl, potY, lt_s TW (xr_x xY), by omega, lW, fun r hr => ⟨wW r hr, fun y hy => ⟨(bW r hr y hy).low, bd_small (bW r hr y hy) (by decide)⟩⟩, fun H15 g4 x15 p15 _ N4 => ?_⟩
    refine ⟨.ref g4, n, q0.map (mulQ z) :: q1 :: rs, rfl, tabX_tab (tabX_s N4 xr_le), okW, fun H16 q16 s16 R16 => ?_⟩
    refine ⟨q16, detQ (q0.map (mulQ z) :: q1 :: rs), rfl, R16, fun H17 p17 s17 _ P17 => ?_⟩
    have xW15 := xY.trans x15
    have s157 := s16.trans s17
    refine ⟨_, rfl, _, rfl, pn, cr, z, crossQ n (q0 :: q1 :: rs), rfl, pair_sR (pair_x14 hpnW potW xW15) s157, pair_sR (pair_x14 hcrW potW xW15) s157, bd_small szz (by decide), by rw [← dc]; exact sm1, fun H18 p18 s18 _ P18 => ?_⟩
    refine ⟨dP (detQ (q0.map (mulQ z) :: q1 :: rs)), dP (mulQ z (crossQ n (q0 :: q1 :: rs))), dP_mk (pair_sR P17 s18), dP_mk P18, shaped_pair14 _, shaped_pair14 _, ?_⟩
    rw [eqv_dPq, dW, decide_eq_true rfl]
    exact q H18 ((xW.trans xW15).trans (smx_of (s157.trans s18))) (potS p15 (s157.trans s18))
end
end Tk

namespace Tk
open PySem PySem.Spec PyProof.Rows L2 ClX
/-! ## corner_right: the line, rows added -/
theorem bd_getD {b : Nat} {A : List (List (Int × Int))} (h : BdR (b + 1) A) (i j : Nat) : Bd (b + 1) ((A[i]?.getD [])[j]?.getD (0, 1)) := by
  have z : Bd (b + 1) (0, 1) := bd_le (k := 1) ⟨low_01, by decide, by decide⟩ (by omega)
  cases e : A[i]? with
  | none => simpa using z
  | some r =>
    show Bd (b + 1) (r[j]?.getD (0, 1))
    cases e2 : r[j]? with
    | none => exact z
    | some y => exact h r (List.mem_of_getElem? e) y (List.mem_of_getElem? e2)
theorem lineQ_app {A B : List (List (Int × Int))} : ∀ {k : Nat}, k ≤ A.length → lineQ (A ++ B) k = lineQ A k
  | 0, _ => rfl
  | k + 1, h => by
    show mulQ (lineQ (A ++ B) k) _ = mulQ (lineQ A k) _
    rw [lineQ_app (by omega), List.getElem?_append_left (by omega)]
theorem lineQ_bd {A : List (List (Int × Int))} (h : BdR 5 A) : ∀ k, Bd (1 + 5 * k) (lineQ A k)
  | 0 => (show Bd 1 (1, 1) from ⟨low_11, by decide, by decide⟩)
  | k + 1 => bd_le (bd_mul (lineQ_bd h k) (bd_getD (b := 4) h k k)) (by omega)
theorem plusQ_get {z : Int × Int} {r s : List (Int × Int)} {i : Nat} {x y : Int × Int} (hx : r[i]? = some x) (hy : s[i]? = some y) : (plusQ z r s)[i]? = some (addQ x (mulQ z y)) := by
  unfold plusQ
  rw [List.getElem?_zipWith, hx, hy]
theorem plusQ_len {z : Int × Int} {r s : List (Int × Int)} (h : r.length = s.length) : (plusQ z r s).length = r.length := by
  unfold plusQ
  rw [List.length_zipWith]
  omega
theorem plusQ_mem {z : Int × Int} {r s : List (Int × Int)} {q : Int × Int} (h : q ∈ plusQ z r s) : ∃ x y, x ∈ r ∧ y ∈ s ∧ q = addQ x (mulQ z y) := by
  unfold plusQ at h
  obtain ⟨i, hi, rfl⟩ := List.getElem_of_mem h
  rw [List.getElem_zipWith]
  exact ⟨_, _, List.getElem_mem _, List.getElem_mem _, rfl⟩
theorem plusQ_bd {k : Nat} {z : Int × Int} {r s : List (Int × Int)} (hz : Bd 2 z) (hr : ∀ q ∈ r, Bd k q) (hs : ∀ q ∈ s, Bd k q) : ∀ q ∈ plusQ z r s, Bd (2 * k + 3) q := fun q hq => by
  obtain ⟨x, y, hx, hy, rfl⟩ := plusQ_mem hq
  exact bd_le (bd_add (hr x hx) (bd_mul hz (hs y hy))) (by omega)
theorem plusQ_dv {D : Nat} {z : Int × Int} {r s : List (Int × Int)} (lz : LowQ z) (hz : z.2 = 1) (lr : ∀ q ∈ r, LowQ q) (ls : ∀ q ∈ s, LowQ q) (hr : ∀ q ∈ r, DvQ D q) (hs : ∀ q ∈ s, DvQ D q) : ∀ q ∈ plusQ z r s, DvQ D q := fun q hq => by
  obtain ⟨x, y, hx, hy, rfl⟩ := plusQ_mem hq
  have d1 : DvQ 1 z := dv_of lz.pos (by rw [hz]; decide)
  have d2 := dv_mul lz (ls y hy) d1 (hs y hy)
  rw [Nat.one_mul] at d2
  unfold DvQ at *
  rw [val_add (lr x hx).ne (low_mul lz (ls y hy)).ne]
  have e : (valQ x + valQ (mulQ z y)) * (D : Rat) = valQ x * (D : Rat) + valQ (mulQ z y) * (D : Rat) := by grind
  rw [e]
  exact (hr x hx).add d2
theorem ite2C {b : Bool} {x y : Int} {σ : L2.St} {G : Hp} {R : VK} (h : ∀ m, (m = x ∧ b = true ∨ m = y ∧ b = false) → R (.int m) G) : if b = true then tC (.int x) σ G R else tC (.int y) σ G R := by
  cases b
  · exact h y (.inr ⟨rfl, rfl⟩)
  · exact h x (.inl ⟨rfl, rfl⟩)
def bitT : Nat → Nat
  | 0 => 5
  | t + 1 => 2 * bitT t + 3
theorem bitT_le {t : Nat} (h : t ≤ 4) : bitT t ≤ 125 := by
  have : t = 0 ∨ t = 1 ∨ t = 2 ∨ t = 3 ∨ t = 4 := by omega
  rcases this with h | h | h | h | h <;> (subst h; decide)
theorem bitT_up (t : Nat) : bitT t ≤ bitT (t + 1) := by
  show bitT t ≤ 2 * bitT t + 3
  omega
abbrev pick14 : List (Int × Int) := [(1, 1), (-1, 1), (2, 1)]
theorem pick_14 {z : Int × Int} (h : z ∈ pick14) : Bd 2 z ∧ z.2 = 1 ∧ LowQ z := by
  simp only [List.mem_cons, List.not_mem_nil, or_false] at h
  rcases h with rfl | rfl | rfl <;> exact ⟨⟨⟨by decide, by decide⟩, by decide, by decide⟩, by decide, ⟨by decide, by decide⟩⟩
theorem prs_dropC {K : PySem.W.Frag} {H : Hp} : ∀ {k : Nat} {xs : List V} {qs : List (Int × Int)}, PrsP K H xs qs → PrsP K H (xs.drop k) (qs.drop k)
  | 0, _, _, h => h
  | k + 1, [], [], _ => trivial
  | k + 1, _ :: _, _ :: _, ⟨_, h⟩ => prs_dropC (k := k) h
  | k + 1, [], _ :: _, h => h.elim
  | k + 1, _ :: _, [], h => h.elim
theorem far14 {n : Nat} {d e : Int} (d0 : 0 ≤ d) (d1 : d < n) (e0 : 0 ≤ e) (e1 : e < (n : Int) - 1) : 0 ≤ (d + 1 + e) % (n : Int) ∧ (d + 1 + e) % (n : Int) < n ∧ (d + 1 + e) % (n : Int) ≠ d := by
  have n0 : (0 : Int) < n := by omega
  refine ⟨Int.emod_nonneg _ (by omega), Int.emod_lt_of_pos _ n0, ?_⟩
  by_cases c : d + 1 + e < n
  · rw [Int.emod_eq_of_lt (by omega) c]
    omega
  · have : (d + 1 + e) % (n : Int) = (d + 1 + e - n) % (n : Int) := (Int.sub_emod_right _ _).symm
    rw [this, Int.emod_eq_of_lt (by omega) (by omega)]
    omega
structure Calls14b (P : Program) (w : World) (K : PySem.W.Frag) (mg : Str → Option Value) (base : Heap) (C : Addr) : Prop where
  row : ∃ f fd, Df K mg "_law_row" sRowR ["_law_pot_here", "_law_wide"] f fd ∧ FnOk P w K mg base CX0 4 f fd ["_law_pot_here", "_law_wide"] (spRowR K)
  draw : ∃ f fd, Df K mg "_law_draw" sDraw ["_law_pot_here", "_law_room"] f fd ∧ FnOk P w K mg base CX0 1 f fd ["_law_pot_here", "_law_room"] spDraw
  pick : ∃ f fd, Df K mg "_law_pick" sPick ["_law_pot_here", "_law_some"] f fd ∧ FnOk P w K mg base CX0 2 f fd ["_law_pot_here", "_law_some"] (spPick K)
  sum : ∃ f fd, Df K mg "_law_sum" sSumR ["_law_one", "_law_other"] f fd ∧ FnOk P w K mg base CX0 2 f fd ["_law_one", "_law_other"] (spTwoR K addQ)
def spCorner14 : Sp := fun vs H Q _ => ∃ (a : Addr) (n : Nat), vs = [.ref a, .int n] ∧ Pot H a ∧ 1 ≤ n ∧ n ≤ 6 ∧ ∀ H', SmX a H H' → Pot H' a → Q (.bl true) H'
section
variable {P : Program} {w : World} {K : PySem.W.Frag} {mg : Str → Option Value} {base : Heap}
abbrev nCor14 : List Str := ["_law_pot_here", "_law_size", "_law_rows", "_law_line", "_law_at", "_law_row_here", "_law_turn", "_law_one", "_law_number", "_law_other", "_law_near", "_law_far"]
theorem sc_cor14 : FnScope nCor14 ["_law_pot_here", "_law_size"] (defScope sCorner14) := ⟨rfl, rfl, rfl, by decide +kernel, rfl, by decide +kernel, by decide +kernel⟩
abbrev teCor14 (K : PySem.W.Frag) : TE := tCall (spTwoR K addQ) [] E0 (tCons (tVar 10) (tCons (tCall (spTwoR K mulQ) [] E0 (tCons (tVar 8) (tCons (tVar 11) tNil))) tNil))
theorem ok_cor14 {f C : Addr} {fd : FuncData} (F : Fun K "_law_corner_right" "_law_corner_right" sCorner14 f fd) (Z : Calls14 P w K mg base C) (Y : Calls14b P w K mg base C) (B : Bl mg) : FnOk P w K mg base CX0 9 f fd ["_law_pot_here", "_law_size"] spCorner14 := by
  obtain ⟨fG, dG, DG, GG⟩ := Z.given
  obtain ⟨fD, dD, DD, GD, kD⟩ := Z.det
  obtain ⟨fQ, dQ, DQ, GQ⟩ := Z.pair
  obtain ⟨fB, dB', DB, GB⟩ := Z.by_
  obtain ⟨fR, dR, DR, GR⟩ := Y.row
  obtain ⟨fW, dW, DW, GW⟩ := Y.draw
  obtain ⟨fK, dK, DK, GK⟩ := Y.pick
  obtain ⟨fS, dS, DS, GS⟩ := Y.sum
  refine F.ok sc_cor14 (fun vs H Q E h => ?_) (fun cdv A outer s H vs Q E hr h => ?_)
  · obtain ⟨a, n, rfl, _⟩ := h
    rfl
  · obtain ⟨a, n, rfl, pot, n1, n6, q⟩ := h
    have hr1 : Room 1 _ := hr.mono (by decide)
    have hr2 : Room 2 _ := hr.mono (by decide)
    have hr3 : Room 3 _ := hr.mono (by decide)
    have hr4 : Room 4 _ := hr.mono (by decide)
    have hr6 : Room 6 _ := hr.mono (by decide)
    have hr7 : Room 7 _ := hr.mono (by decide)
    have hu := hr.units
    refine ⟨_, pss_cons (ps_par (i := 2) (j := 3) rfl sc_cor14.nd rfl rfl (by decide) rfl rfl (pa_cons (pe_lst pa_nil) (pa_cons (pe_tup (pa_cons pe_int (pa_cons pe_int pa_nil))) pa_nil)) (by rfl))
      (pss_cons (ps_for PassesOwn.never rfl (pi_range1 rfl B.range (pa_cons (pv 1) pa_nil)) (pg_name (i := 4) sc_cor14.nd rfl (Or.inl rfl))
        (pss_cons (ps_set (i := 5) sc_cor14.nd rfl (Or.inl rfl) (pe_call GR hr4 rfl DR.g DR.F.kp DR.b .nil pass0 (pa_cons (pv 0) (pa_cons (pv 1) pa_nil))))
        (pss_cons (ps_expr (pe_bm PySem.F.plainAttrs_list PySem.F.slot_list_append PySem.F.type_list_append mt_append (pv 2) (pa_cons (pe_op op_cat (pe_op op_rep (pe_lst (pa_cons (pe_tup (pa_cons pe_int (pa_cons pe_int pa_nil))) pa_nil)) (pv 4)) (pe_slice sl_list (pv 5) (po_some (pv 4)) po_none)) pa_nil)))
        (pss_one (ps_set (i := 3) sc_cor14.nd rfl (Or.inl rfl) (pe_call GB hr2 rfl DB.g DB.F.kp DB.b .nil pass0 (pa_cons (pv 3) (pa_cons (pe_ix ix_list (pe_ix ix_list (pv 2) (pv 4) (fun _ _ => rfl)) (pv 4) (fun _ _ => rfl)) pa_nil))))))))
      (C8.pss_cut (ps_if (pt_cmpR (op_neD hu) (pe_call GQ hr3 rfl DQ.g DQ.F.kp DQ.b .nil pass0 (pa_cons (pe_call GD hr7 rfl DD.g DD.F.kp DD.b .nil pass0 (pa_cons (pe_call GG hr6 rfl DG.g DG.F.kp DG.b .nil pass0 (pa_cons (pv 0) (pa_cons (pv 2) pa_nil))) pa_nil)) pa_nil)) (pv 3) (nomark _)) (pss_one (ps_ret pe_bl)) pss_nil)
      (pss_cons (ps_for PassesOwn.never rfl (pi_range1 rfl B.range (pa_cons (pe_ifExp (pt_cmpR op_gt (pv 1) pe_int (nomark _)) pe_int pe_int) pa_nil)) (pg_name (i := 6) sc_cor14.nd rfl (Or.inl rfl))
        (pss_cons (ps_asg (pe_tup (pa_cons (pe_call GW hr1 rfl DW.g DW.F.kp DW.b .nil pass0 (pa_cons (pv 0) (pa_cons (pv 1) pa_nil))) (pa_cons (pe_call GK hr2 rfl DK.g DK.F.kp DK.b .nil pass0 (pa_cons (pv 0) (pa_cons (pe_lst (t := tPairsR [(1, 1), (-1, 1), (2, 1)]) (pa_cons (pe_tup (pa_cons pe_int (pa_cons pe_int pa_nil))) (pa_cons (pe_tup (pa_cons pe_negR (pa_cons pe_int pa_nil))) (pa_cons (pe_tup (pa_cons pe_int (pa_cons pe_int pa_nil))) pa_nil)))) pa_nil))) pa_nil)))
            (pg_tup rfl (pgs_cons (pg_name (i := 7) sc_cor14.nd rfl (Or.inl rfl)) (pgs_cons (pg_name (i := 8) sc_cor14.nd rfl (Or.inr rfl)) pgs_nil))))
        (pss_cons (ps_set (i := 9) sc_cor14.nd rfl (Or.inl rfl) (pe_op op_mod (pe_callTy call_int1 (by rfl) B.int PyProof.Rows.boot_int (pa_cons (pe_op op_add (pe_op op_add (pv 7) pe_int) (pe_call GW hr1 rfl DW.g DW.F.kp DW.b .nil pass0 (pa_cons (pv 0) (pa_cons (pe_op op_sub (pv 1) pe_int) pa_nil)))) pa_nil)) (pv 1)))
        (pss_one (ps_asg (pe_lc (own := [("_law_near", 10), ("_law_far", 11)]) (g := g2 K 10 11) (tt := tYes) (te := teCor14 K) rfl sc_cor14.nd (ZmX.pi_zipB (by rfl) B.zip (pa_cons (pe_ix ix_list (pv 2) (pv 7) (fun _ _ => rfl)) (pa_cons (pe_ix ix_list (pv 2) (pv 9) (fun _ _ => rfl)) pa_nil))) (blkOk_by (N := nCor14) (sc := defScope sCorner14) (by decide +kernel))
            (fun _ _ _ _ _ => pg_tup rfl (pgs_cons (pg_name (i := 10) sc_cor14.nd rfl (Or.inl rfl)) (pgs_cons (pg_name (i := 11) sc_cor14.nd rfl (Or.inl rfl)) pgs_nil))) (fun _ _ _ _ _ => pts_nil)
            (fun _ _ _ _ _ => pe_call GS hr2 rfl DS.g DS.F.kp DS.b .nil pass0 (pa_cons (pv 10) (pa_cons (pe_call GB hr2 rfl DB.g DB.F.kp DB.b .nil pass0 (pa_cons (pv 8) (pa_cons (pv 11) pa_nil))) pa_nil)))) (pg_sub (pv 2) (pv 7) set_list))))))
      (pss_one (ps_ret (pe_cmpR (op_eqD hu) (pe_call GQ hr3 rfl DQ.g DQ.F.kp DQ.b .nil pass0 (pa_cons (pe_call GD hr7 rfl DD.g DD.F.kp DD.b .nil pass0 (pa_cons (pe_call GG hr6 rfl DG.g DG.F.kp DG.b .nil pass0 (pa_cons (pv 0) (pa_cons (pv 2) pa_nil))) pa_nil)) pa_nil)) (pv 3) (nomark _))))))), ?_⟩
    refine ⟨szle (by show 0 ≤ 100000; decide), fun r hr0 => ⟨szle (by show 2 ≤ 100000; decide), fun t ht => ⟨_, _, rfl, ?_⟩⟩⟩
    have s0 := (same_new (o := .lst []) hr0).trans (same_new (o := .tup [V.int 1, V.int 1]) ht)
    have nra := potF pot hr0
    have ntr : t ≠ r := fun e => by rw [e, upd_same] at ht; cases ht
    have nta : t ≠ a := potF (potS pot (same_new hr0)) ht
    have hR0 : (upd (upd H r (.lst [])) t (.tup [V.int 1, V.int 1])) r = some (.lst []) := by rw [upd_ne ntr.symm]; exact upd_same
    have hp0 : PairAt K (xr a r (upd (upd H r (.lst [])) t (.tup [V.int 1, V.int 1]))) t (1, 1) := st_of (xr_get nta ntr upd_same)
    generalize upd (upd H r (.lst [])) t (.tup [V.int 1, V.int 1]) = H0 at s0 hR0 hp0
    clear ht
    have p0 := potS pot s0
    refine ⟨_, rfl, n, rfl, by omega, by omega, ?_⟩
    rw [Int.toNat_natCast]
    refine for_range (lo := 0) (n := n) (fun k σ G => ∃ (v4 v5 : Option V) (p : Addr) (acc : List V) (A : List (List (Int × Int))), σ = [some (.ref a), some (.int n), some (.ref r), some (.ref p), v4, v5, none, none, none, none, none, none] ∧ SmX a H G ∧ Pot G a ∧ G r = some (.lst acc) ∧ PtRows K (xr a r G) acc A ∧ A.length = k ∧ (∀ q ∈ A, q.length = n ∧ ∀ z ∈ q, Ent5 z) ∧ (∀ i j, i < k → j < i → (A[i]?.getD [])[j]?.getD (0, 1) = (0, 1)) ∧ PairAt K (xr a r G) p (lineQ A k))
      ⟨_, _, t, [], [], rfl, smx_of s0, p0, hR0, trivial, rfl, fun q h => (nomatch h), fun i j h => absurd h (by omega), hp0⟩ ?_ ?_
    · rintro k σ G hk ⟨v4, v5, p, acc, A, rfl, xS, pG, hacc, hP, hl, hE, hC, hp⟩
      have l1 := pt_len hP
      rw [Int.zero_add]
      refine ⟨_, rfl, _, rfl, a, n, rfl, pG, by omega, fun G1 rw xs qs x1 p1 f0 f1 hQ lq hEq => ?_⟩
      have hacc1 := x1 _ _ nra hacc
      have nwa := potF pG f0
      have nwr : rw ≠ r := fun e => by rw [e, hacc] at f0; cases f0
      have lxs := (prs_at hQ).1
      refine ⟨_, rfl, .inl ⟨rfl, _, sl_of hacc1⟩, ?_⟩
      refine ⟨szle (by show 2 ≤ 100000; decide), fun u hu => ⟨szle (by show 1 ≤ 100000; decide), fun b hb => ?_⟩⟩
      have s1 := same_new (o := .tup [V.int 0, V.int 1]) hu
      have s2 := same_new (o := .lst [V.ref u]) hb
      refine ⟨_, rfl, b, k, [V.ref u], rfl, rfl, upd_same, by omega, by omega, szle (by show 1 * (k : Int).toNat ≤ 100000; omega), fun D2 hD2 => ?_⟩
      have s3 := same_new (o := .lst (List.replicate (k : Int).toNat [V.ref u]).flatten) hD2
      have e0 : (List.replicate (k : Int).toNat [V.ref u]).flatten = List.replicate k (V.ref u) := by rw [Int.toNat_natCast, List.flatten_replicate_singleton]
      rw [e0] at s3 ⊢
      have s13 := s1.trans (s2.trans s3)
      refine ⟨_, rfl, _, rfl, _, rfl, rw, xs, rfl, sl_of (s13 _ _ f1), fun S hS => ?_⟩
      have e1 : cutV xs (some (k : Int)) none = xs.drop k := cut_from (k := k)
      rw [e1]
      have s4 := same_new (o := .lst (xs.drop k)) hS
      refine ⟨D2, S, _, _, rfl, rfl, s4 _ _ upd_same, upd_same, szle (by rw [List.length_replicate, List.length_drop]; omega), fun W hW => ?_⟩
      have s5 := same_new (o := .lst (List.replicate k (V.ref u) ++ xs.drop k)) hW
      have sGW := s13.trans (s4.trans s5)
      have nWa : W ≠ a := potF (potS p1 (s13.trans s4)) hW
      have nWr : W ≠ r := fun e => by rw [e, (s13.trans s4) _ _ hacc1] at hW; cases hW
      have hWW : (upd (upd (upd (upd (upd G1 u (HO.tup [V.int 0, V.int 1])) b (HO.lst [V.ref u])) D2 (HO.lst (List.replicate k (V.ref u)))) S (HO.lst (List.drop k xs))) W (.lst (List.replicate k (V.ref u) ++ xs.drop k))) W = some (.lst (List.replicate k (V.ref u) ++ xs.drop k)) := upd_same
      have hrow : PrsP K (upd (upd (upd (upd (upd G1 u (HO.tup [V.int 0, V.int 1])) b (HO.lst [V.ref u])) D2 (HO.lst (List.replicate k (V.ref u)))) S (HO.lst (List.drop k xs))) W (.lst (List.replicate k (V.ref u) ++ xs.drop k))) (List.replicate k (V.ref u) ++ xs.drop k) (List.replicate k (0, 1) ++ qs.drop k) :=
        prs_appR (prs_rep (pair_sR (K := K) (q := (0, 1)) (st_of upd_same) (s2.trans (s3.trans (s4.trans s5))))) (prs_sR sGW (prs_dropC hQ))
      generalize upd (upd (upd (upd (upd G1 u (HO.tup [V.int 0, V.int 1])) b (HO.lst [V.ref u])) D2 (HO.lst (List.replicate k (V.ref u)))) S (HO.lst (List.drop k xs))) W (.lst (List.replicate k (V.ref u) ++ xs.drop k)) = HW at sGW hWW hrow ⊢
      clear s5 hW s4 hS s3 s13 hD2 s2 s1 hb hu e0 e1
      have haccW := sGW _ _ hacc1
      obtain ⟨u1, u2, hau, _⟩ := potS p1 sGW
      have pW := potS p1 sGW
      have xGW := x1.trans (smx_of sGW)
      refine ⟨r, acc, _, rfl, rfl, haccW, szlt (by omega), ?_⟩
      have hT : PtRows K (xr a r (upd HW r (.lst (acc ++ [V.ref W])))) (acc ++ [V.ref W]) (A ++ [List.replicate k (0, 1) ++ qs.drop k]) :=
        pt_app (pt_s ((xr_x xGW).trans xr_up) hP) ⟨⟨W, _, rfl, xr_up _ _ (xr_get nWa nWr hWW), prs_sR xr_up (prs_xr hau haccW hrow)⟩, trivial⟩
      have hp2 := pair_sR hp ((xr_x xGW).trans (xr_up (o := .lst (acc ++ [V.ref W]))))
      have hr2 : (upd HW r (.lst (acc ++ [V.ref W]))) r = some (.lst (acc ++ [V.ref W])) := upd_same
      have x2 : SmX a H (upd HW r (.lst (acc ++ [V.ref W]))) := smxU (xS.trans xGW) hr0
      have p2 := potU (o := .lst (acc ++ [V.ref W])) pW nra
      generalize upd HW r (.lst (acc ++ [V.ref W])) = G2 at hT hp2 hr2 x2 p2 ⊢
      clear hrow hWW haccW hau pW xGW sGW hP hp hacc hacc1 x1 p1 xS pG f0 f1 hQ
      -- the line
      have ew : (acc ++ [V.ref W])[k]? = some (V.ref W) := by rw [← hl, ← l1]; simp
      obtain ⟨q, c, ys, g1, g2, g3, g4⟩ := pt_at hT k _ ew
      cases g2
      have eq : q = List.replicate k (0, 1) ++ qs.drop k := by
        rw [← hl] at g1
        rw [hl] at g1
        have : (A ++ [List.replicate k ((0 : Int), (1 : Int)) ++ qs.drop k])[k]? = some (List.replicate k (0, 1) ++ qs.drop k) := by rw [← hl]; simp
        rw [this] at g1
        exact (Option.some.inj g1).symm
      subst eq
      have lrow : (List.replicate k ((0 : Int), (1 : Int)) ++ qs.drop k).length = n := by rw [List.length_append, List.length_replicate, List.length_drop]; omega
      have lys : ys.length = n := (prs_at g4).1.trans lrow
      obtain ⟨z, c, h1, h2, h3⟩ := (prs_at g4).2 k _ (List.getElem?_eq_getElem (by omega))
      have hrE : ∀ z ∈ List.replicate k ((0 : Int), (1 : Int)) ++ qs.drop k, Ent5 z := fun z hz => by
        rcases List.mem_append.mp hz with h | h
        · rw [(List.mem_replicate.mp h).2]; exact ent_of (q := (0, 1)) (by decide)
        · exact hEq z (List.mem_of_mem_drop h)
      have hzE := hrE z (List.mem_of_getElem? h1)
      have hAE : ∀ q ∈ A ++ [List.replicate k ((0 : Int), (1 : Int)) ++ qs.drop k], q.length = n ∧ ∀ z ∈ q, Ent5 z := fun q hq => by
        rcases List.mem_append.mp hq with h | h
        · exact hE q h
        · rw [List.mem_singleton.mp h]; exact ⟨lrow, hrE⟩
      have bA : BdR 5 A := fun q hq z hz => ent_bd14 ((hE q hq).2 z hz).1
      have lA2 : (A ++ [List.replicate k ((0 : Int), (1 : Int)) ++ qs.drop k]).length = k + 1 := by rw [List.length_append, hl]; rfl
      have eline : lineQ (A ++ [List.replicate k ((0 : Int), (1 : Int)) ++ qs.drop k]) (k + 1) = mulQ (lineQ A k) z := by
        show mulQ (lineQ _ k) _ = _
        rw [lineQ_app (by omega)]
        congr 1
        rw [g1]
        show ((List.replicate k ((0 : Int), (1 : Int)) ++ qs.drop k)[k]?).getD (0, 1) = z
        rw [h1]
        rfl
      refine ⟨_, rfl, _, rfl, _, rfl, r, _, _, _, rfl, rfl, sl_of hr2, atI_nat (j := k) ew, _, rfl, W, ys, _, _, rfl, rfl, sl_of (xr_le _ _ g3), atI_nat (j := k) (List.getElem?_eq_getElem (by omega)), p, c, lineQ A k, z, by rw [h2]; rfl, pair_sR hp2 xr_le, pair_sR h3 xr_le, bd_small (lineQ_bd bA k) (by omega), ent_small hzE.1, fun H' c2 s6 f2 h6 => ?_⟩
      obtain ⟨u1, u2, hau, _⟩ := potS p2 s6
      refine ⟨_, _, c2, _, _, rfl, x2.trans (smx_of s6), potS p2 s6, s6 _ _ hr2, pt_s (xr_s s6) hT, lA2, hAE, fun i j hi hj => ?_, ?_⟩
      · by_cases ci : i < k
        · rw [List.getElem?_append_left (by omega)]
          exact hC i j ci hj
        · have : i = k := by omega
          subst this
          rw [g1]
          show ((List.replicate i ((0 : Int), (1 : Int)) ++ qs.drop i)[j]?).getD (0, 1) = (0, 1)
          rw [List.getElem?_append_left (by rw [List.length_replicate]; exact hj), List.getElem?_replicate, if_pos hj]
          rfl
      · rw [eline]
        exact pair_xr h6 hau (s6 _ _ hr2)
    rintro σ G ⟨v4, v5, p, acc, A, rfl, xS, pG, hacc, hP, hl, hE, hC, hp⟩
    have lowA : LowR A := fun q hq z hz => ((hE q hq).2 z hz).1.low
    have wA : ∀ q ∈ A, q.length = n := fun q hq => (hE q hq).1
    have bA : BdR 5 A := fun q hq z hz => ent_bd14 ((hE q hq).2 z hz).1
    have dA : DvR 2520 A := fun q hq z hz => ent_dv14 ((hE q hq).2 z hz).1
    have eA : detQ A = lineQ A n := det_corner hl wA lowA fun i hi j hj => hC i j hi hj
    have okA : DetOk n A := detOk_gen n6 hl wA (by decide) (by decide) (by decide) bA dA
    refine ⟨fun σ G' => σ = [some (.ref a), some (.int n), some (.ref r), some (.ref p), v4, v5, none, none, none, none, none, none] ∧ SmX a G G' ∧ Pot G' a, ?_, ?_⟩
    · refine ⟨_, rfl, _, rfl, a, r, n, A, rfl, pG, ⟨acc, xr_get nra nra hacc, pt_s xr_sub hP⟩, n6, hl, fun q hq => ⟨wA q hq, fun z hz => ent_good ((hE q hq).2 z hz).1⟩, fun H1 g x1 p1 _ N1 => ?_⟩
      refine ⟨.ref g, n, A, rfl, tabX_tab (tabX_s N1 xr_le), okA, fun H2 q2 s2 R2 => ?_⟩
      refine ⟨q2, detQ A, rfl, R2, fun H3 p3 s3 _ P3 => ?_⟩
      have x13 := x1.trans (smx_of (s2.trans s3))
      refine ⟨_, rfl, dP (detQ A), dP (lineQ A n), dP_mk P3, dP_mk (pair_sR (pair_sR hp (xr_x x13)) xr_le), shaped_pair14 _, shaped_pair14 _, ?_⟩
      rw [eqv_dPq, eA, decide_eq_true rfl]
      exact ⟨false, rfl, iteF ⟨rfl, x13, potS p1 (s2.trans s3)⟩⟩
    rintro σ G' ⟨rfl, x', p'⟩
    have hacc' := x' _ _ nra hacc
    have hP' := pt_s (xr_x (D := r) x') hP
    have hp' := pair_sR hp (xr_x (D := r) x')
    have xS' := xS.trans x'
    clear hacc hP hp xS pG x' okA
    refine ⟨_, rfl, _, _, rfl, rfl, _, rfl, ?_⟩
    refine ite2C fun m hm => ?_
    obtain ⟨m4, mn⟩ : (0 ≤ m ∧ m ≤ 4) ∧ (0 < m → 1 < n) := by
      rcases hm with ⟨h, c⟩ | ⟨h, c⟩
      · subst h; have := of_decide_eq_true c; exact ⟨by omega, fun _ => by omega⟩
      · subst h; exact ⟨by omega, fun _ => by omega⟩
    obtain ⟨m, rfl⟩ : ∃ k : Nat, m = (k : Int) := ⟨m.toNat, by omega⟩
    refine ⟨m, rfl, by omega, by omega, ?_⟩
    rw [Int.toNat_natCast]
    refine for_range (lo := 0) (n := m) (fun k σ G => ∃ (v6 v7 v8 v9 : Option V) (acc : List V) (T : List (List (Int × Int))), σ = [some (.ref a), some (.int n), some (.ref r), some (.ref p), v4, v5, v6, v7, v8, v9, none, none] ∧ SmX a H G ∧ Pot G a ∧ G r = some (.lst acc) ∧ PtRows K (xr a r G) acc T ∧ T.length = n ∧ (∀ q ∈ T, q.length = n) ∧ BdR (bitT k) T ∧ DvR 2520 T ∧ detQ T = lineQ A n ∧ PairAt K (xr a r G) p (lineQ A n))
      ⟨_, _, _, _, acc, A, rfl, xS', p', hacc', hP', hl, wA, bA, dA, eA, hp'⟩ ?_ ?_
    · rintro k σ G hk ⟨v6, v7, v8, v9, acc, T, rfl, xG, pG, hacc, hP, lT, wT, bT, dT, eT, hp⟩
      have n1 : 1 < n := mn (by omega)
      have l1 := pt_len hP
      refine ⟨_, rfl, _, rfl, a, n, rfl, pG, by omega, by omega, fun G1 d x1 p1 d0 d1 => ?_⟩
      refine ⟨_, rfl, tPairs_go (K := K) fun G2 xs s2 hPk => ?_⟩
      obtain ⟨lx, hat⟩ := prs_at hPk
      have l3 : xs.length = 3 := lx
      refine ⟨szle (by omega), fun b hb => ?_⟩
      have s3 := same_new (o := .lst xs) hb
      have p3 := potS (potS p1 s2) s3
      refine ⟨a, b, xs, rfl, p3, upd_same, potF (potS p1 s2) hb, (fun e => by rw [e] at l3; cases l3), by omega, fun G3 i v x3 p4 hv => ?_⟩
      obtain ⟨z, c, hz, rfl, hc⟩ := hat i v hv
      obtain ⟨u1, u2, hau, _⟩ := id p3
      have hc3 := pair_but (pair_sR hc s3) hau x3
      refine ⟨szle (by show 2 ≤ 100000; decide), fun t ht => ?_⟩
      have s4 := same_new (o := .tup [V.int d, V.ref c]) ht
      refine ⟨t, _, rfl, st_of upd_same, rfl, _, _, rfl, _, _, rfl, rfl, ?_⟩
      have hc4 := pair_sR hc3 s4
      have x24 := ((((x1.trans (smx_of s2)).trans (smx_of s3)).trans x3).trans (smx_of s4))
      have p5 := potS p4 s4
      generalize upd G3 t (.tup [V.int d, V.ref c]) = G4 at hc4 x24 p5 ⊢
      clear s4 ht hc3 hau hc hat lx hPk s3 hb p3 p4 s2
      refine ⟨_, rfl, _, _, rfl, rfl, _, rfl, _, rfl, _, _, rfl, rfl, a, (n : Int) - 1, rfl, p5, by omega, by omega, fun G5 e x5 p6 e0 e1 => ⟨_, _, rfl, rfl, .inl ⟨_, rfl, _, rfl, _, _, rfl, rfl, (show (0 : Int) < n by omega), ?_⟩⟩⟩
      obtain ⟨w0, w1, wn⟩ := far14 d0 d1 e0 e1
      have hc5 : PairAt K G5 c z := by
        obtain ⟨u1, u2, hau, _⟩ := id p5
        exact pair_but hc4 hau x5
      have x25 := x24.trans x5
      have hacc5 := x25 _ _ nra hacc
      have hP5 := pt_s (xr_x (D := r) x25) hP
      have hp5 := pair_sR hp (xr_x (D := r) x25)
      have xG5 := xG.trans x25
      clear hc4 x24 p5 x5 x25 hP hp hacc xG pG x3 x1 p1
      have la : d.toNat < acc.length := by omega
      have lb : ((d + 1 + e) % (n : Int)).toNat < acc.length := by
        generalize (d + 1 + e) % (n : Int) = o at w0 w1 wn ⊢
        omega
      obtain ⟨qa, ca, ya, a1, a2, a3, a4⟩ := pt_at hP5 d.toNat _ (List.getElem?_eq_getElem la)
      obtain ⟨qb, cb, yb, b1, b2, b3, b4⟩ := pt_at hP5 ((d + 1 + e) % (n : Int)).toNat _ (List.getElem?_eq_getElem lb)
      have lya := (prs_at a4).1
      have lyb := (prs_at b4).1
      have lqa := wT qa (List.mem_of_getElem? a1)
      have lqb := wT qb (List.mem_of_getElem? b1)
      refine ⟨_, rfl, _, rfl, r, acc, _, _, rfl, rfl, sl_of hacc5, atI_p d0 (List.getElem?_eq_getElem la), _, rfl, _, rfl, r, acc, _, _, rfl, rfl, sl_of hacc5, atI_p w0 (List.getElem?_eq_getElem lb), ?_⟩
      have dne : d.toNat ≠ ((d + 1 + e) % (n : Int)).toNat := by
        generalize (d + 1 + e) % (n : Int) = o at w0 w1 wn ⊢
        omega
      obtain ⟨bz, z1, lz⟩ := pick_14 (List.mem_of_getElem? hz)
      have k4 : k < 4 := by omega
      have bk := bitT_le (t := k) (by omega)
      have bqa := bT qa (List.mem_of_getElem? a1)
      have bqb := bT qb (List.mem_of_getElem? b1)
      refine ⟨false, false, ca, cb, ya, yb, by rw [a2, b2], sl_of (xr_le _ _ a3), sl_of (xr_le _ _ b3), fun D hD => ?_⟩
      refine ZmX.lc_zipB (t := false) (u := false) (H0 := G5) (by omega) (sl_of (xr_le _ _ a3)) (sl_of (xr_le _ _ b3)) (fun k G => Same G5 G ∧ ∃ ac, G D = some (.lst ac) ∧ PrsP K G ac ((plusQ z qa qb).take k)) ⟨same_new hD, [], upd_same, by simp [PrsP]⟩ (fun k G _ p => p.1) ?_ ?_
      · rintro j x y T2 G' hx hy ⟨sG, ac, hac, hQ⟩ hT2
        obtain ⟨za, pa, hza, rfl, hpa⟩ := (prs_at a4).2 j x hx
        obtain ⟨zb, pb, hzb, rfl, hpb⟩ := (prs_at b4).2 j y hy
        have hj := lt_of_at hza
        have sT := same_new (o := .tup [V.ref pa, V.ref pb]) hT2
        have fewk := (prs_at hQ).1
        have : ((plusQ z qa qb).take j).length ≤ 60 := by rw [List.length_take]; omega
        have bza := bqa za (List.mem_of_getElem? hza)
        have bzb := bqb zb (List.mem_of_getElem? hzb)
        refine ⟨T2, _, rfl, st_of upd_same, rfl, _, _, rfl, _, _, rfl, rfl, rfl, ?_⟩
        refine ⟨_, rfl, _, rfl, _, rfl, c, pb, z, zb, rfl, pair_sR hc5 (sG.trans sT), pair_sR hpb (xr_le.trans (sG.trans sT)), bd_small bz (by decide), bd_small bzb (by omega), fun G6 p6 s6 _ h6 => ?_⟩
        refine ⟨pa, p6, za, mulQ z zb, rfl, pair_sR hpa (xr_le.trans (sG.trans (sT.trans s6))), h6, bd_small bza (by omega), bd_small (bd_mul bz bzb) (by omega), fun G7 p7 s7 _ h7 => ?_⟩
        have s67 := s6.trans s7
        refine ⟨ac, s67 _ _ (sT _ _ hac), szlt (by omega), same_mut ((sG.trans sT).trans s67) hD, ac ++ [.ref p7], upd_same, ?_⟩
        rw [take_at (plusQ_get hza hzb)]
        exact prs_butR (s67 _ _ (sT _ _ hac)) smx_upd (prs_appR (prs_sR (sT.trans s67) hQ) ⟨⟨p7, rfl, h7⟩, trivial⟩)
      rintro G' ⟨sG, ac, hac, hQ⟩
      have lpl : (plusQ z qa qb).length = n := by rw [plusQ_len (by omega)]; exact lqa
      rw [show (plusQ z qa qb).take ya.length = plusQ z qa qb from List.take_of_length_le (by omega)] at hQ
      have haccG := sG _ _ hacc5
      have nDa := potF p6 hD
      have nDr : D ≠ r := fun e => by rw [e, hacc5] at hD; cases hD
      obtain ⟨u1, u2, hau, _⟩ := potS p6 sG
      refine ⟨_, rfl, _, rfl, r, acc, _, d.toNat, rfl, rfl, haccG, ixN_p d0 (by omega), ?_⟩
      have ea : T[d.toNat]?.getD [] = qa := by rw [a1]; rfl
      have eb : T[((d + 1 + e) % (n : Int)).toNat]?.getD [] = qb := by rw [b1]; rfl
      have dp := det_plus (a := d.toNat) (b := ((d + 1 + e) % (n : Int)).toNat) lz lT wT (bdR_low bT) (by omega) (by omega) dne
      rw [ea, eb] at dp
      obtain ⟨t1, t2, t3, t4⟩ := dp
      refine ⟨_, _, _, _, _, T.set d.toNat (plusQ z qa qb), rfl, smxU (xG5.trans (smx_of sG)) hr0, potU (potS p6 sG) nra, upd_same, ?_, t1, t2, fun q hq => ?_, fun q hq => ?_, t4.trans eT, ?_⟩
      · exact pt_set (xr_up _ _ (xr_get nDa nDr hac)) (prs_sR xr_up (prs_xr hau haccG hQ)) (pt_s ((xr_s sG).trans xr_up) hP5)
      · rcases List.mem_or_eq_of_mem_set hq with h | h
        · exact fun y hy => bd_le (bT q h y hy) (bitT_up k)
        · rw [h]; exact plusQ_bd bz bqa bqb
      · rcases List.mem_or_eq_of_mem_set hq with h | h
        · exact dT q h
        · rw [h]; exact plusQ_dv lz z1 (bdR_low bT qa (List.mem_of_getElem? a1)) (bdR_low bT qb (List.mem_of_getElem? b1)) (dT qa (List.mem_of_getElem? a1)) (dT qb (List.mem_of_getElem? b1))
      · exact pair_sR hp5 ((xr_s sG).trans xr_up)
    rintro σ G ⟨v6, v7, v8, v9, acc, T, rfl, xG, pG, hacc, hP, lT, wT, bT, dT, eT, hp⟩
    have bm := bitT_le (t := m) (by omega)
    have okT : DetOk n T := detOk_gen n6 lT wT (by decide) (by decide) (by omega) bT dT
    refine ⟨_, rfl, _, rfl, a, r, n, T, rfl, pG, ⟨acc, xr_get nra nra hacc, pt_s xr_sub hP⟩, n6, lT, fun q hq => ⟨wT q hq, fun z hz => ⟨(bT q hq z hz).low, bd_small (bT q hq z hz) (by omega)⟩⟩, fun H1 g x1 p1 _ N1 => ?_⟩
    refine ⟨.ref g, n, T, rfl, tabX_tab (tabX_s N1 xr_le), okT, fun H2 q2 s2 R2 => ?_⟩
    refine ⟨q2, detQ T, rfl, R2, fun H3 p3 s3 _ P3 => ?_⟩
    have x13 := x1.trans (smx_of (s2.trans s3))
    refine ⟨_, rfl, dP (detQ T), dP (lineQ A n), dP_mk P3, dP_mk (pair_sR (pair_sR hp (xr_x x13)) xr_le), shaped_pair14 _, shaped_pair14 _, ?_⟩
    rw [eqv_dPq, eT, decide_eq_true rfl]
    exact q H3 (xG.trans x13) (potS p1 (s2.trans s3))
end
end Tk

namespace Tk
open PySem PySem.Spec PyProof.Rows L2 ClX
/-! ## k14: right, law -/
structure Calls14c (P : Program) (w : World) (K : PySem.W.Frag) (mg : Str → Option Value) (base : Heap) (C : Addr) : Prop where
  one : ∃ f fd, Df K mg "_law_one_right" sOne14 ["_law_pot_here", "_law_size"] f fd ∧ FnG P w K mg base 10 f fd ["_law_pot_here", "_law_size"] spOne14
  cor : ∃ f fd, Df K mg "_law_corner_right" sCorner14 ["_law_pot_here", "_law_size"] f fd ∧ FnOk P w K mg base CX0 9 f fd ["_law_pot_here", "_law_size"] spCorner14
  idle : ∃ f fd, Df K mg "idle" sIdleT ["size"] f fd ∧ FnOk P w K mg base CX0 6 f fd ["size"] (spIdleT C)
  make : ∃ fI dI, RtM K mg C fI dI ∧ FnOk P w K mg base CX0 2 fI dI ["self", "top", "bottom"] (spRInit C)
/-- a table of small ints, written out -/
theorem row_int {K : PySem.W.Frag} {C a : Addr} {H : Hp} {is : List Int} (h : H a = some (.lst (is.map V.int))) : RowAt K C H (.ref a) (is.map fun i => (i, 1)) := by
  refine ⟨a, _, rfl, .inl (sl_of h), ?_⟩
  clear h
  induction is with
  | nil => trivial
  | cons i is ih => exact ⟨.inr ⟨i, rfl, rfl⟩, ih⟩
theorem detOk_int {n : Nat} {A : List (List (Int × Int))} (n6 : n ≤ 6) (hA : A.length = n) (wA : ∀ q ∈ A, q.length = n) (h : ∀ q ∈ A, ∀ z ∈ q, z.2 = 1 ∧ z.1.natAbs < 32) : DetOk n A :=
  detOk_gen (D := 1) (k := 5) n6 hA wA (by decide) (by decide) (by decide)
    (fun q hq z hz => ⟨⟨by rw [(h q hq z hz).1]; decide, by rw [(h q hq z hz).1]; simp⟩, (h q hq z hz).2, by rw [(h q hq z hz).1]; decide⟩)
    (fun q hq z hz => dv_of (by rw [(h q hq z hz).1]; decide) (by rw [(h q hq z hz).1]; decide))
abbrev tab14 : List (List (Int × Int)) := [[(1, 1), (2, 1)], [(0, 1), (3, 1)]]
theorem ok_tab14 : DetOk 2 tab14 := detOk_int (by decide) rfl (by decide) (by decide)
theorem ok_nil14 : DetOk 0 [] := detOk_int (by decide) rfl (by simp) (by simp)
theorem ok_zero14 : DetOk 1 [[(0, 1)]] := detOk_int (by decide) rfl (by decide) (by decide)
theorem ok_idle14 : DetOk 6 (idleQ 6) := detOk_int (by decide) idle_shape.1 idle_shape.2 (by decide +kernel)
theorem det_tab14 : detQ tab14 = (3, 1) := by decide +kernel
theorem det_nil14 : detQ [] = (1, 1) := by decide +kernel
theorem det_zero14 : detQ [[(0, 1)]] = (0, 1) := by decide +kernel
theorem det_idle14 : detQ (idleQ 6) = (1, 1) := by decide +kernel
theorem rats_e2 {C : Addr} {H : Hp} : ∀ {xs ys : List V} {qs : List (Int × Int)}, RatsP C H xs qs → RatsP C H ys qs → Eq2A (LikeQ C) H xs ys true 0
  | [], [], [], _, _ => .nil
  | _ :: _, _ :: _, _ :: _, ⟨⟨p, e1, h1⟩, h⟩, ⟨⟨r, e2, g1⟩, g⟩ => by
    rw [e1, e2]
    exact .cons (.own ⟨_, _, h1, g1, (decide_eq_true rfl).symm⟩) (rats_e2 h g)
  | [], _, _ :: _, h, _ => h.elim
  | _ :: _, _, [], h, _ => h.elim
  | _, [], _ :: _, _, h => h.elim
  | _, _ :: _, [], _, h => h.elim
def spRight14 : Sp := fun vs H Q _ => ∃ a : Addr, vs = [.ref a] ∧ Pot H a ∧ ∀ H', Q (.bl true) H'
def spLawR (K : PySem.W.Frag) : Sp := fun vs H Q _ => ∃ (a : Addr) (ns : List Int), vs = [.ref a] ∧ SqL K H a (ns.map V.int) ∧ ∀ H', Q (.bl true) H'
section
variable {P : Program} {w : World} {K : PySem.W.Frag} {mg : Str → Option Value} {base : Heap}
abbrev nRt14 : List Str := ["_law_pot_here", "_law_turn"]
theorem sc_rt14 : FnScope nRt14 ["_law_pot_here"] (defScope sRight) := ⟨rfl, rfl, rfl, by decide +kernel, rfl, by decide +kernel, by decide +kernel⟩
theorem ok_rt14 {f C : Addr} {fd : FuncData} (F : Fun K "_law_right" "_law_right" sRight f fd) (Z : Calls14 P w K mg base C) (W : Calls14b P w K mg base C) (Y : Calls14c P w K mg base C) (B : Bl mg) : FnG P w K mg base 11 f fd ["_law_pot_here"] spRight14 := by
  obtain ⟨fO, dO, DO, GO⟩ := Y.one
  obtain ⟨fU, dU, DU, GU⟩ := Y.cor
  obtain ⟨fW, dW, DW, GW⟩ := W.draw
  obtain ⟨fI, dI, DI, GI⟩ := Y.idle
  obtain ⟨fQ, dQ, M, GQ⟩ := Y.make
  obtain ⟨fD, dD, DD, GD, kD⟩ := Z.det
  obtain ⟨fE, dE, e1, e2, NE, GE, bE⟩ := Z.eq
  obtain ⟨tk, b1⟩ := M.bI1
  refine okG F sc_rt14 (fun vs H Q E h => ?_) (fun cdv A outer s H vs Q E hgd hr h => ?_)
  · obtain ⟨a, rfl, _⟩ := h
    rfl
  · obtain ⟨a, rfl, pot, q⟩ := h
    have hr1 : Room 1 _ := hr.mono (by decide)
    have hr3 : Room 3 _ := hr.mono (by decide)
    have hr6 : Room 6 _ := hr.mono (by decide)
    have hr7 : Room 7 _ := hr.mono (by decide)
    have hr9 : Room 9 _ := hr.mono (by decide)
    have hr10 : Room 10 _ := hr.mono (by decide)
    have OE : OwnEq (cxOf CX0 P w K mg base nRt14 "_law_right" (defScope sRight) f cdv A outer s H E).nox C (LikeQ C) (spREq C) 1 fE dE ["self", "other"] := likeQ e1 e2 GE bE
    refine ⟨_, pss_cons (ps_for PassesOwn.never rfl (pi_range1 rfl B.range (pa_cons pe_int pa_nil)) (pg_name (i := 1) sc_rt14.nd rfl (Or.inl rfl))
        (pss_one (ps_if (pt_not (pt_val (pe_callG GO hgd hr10 rfl DO.g DO.F.kp DO.b (pa_cons (pv 0) (pa_cons (pe_call GW hr1 rfl DW.g DW.F.kp DW.b .nil pass0 (pa_cons (pv 0) (pa_cons (pe_op op_sub pe_int (pv 1)) pa_nil))) pa_nil))))) (pss_one (ps_ret pe_bl)) pss_nil)))
      (pss_cons (ps_if (pt_not (pt_val (pe_call GU hr9 rfl DU.g DU.F.kp DU.b .nil pass0 (pa_cons (pv 0) (pa_cons (pe_op op_add pe_int (pe_call GW hr1 rfl DW.g DW.F.kp DW.b .nil pass0 (pa_cons (pv 0) (pa_cons pe_int pa_nil)))) pa_nil))))) (pss_one (ps_ret pe_bl)) pss_nil)
      (pss_one (ps_ret (pe_cmpR (op_eqT OE (N := 1) (hr.mono (by decide)))
        (pe_lst (pa_cons (pe_call GD hr7 rfl DD.g DD.F.kp DD.b .nil pass0 (pa_cons (pe_lst (pa_cons (pe_lst (pa_cons pe_int (pa_cons pe_int pa_nil))) (pa_cons (pe_lst (pa_cons pe_int (pa_cons pe_int pa_nil))) pa_nil))) pa_nil))
          (pa_cons (pe_call GD hr7 rfl DD.g DD.F.kp DD.b .nil pass0 (pa_cons (pe_lst pa_nil) pa_nil))
          (pa_cons (pe_call GD hr7 rfl DD.g DD.F.kp DD.b .nil pass0 (pa_cons (pe_call GI hr6 rfl DI.g DI.F.kp DI.b .nil pass0 (pa_cons pe_int pa_nil)) pa_nil))
          (pa_cons (pe_call GD hr7 rfl DD.g DD.F.kp DD.b .nil pass0 (pa_cons (pe_lst (pa_cons (pe_lst (pa_cons pe_int pa_nil)) pa_nil)) pa_nil)) pa_nil)))))
        (pe_lst (pa_cons (pe_make M.mkr GQ hr3 rfl M.c.mgC b1 (dvs := [V.int 1]) (.cons ⟨tk, rfl⟩ .nil) pass0 (pa_cons pe_int pa_nil)) (pa_cons (pe_make M.mkr GQ hr3 rfl M.c.mgC b1 (dvs := [V.int 1]) (.cons ⟨tk, rfl⟩ .nil) pass0 (pa_cons pe_int pa_nil))
          (pa_cons (pe_make M.mkr GQ hr3 rfl M.c.mgC b1 (dvs := [V.int 1]) (.cons ⟨tk, rfl⟩ .nil) pass0 (pa_cons pe_int pa_nil)) (pa_cons (pe_make M.mkr GQ hr3 rfl M.c.mgC b1 (dvs := [V.int 1]) (.cons ⟨tk, rfl⟩ .nil) pass0 (pa_cons pe_int pa_nil)) pa_nil))))) (nomark _))))), ?_⟩
    refine ⟨2, rfl, by decide, by decide, for_range (lo := 0) (n := 2) (fun k σ G => ∃ v1 : Option V, σ = [some (V.ref a), v1] ∧ Pot G a) ⟨_, rfl, pot⟩ ?_ ?_⟩
    · rintro k σ G hk ⟨v1, rfl, pG⟩
      refine ⟨_, rfl, _, rfl, _, rfl, _, _, rfl, rfl, a, _, rfl, pG, by omega, by omega, fun G1 d x1 p1 d0 d1 => ?_⟩
      obtain ⟨m, rfl⟩ : ∃ m : Nat, d = (m : Int) := ⟨d.toNat, by omega⟩
      refine ⟨a, m, rfl, p1, by omega, fun G2 x2 p2 => ⟨true, rfl, iteF ?_⟩⟩
      exact ⟨_, rfl, p2⟩
    rintro σ G ⟨v1, rfl, pG⟩
    refine ⟨_, rfl, _, rfl, a, 6, rfl, pG, by decide, by decide, fun G1 d x1 p1 d0 d1 => ?_⟩
    obtain ⟨m, rfl⟩ : ∃ m : Nat, d = (m : Int) := ⟨d.toNat, by omega⟩
    refine ⟨_, _, rfl, rfl, a, 1 + m, by rw [Int.natCast_add]; rfl, p1, by omega, by omega, fun G2 x2 p2 => ⟨true, rfl, iteF ?_⟩⟩
    -- the written tables
    refine ⟨szle (by show 2 ≤ 100000; decide), fun a1 h1 => ⟨szle (by show 2 ≤ 100000; decide), fun a2 h2 => ⟨szle (by show 2 ≤ 100000; decide), fun a3 h3 => ?_⟩⟩⟩
    have z1 := same_new (o := .lst [V.int 1, V.int 2]) h1
    have z2 := same_new (o := .lst [V.int 0, V.int 3]) h2
    have z3 := same_new (o := .lst [V.ref a1, V.ref a2]) h3
    refine ⟨.ref a3, 2, tab14, rfl, ⟨by decide, rfl, by decide, a3, _, rfl, .inl (sl_of upd_same), row_int (is := [1, 2]) ((z2.trans z3) _ _ upd_same), row_int (is := [0, 3]) (z3 _ _ upd_same), trivial⟩, ok_tab14, fun G3 r1 s3 R1 => ?_⟩
    clear z1 z2 z3 h1 h2 h3
    refine ⟨szle (by show 0 ≤ 100000; decide), fun a4 h4 => ?_⟩
    have z4 := same_new (o := .lst []) h4
    refine ⟨.ref a4, 0, [], rfl, ⟨by decide, rfl, by simp, a4, _, rfl, .inl (sl_of upd_same), trivial⟩, ok_nil14, fun G4 r2 s4 R2 => ?_⟩
    refine ⟨6, rfl, by decide, fun G5 r3 s5 _ R3 _ => ?_⟩
    refine ⟨.ref r3, 6, idleQ 6, rfl, tab_of R3 (by decide) idle_shape.1 idle_shape.2, ok_idle14, fun G6 r4 s6 R4 => ?_⟩
    refine ⟨szle (by show 1 ≤ 100000; decide), fun a5 h5 => ⟨szle (by show 1 ≤ 100000; decide), fun a6 h6 => ?_⟩⟩
    have z5 := same_new (o := .lst [V.int 0]) h5
    have z6 := same_new (o := .lst [V.ref a5]) h6
    refine ⟨.ref a6, 1, [[(0, 1)]], rfl, ⟨by decide, rfl, by decide, a6, _, rfl, .inl (sl_of upd_same), row_int (is := [0]) (z6 _ _ upd_same), trivial⟩, ok_zero14, fun G7 r5 s7 R5 => ?_⟩
    rw [det_tab14] at R1
    rw [det_nil14] at R2
    rw [det_idle14] at R4
    rw [det_zero14] at R5
    refine ⟨szle (by show 4 ≤ 100000; decide), fun L hL => ?_⟩
    have zL := same_new (o := .lst [V.ref r1, V.ref r2, V.ref r4, V.ref r5]) hL
    have e67 := (z5.trans z6).trans s7
    have R1' := rat_s R1 (z4.trans (s4.trans (s5.trans (s6.trans (e67.trans zL)))))
    have R2' := rat_s R2 (s5.trans (s6.trans (e67.trans zL)))
    have R4' := rat_s R4 (e67.trans zL)
    have R5' := rat_s R5 zL
    have hLL : (upd G7 L (.lst [V.ref r1, V.ref r2, V.ref r4, V.ref r5])) L = some (.lst [V.ref r1, V.ref r2, V.ref r4, V.ref r5]) := upd_same
    generalize upd G7 L (.lst [V.ref r1, V.ref r2, V.ref r4, V.ref r5]) = G8 at R1' R2' R4' R5' hLL ⊢
    clear zL hL e67 z5 z6 h5 h6 s7 z4 h4 s4 s5 s6 R1 R2 R4 R5 R3
    refine fun q1 dx nx ndx nex => ?_
    refine mk_ratio (by decide) (by decide) nx ndx fun H1 y1 u1 => ⟨rfl, ?_⟩
    refine fun q2 dx nx ndx nex => ?_
    refine mk_ratio (by decide) (by decide) nx ndx fun H2 y2 u2 => ⟨rfl, ?_⟩
    refine fun q3 dx nx ndx nex => ?_
    refine mk_ratio (by decide) (by decide) nx ndx fun H3 y3 u3 => ⟨rfl, ?_⟩
    refine fun q4 dx nx ndx nex => ?_
    refine mk_ratio (by decide) (by decide) nx ndx fun H4 y4 u4 => ⟨rfl, ?_⟩
    rw [low_one] at u1 u2 u3 u4
    refine ⟨szle (by show 4 ≤ 100000; decide), fun M hM => ?_⟩
    have zM := same_new (o := .lst [V.ref q1, V.ref q2, V.ref q3, V.ref q4]) hM
    have e34 := y4.trans zM
    have e24 := y3.trans e34
    have e14 := y2.trans e24
    have e04 := y1.trans e14
    refine ⟨L, M, true, 1, rfl, rfl, .lst (e04 _ _ hLL) upd_same (rats_e2 (C := C) (qs := [(3, 1), (1, 1), (1, 1), (0, 1)]) ⟨⟨r1, rfl, rat_s R1' e04⟩, ⟨r2, rfl, rat_s R2' e04⟩, ⟨r4, rfl, rat_s R4' e04⟩, ⟨r5, rfl, rat_s R5' e04⟩, trivial⟩ ⟨⟨q1, rfl, rat_s u1 e14⟩, ⟨q2, rfl, rat_s u2 e24⟩, ⟨q3, rfl, rat_s u3 e34⟩, ⟨q4, rfl, rat_s u4 zM⟩, trivial⟩), by decide, fun H5 _ => q H5⟩
theorem sc_lawR : FnScope ["_law_script"] ["_law_script"] (defScope sLaw) := ⟨rfl, rfl, rfl, by decide +kernel, rfl, by decide +kernel, by decide +kernel⟩
theorem ok_lawR {f f1 f2 : Addr} {fd fd1 fd2 : FuncData} (F : Fun K "law" "law" sLaw f fd) (D1 : Df K mg "_law_pot" sPot ["_law_script", "_law_k"] f1 fd1) (D2 : Df K mg "_law_right" sRight ["_law_pot_here"] f2 fd2)
    (G2 : FnG P w K mg base 11 f2 fd2 ["_law_pot_here"] spRight14) (B : Bl mg) : FnG P w K mg base 12 f fd ["_law_script"] (spLawR K) := by
  have G1 : FnOk P w K mg base CX0 1 f1 fd1 ["_law_script", "_law_k"] (spPot K) := ok_pot D1.F B
  refine okG F sc_lawR (fun vs H Q E h => ?_) (fun cdv A outer s H vs Q E hgd hr h => ?_)
  · obtain ⟨a, ns, rfl, _⟩ := h
    rfl
  · obtain ⟨a, ns, rfl, ha, q⟩ := h
    refine ⟨_, pss_one (ps_ret (pe_callG G2 hgd hr rfl D2.g D2.F.kp D2.b (pa_cons (pe_call G1 (hr.mono (by decide)) rfl D1.g D1.F.kp D1.b .nil pass0 (pa_cons (pv 0) (pa_cons pe_int pa_nil))) pa_nil))), ?_⟩
    exact ⟨_, rfl, a, ns, rfl, ha, fun H1 p s1 hp pot => ⟨p, rfl, pot, q⟩⟩
end
end Tk

namespace Tk
open PySem PySem.Spec PyProof.Rows L2
theorem kit_self {K : PySem.W.Frag} {C : Addr} : PySem.W.kitOne K (.ref C) (.ref C) = some true := by
  unfold PySem.W.kitOne
  rw [if_pos (by simp)]
theorem kit_no {K : PySem.W.Frag} {S : Addr} {t : Value} (h2 : PySem.W.isClsIn K S = true) (h3 : PySem.W.typeIn K (.ref S) = some (.type "type")) (h4 : PySem.W.subIn K t (.ref S) = some false) (ne : (t == .ref S) = false) :
    PySem.W.kitOne K t (.ref S) = some false := by
  have h2' : (PySem.W.clsIn K S).isSome = true := h2
  have e2 : ((PySem.W.clsIn K S).isSome && PySem.W.typeIn K (.ref S) == some (.type "type")) = true := by rw [h2', h3]; rfl
  show (if (t == .ref S) = true then some true else (if ((PySem.W.clsIn K S).isSome && PySem.W.typeIn K (.ref S) == some (.type "type")) = true then PySem.W.subIn K t (.ref S) else none)) = some false
  rw [ne, if_neg (by simp), if_pos e2]
  exact h4
theorem all_mk {P : Program} {w : World} {K : PySem.W.Frag} {h : Heap} {mg : Str → Option Value} {fa C T1 pM p0 p1 p2 f0 f1 f2 f3 f4 f5 f6 f7 f8 f9 f10 f11 f12 f13 f14 f15 f16 f17 f18 f19 f20 f21 f22 f23 f24 f25 f26 f27 f28 f29 f30 f31 f32 f33 f34 f35 f36 f37 f38 f39 f40 f41 f42 f43 f44 f45 f46 f47 f48 f49 f50 f51 f52 f53 f54 f55 f56 f57 f58 f59 : Addr} {restM rest0 rest1 rest2 : List Value} {tkT tkC0 : Tok} {oT : Value} {dT : Option Addr} {nT : Nat} {sT : Array (Option Value)} {fo_add ro_add fo_sub ro_sub fo_mul ro_mul : Option Value} (X : K.In h) (G : h.Ns mainGlobals mg) (hfa : mg "law" = some (.ref fa))
    {od0 an0 od1 an1 od2 an2 od3 an3 od4 an4 od5 an5 od6 an6 od7 an7 od8 an8 od9 an9 od10 an10 od11 an11 od12 an12 od13 an13 od14 an14 od15 an15 od16 an16 od17 an17 od18 an18 od19 an19 od20 an20 od21 an21 od22 an22 od23 an23 od24 an24 od25 an25 od26 an26 od27 an27 od28 an28 od29 an29 od30 an30 od31 an31 od32 an32 od33 an33 od34 an34 od35 an35 od36 an36 od37 an37 od38 an38 od39 an39 od40 an40 od41 an41 od42 an42 od43 an43 od44 an44 od45 an45 od46 an46 od47 an47 od48 an48 od49 an49 od50 an50 od51 an51 od52 an52 od53 an53 od54 an54 od55 an55 od56 an56 od57 an57 od58 an58 od59 an59 : Option Addr} {sl0 sl1 sl2 sl3 sl4 sl5 sl6 sl7 sl8 sl9 sl10 sl11 sl12 sl13 sl14 sl15 sl16 sl17 sl18 sl19 sl20 sl21 sl22 sl23 sl24 sl25 sl26 sl27 sl28 sl29 sl30 sl31 sl32 sl33 sl34 sl35 sl36 sl37 sl38 sl39 sl40 sl41 sl42 sl43 sl44 sl45 sl46 sl47 sl48 sl49 sl50 sl51 sl52 sl53 sl54 sl55 sl56 sl57 sl58 sl59 : Array (Option Value)}
    {oc0 kV0 dc0 pm0 cd0 ct0 oc1 kV1 dc1 pm1 cd1 ct1 oc2 kV2 dc2 pm2 cd2 ct2 oc3 kV3 dc3 pm3 cd3 ct3 oc4 kV4 dc4 pm4 cd4 ct4 oc5 kV5 dc5 pm5 cd5 ct5 oc6 kV6 dc6 pm6 cd6 ct6 oc7 kV7 dc7 pm7 cd7 ct7 oc8 kV8 dc8 pm8 cd8 ct8 oc9 kV9 dc9 pm9 cd9 ct9 oc10 kV10 dc10 pm10 cd10 ct10 oc11 kV11 dc11 pm11 cd11 ct11 oc12 kV12 dc12 pm12 cd12 ct12 oc13 kV13 dc13 pm13 cd13 ct13 oc14 kV14 dc14 pm14 cd14 ct14 oc15 kV15 dc15 pm15 cd15 ct15 oc16 kV16 dc16 pm16 cd16 ct16 oc17 kV17 dc17 pm17 cd17 ct17 oc18 kV18 dc18 pm18 cd18 ct18 oc19 kV19 dc19 pm19 cd19 ct19 oc20 kV20 dc20 pm20 cd20 ct20 oc21 kV21 dc21 pm21 cd21 ct21 oc22 kV22 dc22 pm22 cd22 ct22 oc23 kV23 dc23 pm23 cd23 ct23 oc24 kV24 dc24 pm24 cd24 ct24 oc25 kV25 dc25 pm25 cd25 ct25 oc26 kV26 dc26 pm26 cd26 ct26 oc27 kV27 dc27 pm27 cd27 ct27 oc28 kV28 dc28 pm28 cd28 ct28 oc29 kV29 dc29 pm29 cd29 ct29 oc30 kV30 dc30 pm30 cd30 ct30 oc31 kV31 dc31 pm31 cd31 ct31 oc32 kV32 dc32 pm32 cd32 ct32 oc33 kV33 dc33 pm33 cd33 ct33 oc34 kV34 dc34 pm34 cd34 ct34 oc35 kV35 dc35 pm35 cd35 ct35 oc36 kV36 dc36 pm36 cd36 ct36 oc37 kV37 dc37 pm37 cd37 ct37 oc38 kV38 dc38 pm38 cd38 ct38 oc39 kV39 dc39 pm39 cd39 ct39 oc40 kV40 dc40 pm40 cd40 ct40 oc41 kV41 dc41 pm41 cd41 ct41 oc42 kV42 dc42 pm42 cd42 ct42 oc43 kV43 dc43 pm43 cd43 ct43 oc44 kV44 dc44 pm44 cd44 ct44 oc45 kV45 dc45 pm45 cd45 ct45 oc46 kV46 dc46 pm46 cd46 ct46 oc47 kV47 dc47 pm47 cd47 ct47 oc48 kV48 dc48 pm48 cd48 ct48 oc49 kV49 dc49 pm49 cd49 ct49 oc50 kV50 dc50 pm50 cd50 ct50 oc51 kV51 dc51 pm51 cd51 ct51 oc52 kV52 dc52 pm52 cd52 ct52 oc53 kV53 dc53 pm53 cd53 ct53 oc54 kV54 dc54 pm54 cd54 ct54 oc55 kV55 dc55 pm55 cd55 ct55 oc56 kV56 dc56 pm56 cd56 ct56 oc57 kV57 dc57 pm57 cd57 ct57 oc58 kV58 dc58 pm58 cd58 ct58 oc59 kV59 dc59 pm59 cd59 ct59 : Value}
    (aC : PySem.W.nsIn K mainGlobals "Ratio" = some (some (.ref C)))
    (aG : PySem.W.nsIn K mainGlobals "gcd" = some (some (.builtin "math.gcd")))
    (lcG : PySem.W.nsIn K mainGlobals "lcm" = some (some (.builtin "math.lcm")))
    (a0 : PySem.W.nsIn K mainGlobals "is_integer" = some (some (.ref f0)))
    (l0 : K.lookup f0 = some ⟨oc0, od0, .func (PySem.W.fnOf "is_integer" "is_integer" (defArgs sIsInt) (defBody sIsInt) (defScope sIsInt) .none kV0 dc0 pm0 an0 cd0 ct0), sl0⟩)
    (c0 : PySem.W.codeIn K cd0 "is_integer" = true)
    (k0 : PySem.W.keepIn K (.ref f0) = true)
    (a1 : PySem.W.nsIn K mainGlobals "is_count" = some (some (.ref f1)))
    (l1 : K.lookup f1 = some ⟨oc1, od1, .func (PySem.W.fnOf "is_count" "is_count" (defArgs sIsCnt) (defBody sIsCnt) (defScope sIsCnt) .none kV1 dc1 pm1 an1 cd1 ct1), sl1⟩)
    (c1 : PySem.W.codeIn K cd1 "is_count" = true)
    (k1 : PySem.W.keepIn K (.ref f1) = true)
    (a2 : PySem.W.nsIn K mainGlobals "is_list" = some (some (.ref f2)))
    (l2 : K.lookup f2 = some ⟨oc2, od2, .func (PySem.W.fnOf "is_list" "is_list" (defArgs sIsLst) (defBody sIsLst) (defScope sIsLst) .none kV2 dc2 pm2 an2 cd2 ct2), sl2⟩)
    (c2 : PySem.W.codeIn K cd2 "is_list" = true)
    (k2 : PySem.W.keepIn K (.ref f2) = true)
    (a3 : PySem.W.nsIn K mainGlobals "is_number" = some (some (.ref f3)))
    (l3 : K.lookup f3 = some ⟨oc3, od3, .func (PySem.W.fnOf "is_number" "is_number" (defArgs sIsNum) (defBody sIsNum) (defScope sIsNum) .none kV3 dc3 pm3 an3 cd3 ct3), sl3⟩)
    (c3 : PySem.W.codeIn K cd3 "is_number" = true)
    (k3 : PySem.W.keepIn K (.ref f3) = true)
    (a4 : PySem.W.nsIn K mainGlobals "as_ratio" = some (some (.ref f4)))
    (l4 : K.lookup f4 = some ⟨oc4, od4, .func (PySem.W.fnOf "as_ratio" "as_ratio" (defArgs sAsRat) (defBody sAsRat) (defScope sAsRat) .none kV4 dc4 pm4 an4 cd4 ct4), sl4⟩)
    (c4 : PySem.W.codeIn K cd4 "as_ratio" = true)
    (k4 : PySem.W.keepIn K (.ref f4) = true)
    (a5 : PySem.W.nsIn K mainGlobals "are_numbers" = some (some (.ref f5)))
    (l5 : K.lookup f5 = some ⟨oc5, od5, .func (PySem.W.fnOf "are_numbers" "are_numbers" (defArgs sAreNum) (defBody sAreNum) (defScope sAreNum) .none kV5 dc5 pm5 an5 cd5 ct5), sl5⟩)
    (c5 : PySem.W.codeIn K cd5 "are_numbers" = true)
    (k5 : PySem.W.keepIn K (.ref f5) = true)
    (a6 : PySem.W.nsIn K mainGlobals "led" = some (some (.ref f6)))
    (l6 : K.lookup f6 = some ⟨oc6, od6, .func (PySem.W.fnOf "led" "led" (defArgs sLedQ) (defBody sLedQ) (defScope sLedQ) .none kV6 dc6 pm6 an6 cd6 ct6), sl6⟩)
    (c6 : PySem.W.codeIn K cd6 "led" = true)
    (k6 : PySem.W.keepIn K (.ref f6) = true)
    (a7 : PySem.W.nsIn K mainGlobals "told" = some (some (.ref f7)))
    (l7 : K.lookup f7 = some ⟨oc7, od7, .func (PySem.W.fnOf "told" "told" (defArgs sTold0) (defBody sTold0) (defScope sTold0) .none kV7 dc7 pm7 an7 cd7 ct7), sl7⟩)
    (c7 : PySem.W.codeIn K cd7 "told" = true)
    (k7 : PySem.W.keepIn K (.ref f7) = true)
    (a8 : PySem.W.nsIn K mainGlobals "cleared" = some (some (.ref f8)))
    (l8 : K.lookup f8 = some ⟨oc8, od8, .func (PySem.W.fnOf "cleared" "cleared" (defArgs sCleared) (defBody sCleared) (defScope sCleared) .none kV8 dc8 pm8 an8 cd8 ct8), sl8⟩)
    (c8 : PySem.W.codeIn K cd8 "cleared" = true)
    (k8 : PySem.W.keepIn K (.ref f8) = true)
    (a9 : PySem.W.nsIn K mainGlobals "row_with" = some (some (.ref f9)))
    (l9 : K.lookup f9 = some ⟨oc9, od9, .func (PySem.W.fnOf "row_with" "row_with" (defArgs sRowWith) (defBody sRowWith) (defScope sRowWith) .none kV9 dc9 pm9 an9 cd9 ct9), sl9⟩)
    (c9 : PySem.W.codeIn K cd9 "row_with" = true)
    (k9 : PySem.W.keepIn K (.ref f9) = true)
    (a10 : PySem.W.nsIn K mainGlobals "taken_off" = some (some (.ref f10)))
    (l10 : K.lookup f10 = some ⟨oc10, od10, .func (PySem.W.fnOf "taken_off" "taken_off" (defArgs sTakenOff) (defBody sTakenOff) (defScope sTakenOff) .none kV10 dc10 pm10 an10 cd10 ct10), sl10⟩)
    (c10 : PySem.W.codeIn K cd10 "taken_off" = true)
    (k10 : PySem.W.keepIn K (.ref f10) = true)
    (a11 : PySem.W.nsIn K mainGlobals "in_whole_steps" = some (some (.ref f11)))
    (l11 : K.lookup f11 = some ⟨oc11, od11, .func (PySem.W.fnOf "in_whole_steps" "in_whole_steps" (defArgs sInWhole) (defBody sInWhole) (defScope sInWhole) .none kV11 dc11 pm11 an11 cd11 ct11), sl11⟩)
    (c11 : PySem.W.codeIn K cd11 "in_whole_steps" = true)
    (k11 : PySem.W.keepIn K (.ref f11) = true)
    (a12 : PySem.W.nsIn K mainGlobals "determinant_of" = some (some (.ref f12)))
    (l12 : K.lookup f12 = some ⟨oc12, od12, .func (PySem.W.fnOf "determinant_of" "determinant_of" (defArgs sDetOf) (defBody sDetOf) (defScope sDetOf) .none kV12 dc12 pm12 an12 cd12 ct12), sl12⟩)
    (c12 : PySem.W.codeIn K cd12 "determinant_of" = true)
    (k12 : PySem.W.keepIn K (.ref f12) = true)
    (a13 : PySem.W.nsIn K mainGlobals "is_size" = some (some (.ref f13)))
    (l13 : K.lookup f13 = some ⟨oc13, od13, .func (PySem.W.fnOf "is_size" "is_size" (defArgs sIsSize) (defBody sIsSize) (defScope sIsSize) .none kV13 dc13 pm13 an13 cd13 ct13), sl13⟩)
    (c13 : PySem.W.codeIn K cd13 "is_size" = true)
    (k13 : PySem.W.keepIn K (.ref f13) = true)
    (a14 : PySem.W.nsIn K mainGlobals "check_size" = some (some (.ref f14)))
    (l14 : K.lookup f14 = some ⟨oc14, od14, .func (PySem.W.fnOf "check_size" "check_size" (defArgs sChkSize) (defBody sChkSize) (defScope sChkSize) .none kV14 dc14 pm14 an14 cd14 ct14), sl14⟩)
    (c14 : PySem.W.codeIn K cd14 "check_size" = true)
    (k14 : PySem.W.keepIn K (.ref f14) = true)
    (a15 : PySem.W.nsIn K mainGlobals "is_table" = some (some (.ref f15)))
    (l15 : K.lookup f15 = some ⟨oc15, od15, .func (PySem.W.fnOf "is_table" "is_table" (defArgs sIsTab) (defBody sIsTab) (defScope sIsTab) .none kV15 dc15 pm15 an15 cd15 ct15), sl15⟩)
    (c15 : PySem.W.codeIn K cd15 "is_table" = true)
    (k15 : PySem.W.keepIn K (.ref f15) = true)
    (a16 : PySem.W.nsIn K mainGlobals "check_table" = some (some (.ref f16)))
    (l16 : K.lookup f16 = some ⟨oc16, od16, .func (PySem.W.fnOf "check_table" "check_table" (defArgs sChkTab) (defBody sChkTab) (defScope sChkTab) .none kV16 dc16 pm16 an16 cd16 ct16), sl16⟩)
    (c16 : PySem.W.codeIn K cd16 "check_table" = true)
    (k16 : PySem.W.keepIn K (.ref f16) = true)
    (a17 : PySem.W.nsIn K mainGlobals "check_two" = some (some (.ref f17)))
    (l17 : K.lookup f17 = some ⟨oc17, od17, .func (PySem.W.fnOf "check_two" "check_two" (defArgs sChkTwo) (defBody sChkTwo) (defScope sChkTwo) .none kV17 dc17 pm17 an17 cd17 ct17), sl17⟩)
    (c17 : PySem.W.codeIn K cd17 "check_two" = true)
    (k17 : PySem.W.keepIn K (.ref f17) = true)
    (a18 : PySem.W.nsIn K mainGlobals "table_with" = some (some (.ref f18)))
    (l18 : K.lookup f18 = some ⟨oc18, od18, .func (PySem.W.fnOf "table_with" "table_with" (defArgs sTabWith) (defBody sTabWith) (defScope sTabWith) .none kV18 dc18 pm18 an18 cd18 ct18), sl18⟩)
    (c18 : PySem.W.codeIn K cd18 "table_with" = true)
    (k18 : PySem.W.keepIn K (.ref f18) = true)
    (a19 : PySem.W.nsIn K mainGlobals "idle" = some (some (.ref f19)))
    (l19 : K.lookup f19 = some ⟨oc19, od19, .func (PySem.W.fnOf "idle" "idle" (defArgs sIdleT) (defBody sIdleT) (defScope sIdleT) .none kV19 dc19 pm19 an19 cd19 ct19), sl19⟩)
    (c19 : PySem.W.codeIn K cd19 "idle" = true)
    (k19 : PySem.W.keepIn K (.ref f19) = true)
    (a20 : PySem.W.nsIn K mainGlobals "times" = some (some (.ref f20)))
    (l20 : K.lookup f20 = some ⟨oc20, od20, .func (PySem.W.fnOf "times" "times" (defArgs sTimesT) (defBody sTimesT) (defScope sTimesT) .none kV20 dc20 pm20 an20 cd20 ct20), sl20⟩)
    (c20 : PySem.W.codeIn K cd20 "times" = true)
    (k20 : PySem.W.keepIn K (.ref f20) = true)
    (a21 : PySem.W.nsIn K mainGlobals "about" = some (some (.ref f21)))
    (l21 : K.lookup f21 = some ⟨oc21, od21, .func (PySem.W.fnOf "about" "about" (defArgs sAboutT) (defBody sAboutT) (defScope sAboutT) .none kV21 dc21 pm21 an21 cd21 ct21), sl21⟩)
    (c21 : PySem.W.codeIn K cd21 "about" = true)
    (k21 : PySem.W.keepIn K (.ref f21) = true)
    (a22 : PySem.W.nsIn K mainGlobals "determinant" = some (some (.ref f22)))
    (l22 : K.lookup f22 = some ⟨oc22, od22, .func (PySem.W.fnOf "determinant" "determinant" (defArgs sDet) (defBody sDet) (defScope sDet) .none kV22 dc22 pm22 an22 cd22 ct22), sl22⟩)
    (c22 : PySem.W.codeIn K cd22 "determinant" = true)
    (k22 : PySem.W.keepIn K (.ref f22) = true)
    (a23 : PySem.W.nsIn K mainGlobals "_law_pot" = some (some (.ref f23)))
    (l23 : K.lookup f23 = some ⟨oc23, od23, .func (PySem.W.fnOf "_law_pot" "_law_pot" (defArgs sPot) (defBody sPot) (defScope sPot) .none kV23 dc23 pm23 an23 cd23 ct23), sl23⟩)
    (c23 : PySem.W.codeIn K cd23 "_law_pot" = true)
    (k23 : PySem.W.keepIn K (.ref f23) = true)
    (a24 : PySem.W.nsIn K mainGlobals "_law_draw" = some (some (.ref f24)))
    (l24 : K.lookup f24 = some ⟨oc24, od24, .func (PySem.W.fnOf "_law_draw" "_law_draw" (defArgs sDraw) (defBody sDraw) (defScope sDraw) .none kV24 dc24 pm24 an24 cd24 ct24), sl24⟩)
    (c24 : PySem.W.codeIn K cd24 "_law_draw" = true)
    (k24 : PySem.W.keepIn K (.ref f24) = true)
    (a25 : PySem.W.nsIn K mainGlobals "_law_pick" = some (some (.ref f25)))
    (l25 : K.lookup f25 = some ⟨oc25, od25, .func (PySem.W.fnOf "_law_pick" "_law_pick" (defArgs sPick) (defBody sPick) (defScope sPick) .none kV25 dc25 pm25 an25 cd25 ct25), sl25⟩)
    (c25 : PySem.W.codeIn K cd25 "_law_pick" = true)
    (k25 : PySem.W.keepIn K (.ref f25) = true)
    (a26 : PySem.W.nsIn K mainGlobals "_law_low" = some (some (.ref f26)))
    (l26 : K.lookup f26 = some ⟨oc26, od26, .func (PySem.W.fnOf "_law_low" "_law_low" (defArgs sLowR) (defBody sLowR) (defScope sLowR) .none kV26 dc26 pm26 an26 cd26 ct26), sl26⟩)
    (c26 : PySem.W.codeIn K cd26 "_law_low" = true)
    (k26 : PySem.W.keepIn K (.ref f26) = true)
    (a27 : PySem.W.nsIn K mainGlobals "_law_sum" = some (some (.ref f27)))
    (l27 : K.lookup f27 = some ⟨oc27, od27, .func (PySem.W.fnOf "_law_sum" "_law_sum" (defArgs sSumR) (defBody sSumR) (defScope sSumR) .none kV27 dc27 pm27 an27 cd27 ct27), sl27⟩)
    (c27 : PySem.W.codeIn K cd27 "_law_sum" = true)
    (k27 : PySem.W.keepIn K (.ref f27) = true)
    (a28 : PySem.W.nsIn K mainGlobals "_law_by" = some (some (.ref f28)))
    (l28 : K.lookup f28 = some ⟨oc28, od28, .func (PySem.W.fnOf "_law_by" "_law_by" (defArgs sByR) (defBody sByR) (defScope sByR) .none kV28 dc28 pm28 an28 cd28 ct28), sl28⟩)
    (c28 : PySem.W.codeIn K cd28 "_law_by" = true)
    (k28 : PySem.W.keepIn K (.ref f28) = true)
    (a29 : PySem.W.nsIn K mainGlobals "_law_less" = some (some (.ref f29)))
    (l29 : K.lookup f29 = some ⟨oc29, od29, .func (PySem.W.fnOf "_law_less" "_law_less" (defArgs sLessR) (defBody sLessR) (defScope sLessR) .none kV29 dc29 pm29 an29 cd29 ct29), sl29⟩)
    (c29 : PySem.W.codeIn K cd29 "_law_less" = true)
    (k29 : PySem.W.keepIn K (.ref f29) = true)
    (a30 : PySem.W.nsIn K mainGlobals "_law_crossed" = some (some (.ref f30)))
    (l30 : K.lookup f30 = some ⟨oc30, od30, .func (PySem.W.fnOf "_law_crossed" "_law_crossed" (defArgs sCrossed) (defBody sCrossed) (defScope sCrossed) .none kV30 dc30 pm30 an30 cd30 ct30), sl30⟩)
    (c30 : PySem.W.codeIn K cd30 "_law_crossed" = true)
    (k30 : PySem.W.keepIn K (.ref f30) = true)
    (a31 : PySem.W.nsIn K mainGlobals "_law_passed" = some (some (.ref f31)))
    (l31 : K.lookup f31 = some ⟨oc31, od31, .func (PySem.W.fnOf "_law_passed" "_law_passed" (defArgs sPasR) (defBody sPasR) (defScope sPasR) .none kV31 dc31 pm31 an31 cd31 ct31), sl31⟩)
    (c31 : PySem.W.codeIn K cd31 "_law_passed" = true)
    (k31 : PySem.W.keepIn K (.ref f31) = true)
    (a32 : PySem.W.nsIn K mainGlobals "_law_given_row" = some (some (.ref f32)))
    (l32 : K.lookup f32 = some ⟨oc32, od32, .func (PySem.W.fnOf "_law_given_row" "_law_given_row" (defArgs sGivRow) (defBody sGivRow) (defScope sGivRow) .none kV32 dc32 pm32 an32 cd32 ct32), sl32⟩)
    (c32 : PySem.W.codeIn K cd32 "_law_given_row" = true)
    (k32 : PySem.W.keepIn K (.ref f32) = true)
    (a33 : PySem.W.nsIn K mainGlobals "_law_given" = some (some (.ref f33)))
    (l33 : K.lookup f33 = some ⟨oc33, od33, .func (PySem.W.fnOf "_law_given" "_law_given" (defArgs sGivR) (defBody sGivR) (defScope sGivR) .none kV33 dc33 pm33 an33 cd33 ct33), sl33⟩)
    (c33 : PySem.W.codeIn K cd33 "_law_given" = true)
    (k33 : PySem.W.keepIn K (.ref f33) = true)
    (a34 : PySem.W.nsIn K mainGlobals "_law_pair" = some (some (.ref f34)))
    (l34 : K.lookup f34 = some ⟨oc34, od34, .func (PySem.W.fnOf "_law_pair" "_law_pair" (defArgs sRtPair) (defBody sRtPair) (defScope sRtPair) .none kV34 dc34 pm34 an34 cd34 ct34), sl34⟩)
    (c34 : PySem.W.codeIn K cd34 "_law_pair" = true)
    (k34 : PySem.W.keepIn K (.ref f34) = true)
    (a35 : PySem.W.nsIn K mainGlobals "_law_entry" = some (some (.ref f35)))
    (l35 : K.lookup f35 = some ⟨oc35, od35, .func (PySem.W.fnOf "_law_entry" "_law_entry" (defArgs sEntR) (defBody sEntR) (defScope sEntR) .none kV35 dc35 pm35 an35 cd35 ct35), sl35⟩)
    (c35 : PySem.W.codeIn K cd35 "_law_entry" = true)
    (k35 : PySem.W.keepIn K (.ref f35) = true)
    (a36 : PySem.W.nsIn K mainGlobals "_law_row" = some (some (.ref f36)))
    (l36 : K.lookup f36 = some ⟨oc36, od36, .func (PySem.W.fnOf "_law_row" "_law_row" (defArgs sRowR) (defBody sRowR) (defScope sRowR) .none kV36 dc36 pm36 an36 cd36 ct36), sl36⟩)
    (c36 : PySem.W.codeIn K cd36 "_law_row" = true)
    (k36 : PySem.W.keepIn K (.ref f36) = true)
    (a37 : PySem.W.nsIn K mainGlobals "_law_list" = some (some (.ref f37)))
    (l37 : K.lookup f37 = some ⟨oc37, od37, .func (PySem.W.fnOf "_law_list" "_law_list" (defArgs sListR) (defBody sListR) (defScope sListR) .none kV37 dc37 pm37 an37 cd37 ct37), sl37⟩)
    (c37 : PySem.W.codeIn K cd37 "_law_list" = true)
    (k37 : PySem.W.keepIn K (.ref f37) = true)
    (a38 : PySem.W.nsIn K mainGlobals "_law_table" = some (some (.ref f38)))
    (l38 : K.lookup f38 = some ⟨oc38, od38, .func (PySem.W.fnOf "_law_table" "_law_table" (defArgs sTableR) (defBody sTableR) (defScope sTableR) .none kV38 dc38 pm38 an38 cd38 ct38), sl38⟩)
    (c38 : PySem.W.codeIn K cd38 "_law_table" = true)
    (k38 : PySem.W.keepIn K (.ref f38) = true)
    (a39 : PySem.W.nsIn K mainGlobals "_law_one_right" = some (some (.ref f39)))
    (l39 : K.lookup f39 = some ⟨oc39, od39, .func (PySem.W.fnOf "_law_one_right" "_law_one_right" (defArgs sOne14) (defBody sOne14) (defScope sOne14) .none kV39 dc39 pm39 an39 cd39 ct39), sl39⟩)
    (c39 : PySem.W.codeIn K cd39 "_law_one_right" = true)
    (k39 : PySem.W.keepIn K (.ref f39) = true)
    (a40 : PySem.W.nsIn K mainGlobals "_law_corner_right" = some (some (.ref f40)))
    (l40 : K.lookup f40 = some ⟨oc40, od40, .func (PySem.W.fnOf "_law_corner_right" "_law_corner_right" (defArgs sCorner14) (defBody sCorner14) (defScope sCorner14) .none kV40 dc40 pm40 an40 cd40 ct40), sl40⟩)
    (c40 : PySem.W.codeIn K cd40 "_law_corner_right" = true)
    (k40 : PySem.W.keepIn K (.ref f40) = true)
    (a41 : PySem.W.nsIn K mainGlobals "_law_right" = some (some (.ref f41)))
    (l41 : K.lookup f41 = some ⟨oc41, od41, .func (PySem.W.fnOf "_law_right" "_law_right" (defArgs sRight) (defBody sRight) (defScope sRight) .none kV41 dc41 pm41 an41 cd41 ct41), sl41⟩)
    (c41 : PySem.W.codeIn K cd41 "_law_right" = true)
    (k41 : PySem.W.keepIn K (.ref f41) = true)
    (a42 : PySem.W.nsIn K mainGlobals "law" = some (some (.ref f42)))
    (l42 : K.lookup f42 = some ⟨oc42, od42, .func (PySem.W.fnOf "law" "law" (defArgs sLaw) (defBody sLaw) (defScope sLaw) .none kV42 dc42 pm42 an42 cd42 ct42), sl42⟩)
    (c42 : PySem.W.codeIn K cd42 "law" = true)
    (k42 : PySem.W.keepIn K (.ref f42) = true)
    (a43 : PySem.W.findIn K (.ref C) "__add__" = some (some (.ref f43)))
    (i43 : PySem.W.isFn K (.ref f43) = true)
    (l43 : K.lookup f43 = some ⟨oc43, od43, .func (PySem.W.fnOf "__add__" "Ratio.__add__" (defArgs sRAdd) (defBody sRAdd) (defScope sRAdd) .none kV43 dc43 pm43 an43 cd43 ct43), sl43⟩)
    (c43 : PySem.W.codeIn K cd43 "Ratio.__add__" = true)
    (k43 : PySem.W.keepIn K (.ref f43) = true)
    (a44 : PySem.W.findIn K (.ref C) "__radd__" = some (some (.ref f44)))
    (i44 : PySem.W.isFn K (.ref f44) = true)
    (l44 : K.lookup f44 = some ⟨oc44, od44, .func (PySem.W.fnOf "__radd__" "Ratio.__radd__" (defArgs sRRadd) (defBody sRRadd) (defScope sRRadd) .none kV44 dc44 pm44 an44 cd44 ct44), sl44⟩)
    (c44 : PySem.W.codeIn K cd44 "Ratio.__radd__" = true)
    (k44 : PySem.W.keepIn K (.ref f44) = true)
    (a45 : PySem.W.findIn K (.ref C) "__sub__" = some (some (.ref f45)))
    (i45 : PySem.W.isFn K (.ref f45) = true)
    (l45 : K.lookup f45 = some ⟨oc45, od45, .func (PySem.W.fnOf "__sub__" "Ratio.__sub__" (defArgs sRSub) (defBody sRSub) (defScope sRSub) .none kV45 dc45 pm45 an45 cd45 ct45), sl45⟩)
    (c45 : PySem.W.codeIn K cd45 "Ratio.__sub__" = true)
    (k45 : PySem.W.keepIn K (.ref f45) = true)
    (a46 : PySem.W.findIn K (.ref C) "__rsub__" = some (some (.ref f46)))
    (i46 : PySem.W.isFn K (.ref f46) = true)
    (l46 : K.lookup f46 = some ⟨oc46, od46, .func (PySem.W.fnOf "__rsub__" "Ratio.__rsub__" (defArgs sRRsub) (defBody sRRsub) (defScope sRRsub) .none kV46 dc46 pm46 an46 cd46 ct46), sl46⟩)
    (c46 : PySem.W.codeIn K cd46 "Ratio.__rsub__" = true)
    (k46 : PySem.W.keepIn K (.ref f46) = true)
    (a47 : PySem.W.findIn K (.ref C) "__mul__" = some (some (.ref f47)))
    (i47 : PySem.W.isFn K (.ref f47) = true)
    (l47 : K.lookup f47 = some ⟨oc47, od47, .func (PySem.W.fnOf "__mul__" "Ratio.__mul__" (defArgs sRMul) (defBody sRMul) (defScope sRMul) .none kV47 dc47 pm47 an47 cd47 ct47), sl47⟩)
    (c47 : PySem.W.codeIn K cd47 "Ratio.__mul__" = true)
    (k47 : PySem.W.keepIn K (.ref f47) = true)
    (a48 : PySem.W.findIn K (.ref C) "__rmul__" = some (some (.ref f48)))
    (i48 : PySem.W.isFn K (.ref f48) = true)
    (l48 : K.lookup f48 = some ⟨oc48, od48, .func (PySem.W.fnOf "__rmul__" "Ratio.__rmul__" (defArgs sRRmul) (defBody sRRmul) (defScope sRRmul) .none kV48 dc48 pm48 an48 cd48 ct48), sl48⟩)
    (c48 : PySem.W.codeIn K cd48 "Ratio.__rmul__" = true)
    (k48 : PySem.W.keepIn K (.ref f48) = true)
    (a49 : PySem.W.findIn K (.ref C) "__neg__" = some (some (.ref f49)))
    (i49 : PySem.W.isFn K (.ref f49) = true)
    (l49 : K.lookup f49 = some ⟨oc49, od49, .func (PySem.W.fnOf "__neg__" "Ratio.__neg__" (defArgs sRNeg) (defBody sRNeg) (defScope sRNeg) .none kV49 dc49 pm49 an49 cd49 ct49), sl49⟩)
    (c49 : PySem.W.codeIn K cd49 "Ratio.__neg__" = true)
    (k49 : PySem.W.keepIn K (.ref f49) = true)
    (a50 : PySem.W.findIn K (.ref C) "over" = some (some (.ref f50)))
    (i50 : PySem.W.isFn K (.ref f50) = true)
    (l50 : K.lookup f50 = some ⟨oc50, od50, .func (PySem.W.fnOf "over" "Ratio.over" (defArgs sROver) (defBody sROver) (defScope sROver) .none kV50 dc50 pm50 an50 cd50 ct50), sl50⟩)
    (c50 : PySem.W.codeIn K cd50 "Ratio.over" = true)
    (k50 : PySem.W.keepIn K (.ref f50) = true)
    (a51 : PySem.W.findIn K (.ref C) "size" = some (some (.ref f51)))
    (i51 : PySem.W.isFn K (.ref f51) = true)
    (l51 : K.lookup f51 = some ⟨oc51, od51, .func (PySem.W.fnOf "size" "Ratio.size" (defArgs sRSize) (defBody sRSize) (defScope sRSize) .none kV51 dc51 pm51 an51 cd51 ct51), sl51⟩)
    (c51 : PySem.W.codeIn K cd51 "Ratio.size" = true)
    (k51 : PySem.W.keepIn K (.ref f51) = true)
    (a52 : PySem.W.findIn K (.ref C) "__eq__" = some (some (.ref f52)))
    (i52 : PySem.W.isFn K (.ref f52) = true)
    (l52 : K.lookup f52 = some ⟨oc52, od52, .func (PySem.W.fnOf "__eq__" "Ratio.__eq__" (defArgs sREq) (defBody sREq) (defScope sREq) .none kV52 dc52 pm52 an52 cd52 ct52), sl52⟩)
    (c52 : PySem.W.codeIn K cd52 "Ratio.__eq__" = true)
    (k52 : PySem.W.keepIn K (.ref f52) = true)
    (a53 : PySem.W.findIn K (.ref C) "__str__" = some (some (.ref f53)))
    (i53 : PySem.W.isFn K (.ref f53) = true)
    (l53 : K.lookup f53 = some ⟨oc53, od53, .func (PySem.W.fnOf "__str__" "Ratio.__str__" (defArgs sRStr) (defBody sRStr) (defScope sRStr) .none kV53 dc53 pm53 an53 cd53 ct53), sl53⟩)
    (c53 : PySem.W.codeIn K cd53 "Ratio.__str__" = true)
    (k53 : PySem.W.keepIn K (.ref f53) = true)
    (a54 : PySem.W.findIn K (.ref C) "__repr__" = some (some (.ref f54)))
    (i54 : PySem.W.isFn K (.ref f54) = true)
    (l54 : K.lookup f54 = some ⟨oc54, od54, .func (PySem.W.fnOf "__repr__" "Ratio.__repr__" (defArgs sRRepr) (defBody sRRepr) (defScope sRRepr) .none kV54 dc54 pm54 an54 cd54 ct54), sl54⟩)
    (c54 : PySem.W.codeIn K cd54 "Ratio.__repr__" = true)
    (k54 : PySem.W.keepIn K (.ref f54) = true)
    (pa0 : PySem.W.findIn K (.ref C) "top" = some (some (.ref p0)))
    (pg0 : PySem.W.specialIn K (.ref p0) "__get__" = some (some (.builtin "property.__get__")))
    (pt0 : PySem.W.takesIn K (.ref p0) = some true)
    (pr0 : PySem.W.recIn K p0 "property" = some (.ref f55 :: rest0))
    (l55 : K.lookup f55 = some ⟨oc55, od55, .func (PySem.W.fnOf "top" "Ratio.top" (defArgs sRTop) (defBody sRTop) (defScope sRTop) .none kV55 dc55 pm55 an55 cd55 ct55), sl55⟩)
    (c55 : PySem.W.codeIn K cd55 "Ratio.top" = true)
    (k55 : PySem.W.keepIn K (.ref f55) = true)
    (pa1 : PySem.W.findIn K (.ref C) "bottom" = some (some (.ref p1)))
    (pg1 : PySem.W.specialIn K (.ref p1) "__get__" = some (some (.builtin "property.__get__")))
    (pt1 : PySem.W.takesIn K (.ref p1) = some true)
    (pr1 : PySem.W.recIn K p1 "property" = some (.ref f56 :: rest1))
    (l56 : K.lookup f56 = some ⟨oc56, od56, .func (PySem.W.fnOf "bottom" "Ratio.bottom" (defArgs sRBot) (defBody sRBot) (defScope sRBot) .none kV56 dc56 pm56 an56 cd56 ct56), sl56⟩)
    (c56 : PySem.W.codeIn K cd56 "Ratio.bottom" = true)
    (k56 : PySem.W.keepIn K (.ref f56) = true)
    (pa2 : PySem.W.findIn K (.ref C) "sign" = some (some (.ref p2)))
    (pg2 : PySem.W.specialIn K (.ref p2) "__get__" = some (some (.builtin "property.__get__")))
    (pt2 : PySem.W.takesIn K (.ref p2) = some true)
    (pr2 : PySem.W.recIn K p2 "property" = some (.ref f57 :: rest2))
    (l57 : K.lookup f57 = some ⟨oc57, od57, .func (PySem.W.fnOf "sign" "Ratio.sign" (defArgs sRSign) (defBody sRSign) (defScope sRSign) .none kV57 dc57 pm57 an57 cd57 ct57), sl57⟩)
    (c57 : PySem.W.codeIn K cd57 "Ratio.sign" = true)
    (k57 : PySem.W.keepIn K (.ref f57) = true)
    (a58 : PySem.W.findIn K (.ref C) "__init__" = some (some (.ref f58)))
    (i58 : PySem.W.isFn K (.ref f58) = true)
    (l58 : K.lookup f58 = some ⟨oc58, od58, .func (PySem.W.fnOf "__init__" "Ratio.__init__" (defArgs sRInit) (defBody sRInit) (defScope sRInit) (.ref T1) kV58 dc58 pm58 an58 cd58 ct58), sl58⟩)
    (c58 : PySem.W.codeIn K cd58 "Ratio.__init__" = true)
    (k58 : PySem.W.keepIn K (.ref f58) = true)
    (lT : K.lookup T1 = some ⟨oT, dT, .seq #[.int 1 tkT] nT, sT⟩)
    (rd : PySem.W.readsIn K C (.type "type") = true)
    (ga : PySem.W.specialIn K (.ref C) "__getattribute__" = some (some (.builtin "type.__getattribute__")))
    (ca : PySem.W.findCls K (.ref C) (.type "type") "total" = some (.get (.builtin "classmethod.__get__") (.ref pM) .none (.ref C)))
    (cr : PySem.W.recIn K pM "classmethod" = some (.ref f59 :: restM))
    (l59 : K.lookup f59 = some ⟨oc59, od59, .func (PySem.W.fnOf "total" "Ratio.total" (defArgs sRTotal) (defBody sRTotal) (defScope sRTotal) .none kV59 dc59 pm59 an59 cd59 ct59), sl59⟩)
    (c59 : PySem.W.codeIn K cd59 "Ratio.total" = true)
    (k59 : PySem.W.keepIn K (.ref f59) = true)
    (cf : PySem.W.fnIn K f59 = true)
    (sf : PySem.W.selfFirst K C = true)
    (tadd : PySem.W.findIn K (.type "int") "__add__" = some fo_add)
    (radd : PySem.W.findIn K (.type "int") "__radd__" = some ro_add)
    (tsub : PySem.W.findIn K (.type "int") "__sub__" = some fo_sub)
    (rsub : PySem.W.findIn K (.type "int") "__rsub__" = some ro_sub)
    (tmul : PySem.W.findIn K (.type "int") "__mul__" = some fo_mul)
    (rmul : PySem.W.findIn K (.type "int") "__rmul__" = some ro_mul)
    (s1 : PySem.W.subIn K (.type "int") (.ref C) = some false)
    (s2 : PySem.W.subIn K (.ref C) (.type "int") = some false)
    (nf : PySem.W.notFirst K C (.type "int") = true)
    (kc : PySem.W.isClsIn K C = true)
    (kt : PySem.W.typeIn K (.ref C) = some (.type "type"))
    (ks0 : PySem.W.subIn K (.type "bool") (.ref C) = some false)
    (ks1 : PySem.W.subIn K (.type "NoneType") (.ref C) = some false)
    (ks2 : PySem.W.subIn K (.type "str") (.ref C) = some false)
    (ks3 : PySem.W.subIn K (.type "list") (.ref C) = some false)
    (ks4 : PySem.W.subIn K (.type "tuple") (.ref C) = some false)
    (kr : PySem.W.kitOne K (.ref C) (.type "int") = some false)
    (q1 : PySem.W.plainGet K C Str.empty = true)
    (q2 : PySem.W.hasDictIn K C = true)
    (q3 : PySem.W.plainOver K C = true)
    (q4 : PySem.W.findIn K (.ref C) "__setattr__" = some (some (.builtin "object.__setattr__")))
    (q5 : PySem.W.makesIn K C = true)
    (q6 : PySem.W.keepIn K (.ref C) = true)
    (n1 : PySem.W.findIn K (.ref C) "_top" = some none)
    (n2 : PySem.W.findIn K (.ref C) "_bottom" = some none)
    (w1 : PySem.W.findIn K (.ref C) "__class__" = some (some (.builtin "object.__class__")))
    (w2 : PySem.W.specialIn K (.builtin "object.__class__") "__get__" = some (some (.builtin "getset_descriptor.__get__")))
    (w3 : PySem.W.takesIn K (.builtin "object.__class__") = some true)
    (w4 : PySem.W.mroIn K C (.type "object") = some true)
    (ne : PySem.W.findIn K (.ref C) "__ne__" = some (some (.builtin "object.__ne__")))
    (mc0 : PySem.W.nsIn K mainGlobals "MOST_THINGS" = some (some (.int 6 tkC0)))
    (z_isinstance : PySem.W.nsIn K mainGlobals "isinstance" = some none)
    (z_int : PySem.W.nsIn K mainGlobals "int" = some none)
    (z_bool : PySem.W.nsIn K mainGlobals "bool" = some none)
    (z_list : PySem.W.nsIn K mainGlobals "list" = some none)
    (z_tuple : PySem.W.nsIn K mainGlobals "tuple" = some none)
    (z_len : PySem.W.nsIn K mainGlobals "len" = some none)
    (z_all : PySem.W.nsIn K mainGlobals "all" = some none)
    (z_any : PySem.W.nsIn K mainGlobals "any" = some none)
    (z_set : PySem.W.nsIn K mainGlobals "set" = some none)
    (z_range : PySem.W.nsIn K mainGlobals "range" = some none)
    (z_sorted : PySem.W.nsIn K mainGlobals "sorted" = some none)
    (z_sum : PySem.W.nsIn K mainGlobals "sum" = some none)
    (z_abs : PySem.W.nsIn K mainGlobals "abs" = some none)
    (z_max : PySem.W.nsIn K mainGlobals "max" = some none)
    (z_min : PySem.W.nsIn K mainGlobals "min" = some none)
    (z_divmod : PySem.W.nsIn K mainGlobals "divmod" = some none)
    (z_repr : PySem.W.nsIn K mainGlobals "repr" = some none)
    (z_enumerate : PySem.W.nsIn K mainGlobals "enumerate" = some none)
    (z_zip : PySem.W.nsIn K mainGlobals "zip" = some none)
    (z_str : PySem.W.nsIn K mainGlobals "str" = some none) :
    ∃ fd : FuncData, (∀ (s : Shared) (v : Value), BindsTo s fd ⟨[v], []⟩ [("_law_script", v)]) ∧ ∀ base : Heap, K.In base → base.Ns mainGlobals mg → FnG P w K mg base 12 fa fd ["_law_script"] (spLawR K) := by
  have e := hfa.symm.trans (PySem.W.mg_of X G a42)
  cases e
  have B : Bl mg := ⟨PySem.W.mg_none_of X G z_isinstance, PySem.W.mg_none_of X G z_int, PySem.W.mg_none_of X G z_bool, PySem.W.mg_none_of X G z_list, PySem.W.mg_none_of X G z_tuple, PySem.W.mg_none_of X G z_len, PySem.W.mg_none_of X G z_all, PySem.W.mg_none_of X G z_any, PySem.W.mg_none_of X G z_set, PySem.W.mg_none_of X G z_range, PySem.W.mg_none_of X G z_sorted, PySem.W.mg_none_of X G z_sum, PySem.W.mg_none_of X G z_abs, PySem.W.mg_none_of X G z_max, PySem.W.mg_none_of X G z_min, PySem.W.mg_none_of X G z_divmod, PySem.W.mg_none_of X G z_repr, PySem.W.mg_none_of X G z_enumerate, PySem.W.mg_none_of X G z_zip⟩
  have ms : mg "str" = none := PySem.W.mg_none_of X G z_str
  have F0 := fun_mk (st := sIsInt) l0 c0 k0
  have D0 : Df K mg "is_integer" sIsInt ["value"] f0 _ := ⟨F0, PySem.W.mg_of X G a0, F0.binds (ps := ["value"]) fun _ _ _ _ _ _ us hl => match us, hl with | [_], _ => rfl⟩
  have F1 := fun_mk (st := sIsCnt) l1 c1 k1
  have D1 : Df K mg "is_count" sIsCnt ["value"] f1 _ := ⟨F1, PySem.W.mg_of X G a1, F1.binds (ps := ["value"]) fun _ _ _ _ _ _ us hl => match us, hl with | [_], _ => rfl⟩
  have F2 := fun_mk (st := sIsLst) l2 c2 k2
  have D2 : Df K mg "is_list" sIsLst ["value"] f2 _ := ⟨F2, PySem.W.mg_of X G a2, F2.binds (ps := ["value"]) fun _ _ _ _ _ _ us hl => match us, hl with | [_], _ => rfl⟩
  have F3 := fun_mk (st := sIsNum) l3 c3 k3
  have D3 : Df K mg "is_number" sIsNum ["value"] f3 _ := ⟨F3, PySem.W.mg_of X G a3, F3.binds (ps := ["value"]) fun _ _ _ _ _ _ us hl => match us, hl with | [_], _ => rfl⟩
  have F4 := fun_mk (st := sAsRat) l4 c4 k4
  have D4 : Df K mg "as_ratio" sAsRat ["number"] f4 _ := ⟨F4, PySem.W.mg_of X G a4, F4.binds (ps := ["number"]) fun _ _ _ _ _ _ us hl => match us, hl with | [_], _ => rfl⟩
  have F5 := fun_mk (st := sAreNum) l5 c5 k5
  have D5 : Df K mg "are_numbers" sAreNum ["value"] f5 _ := ⟨F5, PySem.W.mg_of X G a5, F5.binds (ps := ["value"]) fun _ _ _ _ _ _ us hl => match us, hl with | [_], _ => rfl⟩
  have F6 := fun_mk (st := sLedQ) l6 c6 k6
  have D6 : Df K mg "led" sLedQ ["numbers", "other"] f6 _ := ⟨F6, PySem.W.mg_of X G a6, F6.binds (ps := ["numbers", "other"]) fun _ _ _ _ _ _ us hl => match us, hl with | [_, _], _ => rfl⟩
  have F7 := fun_mk (st := sTold0) l7 c7 k7
  have D7 : Df K mg "told" sTold0 ["rows"] f7 _ := ⟨F7, PySem.W.mg_of X G a7, F7.binds (ps := ["rows"]) fun _ _ _ _ _ _ us hl => match us, hl with | [_], _ => rfl⟩
  have F8 := fun_mk (st := sCleared) l8 c8 k8
  have D8 : Df K mg "cleared" sCleared ["row"] f8 _ := ⟨F8, PySem.W.mg_of X G a8, F8.binds (ps := ["row"]) fun _ _ _ _ _ _ us hl => match us, hl with | [_], _ => rfl⟩
  have F9 := fun_mk (st := sRowWith) l9 c9 k9
  have D9 : Df K mg "row_with" sRowWith ["rows", "first", "place"] f9 _ := ⟨F9, PySem.W.mg_of X G a9, F9.binds (ps := ["rows", "first", "place"]) fun _ _ _ _ _ _ us hl => match us, hl with | [_, _, _], _ => rfl⟩
  have F10 := fun_mk (st := sTakenOff) l10 c10 k10
  have D10 : Df K mg "taken_off" sTakenOff ["row", "lead", "place", "past"] f10 _ := ⟨F10, PySem.W.mg_of X G a10, F10.binds (ps := ["row", "lead", "place", "past"]) fun _ _ _ _ _ _ us hl => match us, hl with | [_, _, _, _], _ => rfl⟩
  have F11 := fun_mk (st := sInWhole) l11 c11 k11
  have D11 : Df K mg "in_whole_steps" sInWhole ["rows"] f11 _ := ⟨F11, PySem.W.mg_of X G a11, F11.binds (ps := ["rows"]) fun _ _ _ _ _ _ us hl => match us, hl with | [_], _ => rfl⟩
  have F12 := fun_mk (st := sDetOf) l12 c12 k12
  have D12 : Df K mg "determinant_of" sDetOf ["table"] f12 _ := ⟨F12, PySem.W.mg_of X G a12, F12.binds (ps := ["table"]) fun _ _ _ _ _ _ us hl => match us, hl with | [_], _ => rfl⟩
  have F13 := fun_mk (st := sIsSize) l13 c13 k13
  have D13 : Df K mg "is_size" sIsSize ["value"] f13 _ := ⟨F13, PySem.W.mg_of X G a13, F13.binds (ps := ["value"]) fun _ _ _ _ _ _ us hl => match us, hl with | [_], _ => rfl⟩
  have F14 := fun_mk (st := sChkSize) l14 c14 k14
  have D14 : Df K mg "check_size" sChkSize ["size"] f14 _ := ⟨F14, PySem.W.mg_of X G a14, F14.binds (ps := ["size"]) fun _ _ _ _ _ _ us hl => match us, hl with | [_], _ => rfl⟩
  have F15 := fun_mk (st := sIsTab) l15 c15 k15
  have D15 : Df K mg "is_table" sIsTab ["value"] f15 _ := ⟨F15, PySem.W.mg_of X G a15, F15.binds (ps := ["value"]) fun _ _ _ _ _ _ us hl => match us, hl with | [_], _ => rfl⟩
  have F16 := fun_mk (st := sChkTab) l16 c16 k16
  have D16 : Df K mg "check_table" sChkTab ["table"] f16 _ := ⟨F16, PySem.W.mg_of X G a16, F16.binds (ps := ["table"]) fun _ _ _ _ _ _ us hl => match us, hl with | [_], _ => rfl⟩
  have F17 := fun_mk (st := sChkTwo) l17 c17 k17
  have D17 : Df K mg "check_two" sChkTwo ["table", "other"] f17 _ := ⟨F17, PySem.W.mg_of X G a17, F17.binds (ps := ["table", "other"]) fun _ _ _ _ _ _ us hl => match us, hl with | [_, _], _ => rfl⟩
  have F18 := fun_mk (st := sTabWith) l18 c18 k18
  have D18 : Df K mg "table_with" sTabWith ["line", "pairs", "number"] f18 _ := ⟨F18, PySem.W.mg_of X G a18, F18.binds (ps := ["line", "pairs", "number"]) fun _ _ _ _ _ _ us hl => match us, hl with | [_, _, _], _ => rfl⟩
  have F19 := fun_mk (st := sIdleT) l19 c19 k19
  have D19 : Df K mg "idle" sIdleT ["size"] f19 _ := ⟨F19, PySem.W.mg_of X G a19, F19.binds (ps := ["size"]) fun _ _ _ _ _ _ us hl => match us, hl with | [_], _ => rfl⟩
  have F20 := fun_mk (st := sTimesT) l20 c20 k20
  have D20 : Df K mg "times" sTimesT ["table", "other"] f20 _ := ⟨F20, PySem.W.mg_of X G a20, F20.binds (ps := ["table", "other"]) fun _ _ _ _ _ _ us hl => match us, hl with | [_, _], _ => rfl⟩
  have F21 := fun_mk (st := sAboutT) l21 c21 k21
  have D21 : Df K mg "about" sAboutT ["table"] f21 _ := ⟨F21, PySem.W.mg_of X G a21, F21.binds (ps := ["table"]) fun _ _ _ _ _ _ us hl => match us, hl with | [_], _ => rfl⟩
  have F22 := fun_mk (st := sDet) l22 c22 k22
  have D22 : Df K mg "determinant" sDet ["table"] f22 _ := ⟨F22, PySem.W.mg_of X G a22, F22.binds (ps := ["table"]) fun _ _ _ _ _ _ us hl => match us, hl with | [_], _ => rfl⟩
  have F23 := fun_mk (st := sPot) l23 c23 k23
  have D23 : Df K mg "_law_pot" sPot ["_law_script", "_law_k"] f23 _ := ⟨F23, PySem.W.mg_of X G a23, F23.binds (ps := ["_law_script", "_law_k"]) fun _ _ _ _ _ _ us hl => match us, hl with | [_, _], _ => rfl⟩
  have F24 := fun_mk (st := sDraw) l24 c24 k24
  have D24 : Df K mg "_law_draw" sDraw ["_law_pot_here", "_law_room"] f24 _ := ⟨F24, PySem.W.mg_of X G a24, F24.binds (ps := ["_law_pot_here", "_law_room"]) fun _ _ _ _ _ _ us hl => match us, hl with | [_, _], _ => rfl⟩
  have F25 := fun_mk (st := sPick) l25 c25 k25
  have D25 : Df K mg "_law_pick" sPick ["_law_pot_here", "_law_some"] f25 _ := ⟨F25, PySem.W.mg_of X G a25, F25.binds (ps := ["_law_pot_here", "_law_some"]) fun _ _ _ _ _ _ us hl => match us, hl with | [_, _], _ => rfl⟩
  have F26 := fun_mk (st := sLowR) l26 c26 k26
  have D26 : Df K mg "_law_low" sLowR ["_law_top", "_law_bottom"] f26 _ := ⟨F26, PySem.W.mg_of X G a26, F26.binds (ps := ["_law_top", "_law_bottom"]) fun _ _ _ _ _ _ us hl => match us, hl with | [_, _], _ => rfl⟩
  have F27 := fun_mk (st := sSumR) l27 c27 k27
  have D27 : Df K mg "_law_sum" sSumR ["_law_one", "_law_other"] f27 _ := ⟨F27, PySem.W.mg_of X G a27, F27.binds (ps := ["_law_one", "_law_other"]) fun _ _ _ _ _ _ us hl => match us, hl with | [_, _], _ => rfl⟩
  have F28 := fun_mk (st := sByR) l28 c28 k28
  have D28 : Df K mg "_law_by" sByR ["_law_one", "_law_other"] f28 _ := ⟨F28, PySem.W.mg_of X G a28, F28.binds (ps := ["_law_one", "_law_other"]) fun _ _ _ _ _ _ us hl => match us, hl with | [_, _], _ => rfl⟩
  have F29 := fun_mk (st := sLessR) l29 c29 k29
  have D29 : Df K mg "_law_less" sLessR ["_law_one", "_law_other"] f29 _ := ⟨F29, PySem.W.mg_of X G a29, F29.binds (ps := ["_law_one", "_law_other"]) fun _ _ _ _ _ _ us hl => match us, hl with | [_, _], _ => rfl⟩
  have F30 := fun_mk (st := sCrossed) l30 c30 k30
  have D30 : Df K mg "_law_crossed" sCrossed ["_law_table_here"] f30 _ := ⟨F30, PySem.W.mg_of X G a30, F30.binds (ps := ["_law_table_here"]) fun _ _ _ _ _ _ us hl => match us, hl with | [_], _ => rfl⟩
  have F31 := fun_mk (st := sPasR) l31 c31 k31
  have D31 : Df K mg "_law_passed" sPasR ["_law_pot_here", "_law_pair_here"] f31 _ := ⟨F31, PySem.W.mg_of X G a31, F31.binds (ps := ["_law_pot_here", "_law_pair_here"]) fun _ _ _ _ _ _ us hl => match us, hl with | [_, _], _ => rfl⟩
  have F32 := fun_mk (st := sGivRow) l32 c32 k32
  have D32 : Df K mg "_law_given_row" sGivRow ["_law_pot_here", "_law_row_here"] f32 _ := ⟨F32, PySem.W.mg_of X G a32, F32.binds (ps := ["_law_pot_here", "_law_row_here"]) fun _ _ _ _ _ _ us hl => match us, hl with | [_, _], _ => rfl⟩
  have F33 := fun_mk (st := sGivR) l33 c33 k33
  have D33 : Df K mg "_law_given" sGivR ["_law_pot_here", "_law_rows"] f33 _ := ⟨F33, PySem.W.mg_of X G a33, F33.binds (ps := ["_law_pot_here", "_law_rows"]) fun _ _ _ _ _ _ us hl => match us, hl with | [_, _], _ => rfl⟩
  have F34 := fun_mk (st := sRtPair) l34 c34 k34
  have D34 : Df K mg "_law_pair" sRtPair ["_law_value"] f34 _ := ⟨F34, PySem.W.mg_of X G a34, F34.binds (ps := ["_law_value"]) fun _ _ _ _ _ _ us hl => match us, hl with | [_], _ => rfl⟩
  have F35 := fun_mk (st := sEntR) l35 c35 k35
  have D35 : Df K mg "_law_entry" sEntR ["_law_pot_here"] f35 _ := ⟨F35, PySem.W.mg_of X G a35, F35.binds (ps := ["_law_pot_here"]) fun _ _ _ _ _ _ us hl => match us, hl with | [_], _ => rfl⟩
  have F36 := fun_mk (st := sRowR) l36 c36 k36
  have D36 : Df K mg "_law_row" sRowR ["_law_pot_here", "_law_wide"] f36 _ := ⟨F36, PySem.W.mg_of X G a36, F36.binds (ps := ["_law_pot_here", "_law_wide"]) fun _ _ _ _ _ _ us hl => match us, hl with | [_, _], _ => rfl⟩
  have F37 := fun_mk (st := sListR) l37 c37 k37
  have D37 : Df K mg "_law_list" sListR ["_law_pot_here", "_law_wide", "_law_many"] f37 _ := ⟨F37, PySem.W.mg_of X G a37, F37.binds (ps := ["_law_pot_here", "_law_wide", "_law_many"]) fun _ _ _ _ _ _ us hl => match us, hl with | [_, _, _], _ => rfl⟩
  have F38 := fun_mk (st := sTableR) l38 c38 k38
  have D38 : Df K mg "_law_table" sTableR ["_law_pot_here", "_law_size"] f38 _ := ⟨F38, PySem.W.mg_of X G a38, F38.binds (ps := ["_law_pot_here", "_law_size"]) fun _ _ _ _ _ _ us hl => match us, hl with | [_, _], _ => rfl⟩
  have F39 := fun_mk (st := sOne14) l39 c39 k39
  have D39 : Df K mg "_law_one_right" sOne14 ["_law_pot_here", "_law_size"] f39 _ := ⟨F39, PySem.W.mg_of X G a39, F39.binds (ps := ["_law_pot_here", "_law_size"]) fun _ _ _ _ _ _ us hl => match us, hl with | [_, _], _ => rfl⟩
  have F40 := fun_mk (st := sCorner14) l40 c40 k40
  have D40 : Df K mg "_law_corner_right" sCorner14 ["_law_pot_here", "_law_size"] f40 _ := ⟨F40, PySem.W.mg_of X G a40, F40.binds (ps := ["_law_pot_here", "_law_size"]) fun _ _ _ _ _ _ us hl => match us, hl with | [_, _], _ => rfl⟩
  have F41 := fun_mk (st := sRight) l41 c41 k41
  have D41 : Df K mg "_law_right" sRight ["_law_pot_here"] f41 _ := ⟨F41, PySem.W.mg_of X G a41, F41.binds (ps := ["_law_pot_here"]) fun _ _ _ _ _ _ us hl => match us, hl with | [_], _ => rfl⟩
  have F42 := fun_mk (st := sLaw) l42 c42 k42
  have F43 := fun_mk (st := sRAdd) l43 c43 k43
  have b43 := F43.binds (ps := ["self", "other"]) fun _ _ _ _ _ _ us hl => match us, hl with | [_, _], _ => rfl
  have F44 := fun_mk (st := sRRadd) l44 c44 k44
  have b44 := F44.binds (ps := ["self", "other"]) fun _ _ _ _ _ _ us hl => match us, hl with | [_, _], _ => rfl
  have F45 := fun_mk (st := sRSub) l45 c45 k45
  have b45 := F45.binds (ps := ["self", "other"]) fun _ _ _ _ _ _ us hl => match us, hl with | [_, _], _ => rfl
  have F46 := fun_mk (st := sRRsub) l46 c46 k46
  have b46 := F46.binds (ps := ["self", "other"]) fun _ _ _ _ _ _ us hl => match us, hl with | [_, _], _ => rfl
  have F47 := fun_mk (st := sRMul) l47 c47 k47
  have b47 := F47.binds (ps := ["self", "other"]) fun _ _ _ _ _ _ us hl => match us, hl with | [_, _], _ => rfl
  have F48 := fun_mk (st := sRRmul) l48 c48 k48
  have b48 := F48.binds (ps := ["self", "other"]) fun _ _ _ _ _ _ us hl => match us, hl with | [_, _], _ => rfl
  have F49 := fun_mk (st := sRNeg) l49 c49 k49
  have b49 := F49.binds (ps := ["self"]) fun _ _ _ _ _ _ us hl => match us, hl with | [_], _ => rfl
  have F50 := fun_mk (st := sROver) l50 c50 k50
  have b50 := F50.binds (ps := ["self", "other"]) fun _ _ _ _ _ _ us hl => match us, hl with | [_, _], _ => rfl
  have F51 := fun_mk (st := sRSize) l51 c51 k51
  have b51 := F51.binds (ps := ["self"]) fun _ _ _ _ _ _ us hl => match us, hl with | [_], _ => rfl
  have F52 := fun_mk (st := sREq) l52 c52 k52
  have b52 := F52.binds (ps := ["self", "other"]) fun _ _ _ _ _ _ us hl => match us, hl with | [_, _], _ => rfl
  have F53 := fun_mk (st := sRStr) l53 c53 k53
  have b53 := F53.binds (ps := ["self"]) fun _ _ _ _ _ _ us hl => match us, hl with | [_], _ => rfl
  have F54 := fun_mk (st := sRRepr) l54 c54 k54
  have b54 := F54.binds (ps := ["self"]) fun _ _ _ _ _ _ us hl => match us, hl with | [_], _ => rfl
  have F55 := fun_mk (st := sRTop) l55 c55 k55
  have b55 := F55.binds (ps := ["self"]) fun _ _ _ _ _ _ us hl => match us, hl with | [_], _ => rfl
  have F56 := fun_mk (st := sRBot) l56 c56 k56
  have b56 := F56.binds (ps := ["self"]) fun _ _ _ _ _ _ us hl => match us, hl with | [_], _ => rfl
  have F57 := fun_mk (st := sRSign) l57 c57 k57
  have b57 := F57.binds (ps := ["self"]) fun _ _ _ _ _ _ us hl => match us, hl with | [_], _ => rfl
  have F59 := fun_mk (st := sRTotal) l59 c59 k59
  have b59 := F59.binds (ps := ["cls", "numbers"]) fun _ _ _ _ _ _ us hl => match us, hl with | [_, _], _ => rfl
  have FI : FunD K "__init__" "Ratio.__init__" (defArgs sRInit) (defBody sRInit) (defScope sRInit) [.int 1] [] f58 _ := ⟨⟨_, _, _, _, _, _, _, _, _, _, rfl, l58, c58, .inr ⟨by simp, T1, _, [.int 1 tkT], nT, rfl, lT, rfl, .cons ⟨tkT, rfl⟩ .nil⟩, .inl rfl⟩, k58⟩
  have T : RtC K mg C := ⟨⟨q1, q2, q3, q4⟩, n1, n2, PySem.W.mg_of X G aC, PySem.W.mg_of X G aG⟩
  have I : C8.InsC K C := ⟨T.cl, w1, w2, w3, w4, kit_self⟩
  have MI : Mk K C f58 := ⟨q5, a58, i58, q6⟩
  have M : RtM K mg C f58 _ := ⟨T, I, kit_no kc kt s1 rfl, kr, MI, FI, rinit_b FI, rinit_b1 FI⟩
  have Zp : RtP K C p0 f55 p1 f56 _ _ := ⟨⟨pa0, pg0, pt0, ⟨_, pr0⟩⟩, F55, b55, ⟨pa1, pg1, pt1, ⟨_, pr1⟩⟩, F56, b56⟩
  have pS : PropOf K C "sign" p2 f57 := ⟨pa2, pg2, pt2, ⟨_, pr2⟩⟩
  have TA : NeO.BinT K C f43 "add" := ⟨sf, a43, i43, ⟨_, a44, .inr ⟨_, rfl⟩⟩, ⟨_, tadd⟩, ⟨_, radd⟩, s1⟩
  have TS : NeO.BinT K C f45 "sub" := ⟨sf, a45, i45, ⟨_, a46, .inr ⟨_, rfl⟩⟩, ⟨_, tsub⟩, ⟨_, rsub⟩, s1⟩
  have TM : NeO.BinT K C f47 "mul" := ⟨sf, a47, i47, ⟨_, a48, .inr ⟨_, rfl⟩⟩, ⟨_, tmul⟩, ⟨_, rmul⟩, s1⟩
  have RA : NeO.BinR K C f44 "add" := ⟨sf, ⟨_, a43⟩, a44, i44, s2⟩
  have RS : NeO.BinR K C f46 "sub" := ⟨sf, ⟨_, a45⟩, a46, i46, s2⟩
  have RM : NeO.BinR K C f48 "mul" := ⟨sf, ⟨_, a47⟩, a48, i48, s2⟩
  refine ⟨PySem.W.fnOf "law" "law" (defArgs sLaw) (defBody sLaw) (defScope sLaw) .none kV42 dc42 pm42 an42 cd42 ct42, fun s v => .of_eq rfl, fun base _ _ => ?_⟩
  have GI : FnOk P w K mg base CX0 2 f58 _ ["self", "top", "bottom"] (spRInit C) := ok_rinit FI T D0 B
  have GAd : FnOk P w K mg base CX0 5 f43 _ ["self", "other"] (spBin C addQ) := ok_radd F43 M Zp D0 D4 B
  have GSu : FnOk P w K mg base CX0 5 f45 _ ["self", "other"] (spBin C subQ) := ok_rsub F45 M Zp D0 D4 B
  have GMu : FnOk P w K mg base CX0 5 f47 _ ["self", "other"] (spBin C mulQ) := ok_rmul F47 M Zp D0 D4 B
  have GRa : FnOk P w K mg base CX0 6 f44 _ ["self", "other"] (spRev C addQ) := ok_rradd F44 M D0 D4 sf a43 i43 b43 GAd B
  have GRs : FnOk P w K mg base CX0 6 f46 _ ["self", "other"] (spRev C subQ) := ok_rrsub F46 M D0 D4 sf a45 i45 b45 GSu B
  have GRm : FnOk P w K mg base CX0 6 f48 _ ["self", "other"] (spRev C mulQ) := ok_rrmul F48 M D0 D4 sf a47 i47 b47 GMu B
  have GTo : FnOk P w K mg base CX0 6 f59 _ ["cls", "numbers"] (spTotal K C) := ok_total F59 M D0 D2 TA b43 GAd B
  have GPr : FnOk P w K mg base CX0 3 f34 _ ["_law_value"] (spPairR K C) := ok_pairR D34.F M Zp B
  have GSm : FnOk P w K mg base CX0 2 f27 _ ["_law_one", "_law_other"] (spTwoR K addQ) := ok_sumR D27.F D26 B
  have GBy : FnOk P w K mg base CX0 2 f28 _ ["_law_one", "_law_other"] (spTwoR K mulQ) := ok_byR D28.F D26 B
  have GLs : FnOk P w K mg base CX0 3 f29 _ ["_law_one", "_law_other"] (spTwoR K subQ) := ok_lessR D29.F D27 GSm
  have GPk : FnOk P w K mg base CX0 2 f25 _ ["_law_pot_here", "_law_some"] (spPick K) := ok_pick D25.F D24 B
  have GEn : FnOk P w K mg base CX0 3 f35 _ ["_law_pot_here"] (spEntR K) := ok_entR D35.F D25 GPk
  have GRw : FnOk P w K mg base CX0 4 f36 _ ["_law_pot_here", "_law_wide"] (spRowR K) := ok_rowR D36.F D35 GEn B
  have GLi : FnOk P w K mg base CX0 5 f37 _ ["_law_pot_here", "_law_wide", "_law_many"] (spListR K) := ok_listR D37.F D36 GRw B
  have GTb : FnOk P w K mg base CX0 6 f38 _ ["_law_pot_here", "_law_size"] (spTableR K) := ok_tableR D38.F D37 GLi D24 D35 GEn D28 GBy B
  have GPa : FnOk P w K mg base CX0 4 f31 _ ["_law_pot_here", "_law_pair_here"] (spPasR K C) := ok_pasR D31.F M D24 D0 B
  have GGr : FnOk P w K mg base CX0 5 f32 _ ["_law_pot_here", "_law_row_here"] (spGivRow K C) := ok_givRow D32.F D24 D31 GPa B
  have GGi : FnOk P w K mg base CX0 6 f33 _ ["_law_pot_here", "_law_rows"] (spGivR K C) := ok_givR D33.F D24 D32 GGr B
  have GLc : ∀ n, FnOk P w K mg base CX0 (n + 4) f30 _ ["_law_table_here"] (spCross K n) := fun n => ok_crossed D30 D28 GBy D27 GSm D29 GLs B n
  have GIs : FnOk P w K mg base CX0 3 f13 _ ["value"] (spIsSize) := ok_isSize D13.F D0 D1 (PySem.W.mg_of X G mc0) B
  have GCs : FnOk P w K mg base CX0 4 f14 _ ["size"] (spChkSize) := ok_chkSize D14.F D13 GIs
  have GTa : FnOk P w K mg base CX0 4 f15 _ ["value"] (spIsTabT K C) := ok_isTabT D15.F M D0 D3 D5 D2 D13 GIs B
  have GCt : FnOk P w K mg base CX0 5 f16 _ ["table"] (spChkTab K C) := ok_chkTab D16.F D15 GTa
  have GC2 : FnOk P w K mg base CX0 6 f17 _ ["table", "other"] (spChkTwo K C) := ok_chkTwo D17.F D16 GCt B
  have GTd : FnOk P w K mg base CX0 5 f7 _ ["rows"] (spToldQ K C) := ok_toldQ D7.F M D0 D4 B
  have GLe : FnOk P w K mg base CX0 7 f6 _ ["numbers", "other"] (spLedQ K C) := ok_ledQ D6.F T.mgC TM GMu b47 RM GRm b48 ⟨rd, ga⟩ ⟨ca, ⟨_, cr⟩, cf⟩ GTo b59 B
  have GAb : FnOk P w K mg base CX0 7 f21 _ ["table"] (spAboutT K C) := ok_aboutT D21.F D16 GCt D7 GTd B
  have GTm : FnOk P w K mg base CX0 8 f20 _ ["table", "other"] (spTimesT K C) := ok_timesT D20.F D17 GC2 D21 GAb D6 GLe B
  have GTw : FnOk P w K mg base CX0 5 f18 _ ["line", "pairs", "number"] (spTabWith K C) := ok_tabWith D18.F M D0 D4 B
  have GId : FnOk P w K mg base CX0 6 f19 _ ["size"] (spIdleT C) := ok_idleT D19.F D14 GCs D18 GTw
  have GIw : FnOk P w K mg base CX0 2 f11 _ ["rows"] (spInWhole K) := ok_inWhole D11.F D9 D10 B
  have GOv : FnOk P w K mg base CX0 5 f50 _ ["self", "other"] (spOver C) := ok_rover F50 M Zp pS F57 b57 D0 D4 B
  have GDo : FnOk P w K mg base CX0 6 f12 _ ["table"] (spDetOf K C) := ok_detOf D12.F M Zp D0 D7 GTd D8 (PySem.W.mg_of X G lcG) D11 GIw ⟨a50, i50, k50⟩ GOv b50 B
  have GDe : FnOk P w K mg base CX0 7 f22 _ ["table"] (spDetOf K C) := ok_det D22.F D16 GCt D12 GDo
  have Z : Calls14 P w K mg base C :=
    { table := ⟨_, _, D38, GTb⟩, given := ⟨_, _, D33, GGi⟩, cross := ⟨_, _, D30, GLc⟩, det := ⟨_, _, D22, GDe, fun s ws h => match ws, h with | [_], _ => .of_eq rfl⟩,
       times := ⟨_, _, D20, GTm⟩, about := ⟨_, _, D21, GAb⟩, pair := ⟨_, _, D34, GPr⟩, entry := ⟨_, _, D35, GEn⟩, by_ := ⟨_, _, D28, GBy⟩,
       eq := ⟨_, _, a52, i52, ⟨a52, i52, ne, w4⟩, ok_req F52 M B, b52⟩, rep := ⟨_, _, a54, i54, ok_rrepr F54 T, b54⟩,
       mul := ⟨_, _, TM, GMu, b47⟩, neg := ⟨_, _, a49, i49, ok_rneg F49 M D0 B, b49⟩ }
  have W : Calls14b P w K mg base C :=
    { row := ⟨_, _, D36, GRw⟩, draw := ⟨_, _, D24, ok_draw D24.F B⟩, pick := ⟨_, _, D25, GPk⟩, sum := ⟨_, _, D27, GSm⟩ }
  have Y : Calls14c P w K mg base C :=
    { one := ⟨_, _, D39, ok_one14 D39.F Z B⟩, cor := ⟨_, _, D40, ok_cor14 D40.F Z W B⟩, idle := ⟨_, _, D19, GId⟩, make := ⟨_, _, M, GI⟩ }
  exact ok_lawR F42 D23 D41 (ok_rt14 D41.F Z W Y B) B
theorem walk {l : PySem.W.OpenLaw} {q : Program} {loose : List Str} {XP : (Str → Option Value) → Heap → Prop} {YP : World → Heap → Prop} {d : DefRec} {K : Params → PySem.W.Frag} (hn : l.most = some 63) (hdf : d.params.defaults = [])
    (hY : ∀ (w : World) (h : Heap), YP w h → (K w.params).In h)
    (F : ∀ (w : World) (mg : Str → Option Value) (fa : Addr) (h : Heap), (K w.params).In h → h.Ns mainGlobals mg → mg d.name = some (.ref fa) →
      ∃ fd : FuncData, (∀ (s : Shared) (u : Value), BindsTo s fd ⟨[u], []⟩ [("_law_script", u)]) ∧ ∀ base : Heap, (K w.params).In base → base.Ns mainGlobals mg → FnG l.prog w (K w.params) mg base 12 fa fd ["_law_script"] (spLawR (K w.params))) :
    PySem.W.WalkO q loose XP YP l.row.toRowW d [] (fun f vs => PySem.call f vs) :=
  walkG (n := 63) (k := 12) (x := "_law_script") (sp := fun w => spLawR (K w.params)) hn (by decide) hdf ⟨rfl, by decide, by decide⟩ hY F (fun _ _ a ns _ _ _ hS => ⟨a, ns, rfl, hS, fun _ => rfl⟩)
end Tk
open PySem PySem.W PyProof.Rows
set_option maxRecDepth 100000 in
set_option maxHeartbeats 0 in
theorem PySem.Challenge.cw_toldpushes_k14_whole_determinants_holds : PySem.Challenge.rw_toldpushes_k14_whole_determinants.Holds := by
  w_on; o_law; k_head; (case hw => w_witness2)
  k_fill
  refine Tk.walk (l := PySem.Challenge.rw_toldpushes_k14_whole_determinants) rfl rfl (fun w h Y => PySem.W.kIn_of Y) ?F
  case F =>
    intro w mg fa h KX G hmg
    refine' Tk.all_mk KX G hmg ?aC ?aG ?lcG ?a0 ?l0 ?c0 ?k0 ?a1 ?l1 ?c1 ?k1 ?a2 ?l2 ?c2 ?k2 ?a3 ?l3 ?c3 ?k3 ?a4 ?l4 ?c4 ?k4 ?a5 ?l5 ?c5 ?k5 ?a6 ?l6 ?c6 ?k6 ?a7 ?l7 ?c7 ?k7 ?a8 ?l8 ?c8 ?k8 ?a9 ?l9 ?c9 ?k9 ?a10 ?l10 ?c10 ?k10 ?a11 ?l11 ?c11 ?k11 ?a12 ?l12 ?c12 ?k12 ?a13 ?l13 ?c13 ?k13 ?a14 ?l14 ?c14 ?k14 ?a15 ?l15 ?c15 ?k15 ?a16 ?l16 ?c16 ?k16 ?a17 ?l17 ?c17 ?k17 ?a18 ?l18 ?c18 ?k18 ?a19 ?l19 ?c19 ?k19 ?a20 ?l20 ?c20 ?k20 ?a21 ?l21 ?c21 ?k21 ?a22 ?l22 ?c22 ?k22 ?a23 ?l23 ?c23 ?k23 ?a24 ?l24 ?c24 ?k24 ?a25 ?l25 ?c25 ?k25 ?a26 ?l26 ?c26 ?k26 ?a27 ?l27 ?c27 ?k27 ?a28 ?l28 ?c28 ?k28 ?a29 ?l29 ?c29 ?k29 ?a30 ?l30 ?c30 ?k30 ?a31 ?l31 ?c31 ?k31 ?a32 ?l32 ?c32 ?k32 ?a33 ?l33 ?c33 ?k33 ?a34 ?l34 ?c34 ?k34 ?a35 ?l35 ?c35 ?k35 ?a36 ?l36 ?c36 ?k36 ?a37 ?l37 ?c37 ?k37 ?a38 ?l38 ?c38 ?k38 ?a39 ?l39 ?c39 ?k39 ?a40 ?l40 ?c40 ?k40 ?a41 ?l41 ?c41 ?k41 ?a42 ?l42 ?c42 ?k42 ?a43 ?i43 ?l43 ?c43 ?k43 ?a44 ?i44 ?l44 ?c44 ?k44 ?a45 ?i45 ?l45 ?c45 ?k45 ?a46 ?i46 ?l46 ?c46 ?k46 ?a47 ?i47 ?l47 ?c47 ?k47 ?a48 ?i48 ?l48 ?c48 ?k48 ?a49 ?i49 ?l49 ?c49 ?k49 ?a50 ?i50 ?l50 ?c50 ?k50 ?a51 ?i51 ?l51 ?c51 ?k51 ?a52 ?i52 ?l52 ?c52 ?k52 ?a53 ?i53 ?l53 ?c53 ?k53 ?a54 ?i54 ?l54 ?c54 ?k54 ?pa0 ?pg0 ?pt0 ?pr0 ?l55 ?c55 ?k55 ?pa1 ?pg1 ?pt1 ?pr1 ?l56 ?c56 ?k56 ?pa2 ?pg2 ?pt2 ?pr2 ?l57 ?c57 ?k57 ?a58 ?i58 ?l58 ?c58 ?k58 ?lT ?rd ?ga ?ca ?cr ?l59 ?c59 ?k59 ?cf ?sf ?tadd ?radd ?tsub ?rsub ?tmul ?rmul ?s1 ?s2 ?nf ?kc ?kt ?ks0 ?ks1 ?ks2 ?ks3 ?ks4 ?kr ?q1 ?q2 ?q3 ?q4 ?q5 ?q6 ?n1 ?n2 ?w1 ?w2 ?w3 ?w4 ?ne ?mc0 ?z_isinstance ?z_int ?z_bool ?z_list ?z_tuple ?z_len ?z_all ?z_any ?z_set ?z_range ?z_sorted ?z_sum ?z_abs ?z_max ?z_min ?z_divmod ?z_repr ?z_enumerate ?z_zip ?z_str
    (case aC => first | k_is | rfl | decide +kernel)
    (case aG => first | k_is | rfl | decide +kernel)
    (case lcG => first | k_is | rfl | decide +kernel)
    (case a0 => first | k_is | rfl | decide +kernel)
    (case l0 => first | k_is | rfl | decide +kernel)
    (case c0 => first | k_is | rfl | decide +kernel)
    (case k0 => first | k_is | rfl | decide +kernel)
    (case a1 => first | k_is | rfl | decide +kernel)
    (case l1 => first | k_is | rfl | decide +kernel)
    (case c1 => first | k_is | rfl | decide +kernel)
    (case k1 => first | k_is | rfl | decide +kernel)
    (case a2 => first | k_is | rfl | decide +kernel)
    (case l2 => first | k_is | rfl | decide +kernel)
    (case c2 => first | k_is | rfl | decide +kernel)
    (case k2 => first | k_is | rfl | decide +kernel)
    (case a3 => first | k_is | rfl | decide +kernel)
    (case l3 => first | k_is | rfl | decide +kernel)
    (case c3 => first | k_is | rfl | decide +kernel)
    (case k3 => first | k_is | rfl | decide +kernel)
    (case a4 => first | k_is | rfl | decide +kernel)
    (case l4 => first | k_is | rfl | decide +kernel)
    (case c4 => first | k_is | rfl | decide +kernel)
    (case k4 => first | k_is | rfl | decide +kernel)
    (case a5 => first | k_is | rfl | decide +kernel)
    (case l5 => first | k_is | rfl | decide +kernel)
    (case c5 => first | k_is | rfl | decide +kernel)
    (case k5 => first | k_is | rfl | decide +kernel)
    (case a6 => first | k_is | rfl | decide +kernel)
    (case l6 => first | k_is | rfl | decide +kernel)
    (case c6 => first | k_is | rfl | decide +kernel)
    (case k6 => first | k_is | rfl | decide +kernel)
    (case a7 => first | k_is | rfl | decide +kernel)
    (case l7 => first | k_is | rfl | decide +kernel)
    (case c7 => first | k_is | rfl | decide +kernel)
    (case k7 => first | k_is | rfl | decide +kernel)
    (case a8 => first | k_is | rfl | decide +kernel)
    (case l8 => first | k_is | rfl | decide +kernel)
    (case c8 => first | k_is | rfl | decide +kernel)
    (case k8 => first | k_is | rfl | decide +kernel)
    (case a9 => first | k_is | rfl | decide +kernel)
    (case l9 => first | k_is | rfl | decide +kernel)
    (case c9 => first | k_is | rfl | decide +kernel)
    (case k9 => first | k_is | rfl | decide +kernel)
    (case a10 => first | k_is | rfl | decide +kernel)
    (case l10 => first | k_is | rfl | decide +kernel)
    (case c10 => first | k_is | rfl | decide +kernel)
    (case k10 => first | k_is | rfl | decide +kernel)
    (case a11 => first | k_is | rfl | decide +kernel)
    (case l11 => first | k_is | rfl | decide +kernel)
    (case c11 => first | k_is | rfl | decide +kernel)
    (case k11 => first | k_is | rfl | decide +kernel)
    (case a12 => first | k_is | rfl | decide +kernel)
    (case l12 => first | k_is | rfl | decide +kernel)
    (case c12 => first | k_is | rfl | decide +kernel)
    (case k12 => first | k_is | rfl | decide +kernel)
    (case a13 => first | k_is | rfl | decide +kernel)
    (case l13 => first | k_is | rfl | decide +kernel)
    (case c13 => first | k_is | rfl | decide +kernel)
    (case k13 => first | k_is | rfl | decide +kernel)
    (case a14 => first | k_is | rfl | decide +kernel)
    (case l14 => first | k_is | rfl | decide +kernel)
    (case c14 => first | k_is | rfl | decide +kernel)
    (case k14 => first | k_is | rfl | decide +kernel)
    (case a15 => first | k_is | rfl | decide +kernel)
    (case l15 => first | k_is | rfl | decide +kernel)
    (case c15 => first | k_is | rfl | decide +kernel)
    (case k15 => first | k_is | rfl | decide +kernel)
    (case a16 => first | k_is | rfl | decide +kernel)
    (case l16 => first | k_is | rfl | decide +kernel)
    (case c16 => first | k_is | rfl | decide +kernel)
    (case k16 => first | k_is | rfl | decide +kernel)
    (case a17 => first | k_is | rfl | decide +kernel)
    (case l17 => first | k_is | rfl | decide +kernel)
    (case c17 => first | k_is | rfl | decide +kernel)
    (case k17 => first | k_is | rfl | decide +kernel)
    (case a18 => first | k_is | rfl | decide +kernel)
    (case l18 => first | k_is | rfl | decide +kernel)
    (case c18 => first | k_is | rfl | decide +kernel)
    (case k18 => first | k_is | rfl | decide +kernel)
    (case a19 => first | k_is | rfl | decide +kernel)
    (case l19 => first | k_is | rfl | decide +kernel)
    (case c19 => first | k_is | rfl | decide +kernel)
    (case k19 => first | k_is | rfl | decide +kernel)
    (case a20 => first | k_is | rfl | decide +kernel)
    (case l20 => first | k_is | rfl | decide +kernel)
    (case c20 => first | k_is | rfl | decide +kernel)
    (case k20 => first | k_is | rfl | decide +kernel)
    (case a21 => first | k_is | rfl | decide +kernel)
    (case l21 => first | k_is | rfl | decide +kernel)
    (case c21 => first | k_is | rfl | decide +kernel)
    (case k21 => first | k_is | rfl | decide +kernel)
    (case a22 => first | k_is | rfl | decide +kernel)
    (case l22 => first | k_is | rfl | decide +kernel)
    (case c22 => first | k_is | rfl | decide +kernel)
    (case k22 => first | k_is | rfl | decide +kernel)
    (case a23 => first | k_is | rfl | decide +kernel)
    (case l23 => first | k_is | rfl | decide +kernel)
    (case c23 => first | k_is | rfl | decide +kernel)
    (case k23 => first | k_is | rfl | decide +kernel)
    (case a24 => first | k_is | rfl | decide +kernel)
    (case l24 => first | k_is | rfl | decide +kernel)
    (case c24 => first | k_is | rfl | decide +kernel)
    (case k24 => first | k_is | rfl | decide +kernel)
    (case a25 => first | k_is | rfl | decide +kernel)
    (case l25 => first | k_is | rfl | decide +kernel)
    (case c25 => first | k_is | rfl | decide +kernel)
    (case k25 => first | k_is | rfl | decide +kernel)
    (case a26 => first | k_is | rfl | decide +kernel)
    (case l26 => first | k_is | rfl | decide +kernel)
    (case c26 => first | k_is | rfl | decide +kernel)
    (case k26 => first | k_is | rfl | decide +kernel)
    (case a27 => first | k_is | rfl | decide +kernel)
    (case l27 => first | k_is | rfl | decide +kernel)
    (case c27 => first | k_is | rfl | decide +kernel)
    (case k27 => first | k_is | rfl | decide +kernel)
    (case a28 => first | k_is | rfl | decide +kernel)
    (case l28 => first | k_is | rfl | decide +kernel)
    (case c28 => first | k_is | rfl | decide +kernel)
    (case k28 => first | k_is | rfl | decide +kernel)
    (case a29 => first | k_is | rfl | decide +kernel)
    (case l29 => first | k_is | rfl | decide +kernel)
    (case c29 => first | k_is | rfl | decide +kernel)
    (case k29 => first | k_is | rfl | decide +kernel)
    (case a30 => first | k_is | rfl | decide +kernel)
    (case l30 => first | k_is | rfl | decide +kernel)
    (case c30 => first | k_is | rfl | decide +kernel)
    (case k30 => first | k_is | rfl | decide +kernel)
    (case a31 => first | k_is | rfl | decide +kernel)
    (case l31 => first | k_is | rfl | decide +kernel)
    (case c31 => first | k_is | rfl | decide +kernel)
    (case k31 => first | k_is | rfl | decide +kernel)
    (case a32 => first | k_is | rfl | decide +kernel)
    (case l32 => first | k_is | rfl | decide +kernel)
    (case c32 => first | k_is | rfl | decide +kernel)
    (case k32 => first | k_is | rfl | decide +kernel)
    (case a33 => first | k_is | rfl | decide +kernel)
    (case l33 => first | k_is | rfl | decide +kernel)
    (case c33 => first | k_is | rfl | decide +kernel)
    (case k33 => first | k_is | rfl | decide +kernel)
    (case a34 => first | k_is | rfl | decide +kernel)
    (case l34 => first | k_is | rfl | decide +kernel)
    (case c34 => first | k_is | rfl | decide +kernel)
    (case k34 => first | k_is | rfl | decide +kernel)
    (case a35 => first | k_is | rfl | decide +kernel)
    (case l35 => first | k_is | rfl | decide +kernel)
    (case c35 => first | k_is | rfl | decide +kernel)
    (case k35 => first | k_is | rfl | decide +kernel)
    (case a36 => first | k_is | rfl | decide +kernel)
    (case l36 => first | k_is | rfl | decide +kernel)
    (case c36 => first | k_is | rfl | decide +kernel)
    (case k36 => first | k_is | rfl | decide +kernel)
    (case a37 => first | k_is | rfl | decide +kernel)
    (case l37 => first | k_is | rfl | decide +kernel)
    (case c37 => first | k_is | rfl | decide +kernel)
    (case k37 => first | k_is | rfl | decide +kernel)
    (case a38 => first | k_is | rfl | decide +kernel)
    (case l38 => first | k_is | rfl | decide +kernel)
    (case c38 => first | k_is | rfl | decide +kernel)
    (case k38 => first | k_is | rfl | decide +kernel)
    (case a39 => first | k_is | rfl | decide +kernel)
    (case l39 => first | k_is | rfl | decide +kernel)
    (case c39 => first | k_is | rfl | decide +kernel)
    (case k39 => first | k_is | rfl | decide +kernel)
    (case a40 => first | k_is | rfl | decide +kernel)
    (case l40 => first | k_is | rfl | decide +kernel)
    (case c40 => first | k_is | rfl | decide +kernel)
    (case k40 => first | k_is | rfl | decide +kernel)
    (case a41 => first | k_is | rfl | decide +kernel)
    (case l41 => first | k_is | rfl | decide +kernel)
    (case c41 => first | k_is | rfl | decide +kernel)
    (case k41 => first | k_is | rfl | decide +kernel)
    (case a42 => first | k_is | rfl | decide +kernel)
    (case l42 => first | k_is | rfl | decide +kernel)
    (case c42 => first | k_is | rfl | decide +kernel)
    (case k42 => first | k_is | rfl | decide +kernel)
    (case a43 => first | k_is | rfl | decide +kernel)
    (case i43 => first | k_is | rfl | decide +kernel)
    (case l43 => first | k_is | rfl | decide +kernel)
    (case c43 => first | k_is | rfl | decide +kernel)
    (case k43 => first | k_is | rfl | decide +kernel)
    (case a44 => first | k_is | rfl | decide +kernel)
    (case i44 => first | k_is | rfl | decide +kernel)
    (case l44 => first | k_is | rfl | decide +kernel)
    (case c44 => first | k_is | rfl | decide +kernel)
    (case k44 => first | k_is | rfl | decide +kernel)
    (case a45 => first | k_is | rfl | decide +kernel)
    (case i45 => first | k_is | rfl | decide +kernel)
    (case l45 => first | k_is | rfl | decide +kernel)
    (case c45 => first | k_is | rfl | decide +kernel)
    (case k45 => first | k_is | rfl | decide +kernel)
    (case a46 => first | k_is | rfl | decide +kernel)
    (case i46 => first | k_is | rfl | decide +kernel)
    (case l46 => first | k_is | rfl | decide +kernel)
    (case c46 => first | k_is | rfl | decide +kernel)
    (case k46 => first | k_is | rfl | decide +kernel)
    (case a47 => first | k_is | rfl | decide +kernel)
    (case i47 => first | k_is | rfl | decide +kernel)
    (case l47 => first | k_is | rfl | decide +kernel)
    (case c47 => first | k_is | rfl | decide +kernel)
    (case k47 => first | k_is | rfl | decide +kernel)
    (case a48 => first | k_is | rfl | decide +kernel)
    (case i48 => first | k_is | rfl | decide +kernel)
    (case l48 => first | k_is | rfl | decide +kernel)
    (case c48 => first | k_is | rfl | decide +kernel)
    (case k48 => first | k_is | rfl | decide +kernel)
    (case a49 => first | k_is | rfl | decide +kernel)
    (case i49 => first | k_is | rfl | decide +kernel)
    (case l49 => first | k_is | rfl | decide +kernel)
    (case c49 => first | k_is | rfl | decide +kernel)
    (case k49 => first | k_is | rfl | decide +kernel)
    (case a50 => first | k_is | rfl | decide +kernel)
    (case i50 => first | k_is | rfl | decide +kernel)
    (case l50 => first | k_is | rfl | decide +kernel)
    (case c50 => first | k_is | rfl | decide +kernel)
    (case k50 => first | k_is | rfl | decide +kernel)
    (case a51 => first | k_is | rfl | decide +kernel)
    (case i51 => first | k_is | rfl | decide +kernel)
    (case l51 => first | k_is | rfl | decide +kernel)
    (case c51 => first | k_is | rfl | decide +kernel)
    (case k51 => first | k_is | rfl | decide +kernel)
    (case a52 => first | k_is | rfl | decide +kernel)
    (case i52 => first | k_is | rfl | decide +kernel)
    (case l52 => first | k_is | rfl | decide +kernel)
    (case c52 => first | k_is | rfl | decide +kernel)
    (case k52 => first | k_is | rfl | decide +kernel)
    (case a53 => first | k_is | rfl | decide +kernel)
    (case i53 => first | k_is | rfl | decide +kernel)
    (case l53 => first | k_is | rfl | decide +kernel)
    (case c53 => first | k_is | rfl | decide +kernel)
    (case k53 => first | k_is | rfl | decide +kernel)
    (case a54 => first | k_is | rfl | decide +kernel)
    (case i54 => first | k_is | rfl | decide +kernel)
    (case l54 => first | k_is | rfl | decide +kernel)
    (case c54 => first | k_is | rfl | decide +kernel)
    (case k54 => first | k_is | rfl | decide +kernel)
    (case pa0 => first | k_is | rfl | decide +kernel)
    (case pg0 => first | k_is | rfl | decide +kernel)
    (case pt0 => first | k_is | rfl | decide +kernel)
    (case pr0 => first | k_is | rfl | decide +kernel)
    (case l55 => first | k_is | rfl | decide +kernel)
    (case c55 => first | k_is | rfl | decide +kernel)
    (case k55 => first | k_is | rfl | decide +kernel)
    (case pa1 => first | k_is | rfl | decide +kernel)
    (case pg1 => first | k_is | rfl | decide +kernel)
    (case pt1 => first | k_is | rfl | decide +kernel)
    (case pr1 => first | k_is | rfl | decide +kernel)
    (case l56 => first | k_is | rfl | decide +kernel)
    (case c56 => first | k_is | rfl | decide +kernel)
    (case k56 => first | k_is | rfl | decide +kernel)
    (case pa2 => first | k_is | rfl | decide +kernel)
    (case pg2 => first | k_is | rfl | decide +kernel)
    (case pt2 => first | k_is | rfl | decide +kernel)
    (case pr2 => first | k_is | rfl | decide +kernel)
    (case l57 => first | k_is | rfl | decide +kernel)
    (case c57 => first | k_is | rfl | decide +kernel)
    (case k57 => first | k_is | rfl | decide +kernel)
    (case a58 => first | k_is | rfl | decide +kernel)
    (case i58 => first | k_is | rfl | decide +kernel)
    (case l58 => first | k_is | rfl | decide +kernel)
    (case c58 => first | k_is | rfl | decide +kernel)
    (case k58 => first | k_is | rfl | decide +kernel)
    (case lT => first | k_is | rfl | decide +kernel)
    (case rd => first | k_is | rfl | decide +kernel)
    (case ga => first | k_is | rfl | decide +kernel)
    (case ca => first | k_is | rfl | decide +kernel)
    (case cr => first | k_is | rfl | decide +kernel)
    (case l59 => first | k_is | rfl | decide +kernel)
    (case c59 => first | k_is | rfl | decide +kernel)
    (case k59 => first | k_is | rfl | decide +kernel)
    (case cf => first | k_is | rfl | decide +kernel)
    (case sf => first | k_is | rfl | decide +kernel)
    (case tadd => first | k_is | rfl | decide +kernel)
    (case radd => first | k_is | rfl | decide +kernel)
    (case tsub => first | k_is | rfl | decide +kernel)
    (case rsub => first | k_is | rfl | decide +kernel)
    (case tmul => first | k_is | rfl | decide +kernel)
    (case rmul => first | k_is | rfl | decide +kernel)
    (case s1 => first | k_is | rfl | decide +kernel)
    (case s2 => first | k_is | rfl | decide +kernel)
    (case nf => first | k_is | rfl | decide +kernel)
    (case kc => first | k_is | rfl | decide +kernel)
    (case kt => first | k_is | rfl | decide +kernel)
    (case ks0 => first | k_is | rfl | decide +kernel)
    (case ks1 => first | k_is | rfl | decide +kernel)
    (case ks2 => first | k_is | rfl | decide +kernel)
    (case ks3 => first | k_is | rfl | decide +kernel)
    (case ks4 => first | k_is | rfl | decide +kernel)
    (case kr => first | k_is | rfl | decide +kernel)
    (case q1 => first | k_is | rfl | decide +kernel)
    (case q2 => first | k_is | rfl | decide +kernel)
    (case q3 => first | k_is | rfl | decide +kernel)
    (case q4 => first | k_is | rfl | decide +kernel)
    (case q5 => first | k_is | rfl | decide +kernel)
    (case q6 => first | k_is | rfl | decide +kernel)
    (case n1 => first | k_is | rfl | decide +kernel)
    (case n2 => first | k_is | rfl | decide +kernel)
    (case w1 => first | k_is | rfl | decide +kernel)
    (case w2 => first | k_is | rfl | decide +kernel)
    (case w3 => first | k_is | rfl | decide +kernel)
    (case w4 => first | k_is | rfl | decide +kernel)
    (case ne => first | k_is | rfl | decide +kernel)
    (case mc0 => first | k_is | rfl | decide +kernel)
    (case z_isinstance => first | k_is | rfl | decide +kernel)
    (case z_int => first | k_is | rfl | decide +kernel)
    (case z_bool => first | k_is | rfl | decide +kernel)
    (case z_list => first | k_is | rfl | decide +kernel)
    (case z_tuple => first | k_is | rfl | decide +kernel)
    (case z_len => first | k_is | rfl | decide +kernel)
    (case z_all => first | k_is | rfl | decide +kernel)
    (case z_any => first | k_is | rfl | decide +kernel)
    (case z_set => first | k_is | rfl | decide +kernel)
    (case z_range => first | k_is | rfl | decide +kernel)
    (case z_sorted => first | k_is | rfl | decide +kernel)
    (case z_sum => first | k_is | rfl | decide +kernel)
    (case z_abs => first | k_is | rfl | decide +kernel)
    (case z_max => first | k_is | rfl | decide +kernel)
    (case z_min => first | k_is | rfl | decide +kernel)
    (case z_divmod => first | k_is | rfl | decide +kernel)
    (case z_repr => first | k_is | rfl | decide +kernel)
    (case z_enumerate => first | k_is | rfl | decide +kernel)
    (case z_zip => first | k_is | rfl | decide +kernel)
    (case z_str => first | k_is | rfl | decide +kernel)
