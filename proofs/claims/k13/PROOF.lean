import PyProof.Rows.All
import Wide.All
import OpenK.AllK
import Wide.FinOn
import HandS.ForMost
import HandS.EndBits
import HandS.TupSets
import HandS.Deep
import HandS.Defaults
import HandS.Property
import HandS.IsInst
import HandS.Style
import HandS.Wide
import HandS.WideBits
import HandS.Flow
import PyProof.ReprRoads
import HandS.SetFor
import HandS.SortInts
import HandS.Zip
import PyProof.InstNe
import HandS.Base
import HandS.Call
import HandS.OwnEq
import OpenK.KOps
import OpenK.KMeth
import PyProof.ReprLen
import OpenK.KMore
import KE.KOpsOwn
import KE.KCallOwn
import PyProof.TwoTypes
import PyProof.Raises
import PyProof.AutoIntOps
import HandS.CallLocal
import HandS.ClsMeth
import HandS.Gcd
import HandS.Codes
import HandS.FStr
import HandS.Words
import PyProof.FitsInt
import HandS.Conv
import HandS.SortRule
import HandS.Star
import HandS.Walk
import HandS.Iter
import PyProof.CallFns
import KE.SortData
import PyProof.ReprNest
import PyProof.ReprReads
import PyProof.EqAt
import KE.GoesZip
import KE.GoesMore
import KE.GoesEnum
import HandS.Sort
import PySem.Challenge.RW_toldpushes_k13_whole_products_and_differ
set_option Elab.async false
set_option linter.all false
set_option maxRecDepth 100000
set_option maxHeartbeats 8000000
namespace Tk
open PySem PySem.Spec PyProof.Rows L2

/-! ## promises of defs that want to know that no repr is running -/
structure FnG (P : Program) (w : World) (K : PySem.W.Frag) (mg : Str → Option Value) (base : Heap) (k : Nat) (f : Addr) (fd : FuncData) (ps : List Str) (sp : Sp) : Prop where
  len : ∀ vs H Q E, sp vs H Q E → vs.length = ps.length
  run : ∀ (A : Around) (outer : List Env) (s : Shared) (H : Hp) (args : Args) (us : List Value) (vs : List V) (Q : VK) (E : XK),
    A.guards = some [] → Room k A → Env0 P w K mg base A outer s H → BindsTo s fd args (ps.zip us) → Vals vs us → sp vs H Q E →
    codeAny (model P w) A (.call (.ref f) args) (CR CX0 outer P w H s Q E) s

theorem deeper_guards (A : Around) (env : Env) : (A.deeper env).guards = A.guards := rfl

section
variable {P : Program} {w : World} {K : PySem.W.Frag} {mg : Str → Option Value} {base : Heap}
/-- a def by its body, the body being told that no repr runs -/
theorem okG {nm qual : Str} {st : Stmt} {f : Addr} {fd : FuncData} {N ps : List Str} {k : Nat} {sp : Sp} (F : Fun K nm qual st f fd) (S : FnScope N ps (defScope st)) (len : ∀ vs H Q E, sp vs H Q E → vs.length = ps.length)
    (body : ∀ (cdv : Value) (A : Around) (outer : List Env) (s : Shared) (H : Hp) (vs : List V) (Q : VK) (E : XK), A.guards = some [] →
      Room k (A.deeper (envOfC qual (defScope st) s.heap.objs.size f cdv)) → sp vs H Q E →
      ∃ t, PSs (cxOf CX0 P w K mg base N qual (defScope st) f cdv A outer s H E).nox (defBody st) t ∧ t { nx := fun _ H' => Q .non H', rt := Q } (start N vs) H) :
    FnG P w K mg base (k + 1) f fd ps sp := by
  obtain ⟨oc, od, kV, doc, pm, an, cdv, ct, osl, rfl, lk, hcd⟩ := F.ex
  constructor
  · exact len
  intro A outer s H args us vs Q E hgd room en bnd vals hsp
  have nvs := len _ _ _ _ hsp
  have inK : K.In s.heap := en.mod.kin.keeps (fun b o z => (en.bs b o z).1)
  have noLim : s.heap.NoLimit := en.mod.nolimit.keeps (fun b o z => (en.bs b o z).1)
  have places : ∀ y ∈ ps.zip us, (defScope st).names.lookup y.1 = some .local ∨ ((defScope st).names.lookup y.1 = some .cell ∧ ((cellsFrom (s.heap.objs.size + 1) (defScope st).names []).lookup y.1).isSome = true) := by
    rintro ⟨n, v⟩ hy
    cases S.par n (List.of_mem_zip hy).1 with
    | inl l => exact Or.inl l
    | inr c => exact Or.inr ⟨c, PySem.W.cellsFrom_some _ _ _ (Or.inl c)⟩
  apply codeAny_call_function room.depth (inK _ _ lk) rfl S.co S.gen rfl (PySem.W.codeRec_of inK hcd)
  apply bnd
  apply wpAny_newFunctionEnv_cells S.kind places
  intro ev hev st1 ic
  subst hev
  refine ⟨noLim.keeps ic.toInCall.keep, ?_⟩
  apply codeAny_func
  obtain ⟨t, ht0, hq⟩ := body cdv A outer s H vs Q E hgd (room.deeper _) hsp
  have ht := ht0.nox
  have inv0 : Inv (cxOf CX0 P w K mg base N qual (defScope st) f cdv A outer s H E) [] (start N vs) H st1 := inv_start S room.hd en nvs vals ic
  have done : ∀ {σ' : L2.St} {H' : Hp} {v : V} {u : Value} {s' : Shared}, Inv (cxOf CX0 P w K mg base N qual (defScope st) f cdv A outer s H E) [] σ' H' s' → RelV v u → Q v H' → CE outer P w H s Q u s' := by
    intro σ' H' v u s' J rv q
    exact ⟨v, H', J.os, J.bare, J.base, J.hok, rv, q⟩
  refine wpAny_mono (ht.run [] st1 (start N vs) H _ inv0 hq) ?_ (fun e s' z => z)
  intro fl s' z
  cases fl with
  | next => obtain ⟨σ', H', J, q⟩ := z; exact done (v := V.non) (u := Value.none) J rfl q
  | ret u => obtain ⟨v, σ', H', J, rv, q⟩ := z; exact done J rv q
  | brk => obtain ⟨a1, a2, a3, q⟩ := z; exact q.elim
  | cont => obtain ⟨a1, a2, a3, q⟩ := z; exact q.elim
end

section
variable {X : Cx} {k : Nat} {f : Addr} {fd : FuncData} {ps : List Str} {sp : Sp} {x : Str} {p pos : Pos} {e : Expr} {es : List Expr} {t : TA}
theorem pe_callG (F : FnG X.prog X.w X.K X.mg X.base k f fd ps sp) (hgd : X.A.guards = some []) (hr : Room k X.A) (hg : Gl X x) (hm : X.mg x = some (.ref f)) (hk : PySem.W.keepIn X.K (.ref f) = true) (hb : Binds X.K fd ps [])
    (ha : PA X (e :: es) t) (hdb : (x == ("__debug__" : Str)) = false := by decide) (he : starEach (e :: es) X.env = (false, eval e X.env) :: starEach es X.env := by rfl) (hpl : (backTo pos (starEach es X.env)).any (·.1) = false := by rfl) :
    PE X (.Call (.Name x p) (e :: es) [] pos) (tCall sp [] E0 t) := by
  constructor
  intro pins s σ H Q I h
  apply wpAny_Call_Name_kw
  apply ld_glob I hg hm _ hdb
  refine PySem.W.callWith_K (h₀ := X.base) I.ok.mod.kin hk (thn (ha.run pos pins s σ H _ I h) ?_) he hpl
  rintro us s1 ⟨vs, H1, I1, rv, q⟩
  refine ⟨I1.kIn, ?_⟩
  rw [List.append_nil] at q
  have ln : us.length = ps.length := by rw [← rv.length]; exact F.len _ _ _ _ q
  have bd := hb s1 us I1.kIn (by rw [List.append_nil]; exact ln)
  rw [List.append_nil] at bd
  apply wpAny_call
  refine codeAny_mono (F.run X.A X.stack s1 H1 ⟨us, []⟩ us vs Q E0 hgd hr I1.env0 bd rv q) ?_
  intro r s' hq
  cases r with
  | error er => exact hq.elim
  | ok fl =>
    cases fl with
    | ret u => exact I1.after hq
    | next => exact hq.elim
    | brk => exact hq.elim
    | cont => exact hq.elim

/-- repr of data of any depth -/
def rRepD (K : PySem.W.Frag) : List V → Hp → VK → Prop := fun xs H Q => ∃ (a : Addr) (d : PyData), xs = [.ref a] ∧ Dp K H (.ref a) d ∧ d.showable = true ∧ d.hasDict = false ∧ d.depth ≤ 50 ∧ d.shown.length ≤ sizeLine ∧ Q (.str d.shown) H
theorem call_reprD (hgd : X.A.guards = some []) (hu : X.A.units + 64 < cLine) : CallR X (.builtin "repr") (rRepD X.K) := by
  intro pins s σ H xs us Q I r h
  obtain ⟨a, d, rfl, hd, hs, hn, hdp, hz, q⟩ := h
  obtain rfl : us = [Value.ref a] := Vals.ref1 r
  obtain ⟨as, rd⟩ := Dp.reads I d (.ref a) (.ref a) hd rfl
  refine repr_of_reads' (h₀ := s.heap) rd hs (PyData.noDict_hsm hn) hgd (by omega) (fun b o z => z) (fun h' u tk keep => ?_) hz
  have J : Inv X pins σ H { s with heap := h' } := I.kept keep
  exact ⟨.str d.shown, H, J.tok _, ⟨u, rfl⟩, q⟩
end

/-! ## the end: the law's def as the outermost call, no repr around it -/
theorem law_callG {P : Program} {w : World} {K : PySem.W.Frag} {mg mb : Str → Option Value} {k : Nat} {fa a : Addr} {fd : FuncData} {x : Str} {sp : Sp} {s1 : Shared} {vs : List Value} {ns : List Int}
    (inK : K.In s1.heap) (gn : s1.heap.Ns mainGlobals mg) (bn : s1.heap.Ns builtinsNs mb) (bb : ∀ y : Str, y ≠ "__name__" → mb y = bootBuiltins y) (noLim : s1.heap.NoLimit) (noGen : s1.gens = #[])
    (obj : s1.heap.get? a = some { cls := .type "list", data := .seq vs.toArray }) (hints : IntsAre vs ns) (short : ns.length ≤ sizeLine) (room : Room k callerA)
    (F : ∀ base : Heap, K.In base → base.Ns mainGlobals mg → FnG P w K mg base k fa fd [x] sp) (bind : ∀ (s : Shared) (u : Value), BindsTo s fd ⟨[u], []⟩ [(x, u)])
    (keeps : ∀ H : Hp, Only H → SqL K H a (ns.map V.int) → sp [.ref a] H (fun v _ => v = .bl true) fun _ _ _ => False) :
    codeAny (model P w) callerA (.call (.ref fa) ⟨[.ref a], []⟩) (fun r s' => r = .ok (.ret (.bool true)) ∧ OldK s1.heap s'.heap ∧ s'.os = s1.os ∧ AllBare s'.gens) s1 := by
  have rel := vals_ints hints
  have many := hints.length
  have main : ∀ H : Hp, Only H → SqL K H a (ns.map V.int) → HOk P w H s1.heap → (∀ b, H b ≠ none → b = a) → (H a ≠ none → K.lookup a = none) →
      codeAny (model P w) callerA (.call (.ref fa) ⟨[.ref a], []⟩) (fun r s' => r = .ok (.ret (.bool true)) ∧ OldK s1.heap s'.heap ∧ s'.os = s1.os ∧ AllBare s'.gens) s1 := by
    intro H only isl hok just noK
    have ofB : ∀ {b : Addr} {o : Obj}, s1.heap.get? b = some o → H b = none → (hidT s1.heap H).get? b = some o := fun z n => hidT_get z n
    have notA : ∀ {b : Addr} {o : Obj} {es : Array DictEntry} {ep : Nat}, s1.heap.get? b = some o → o.data = .dict es ep → H b = none := by
      intro b o es ep z d
      cases hb : H b with
      | none => rfl
      | some u =>
        obtain rfl : b = a := just b (by rw [hb]; simp)
        rw [obj] at z
        cases z
        exact absurd (show Data.seq vs.toArray _ = Data.dict es ep from d) (by intro y; cases y)
    have nsB : ∀ {b : Addr} {m : Str → Option Value}, s1.heap.Ns b m → (hidT s1.heap H).Ns b m := by
      rintro b m ⟨o, es, ep, z, d, r⟩
      exact ⟨o, es, ep, ofB z (notA z d), d, r⟩
    have inKb : K.In (hidT s1.heap H) := by
      intro b o z
      refine ofB (inK b o z) ?_
      cases hb : H b with
      | none => rfl
      | some u =>
        obtain rfl : b = a := just b (by rw [hb]; simp)
        rw [noK (by rw [hb]; simp)] at z
        cases z
    have md : Mod K mg (hidT s1.heap H) := by
      obtain ⟨mc, l1, l2⟩ := noLim
      exact ⟨inKb, nsB gn, ⟨mb, nsB bn, bb⟩, ⟨mc, nsB l1, l2⟩⟩
    have en : Env0 P w K mg (hidT s1.heap H) callerA [] s1 H := by
      refine ⟨rfl, md, fun b o z => of_hidT z, Nat.le_of_eq (hidT_size _ _), trivial, ?_, hok, .of_eq noGen⟩
      intro b hb
      exact absurd (show b ∈ ([] : List Addr) from hb) (by simp)
    refine codeAny_mono ((F _ inKb (nsB gn)).run callerA [] s1 H ⟨[.ref a], []⟩ [.ref a] [.ref a] _ _ rfl room en (bind s1 (.ref a)) (.cons rfl .nil) (keeps H only isl)) ?_
    intro r s' hr
    cases r with
    | error er => exact hr.elim
    | ok fl =>
      cases fl with
      | next => exact hr.elim
      | brk => exact hr.elim
      | cont => exact hr.elim
      | ret u =>
        obtain ⟨v, H', os, bare, un, hok', rv, q⟩ := hr
        obtain rfl : v = .bl true := q
        obtain rfl : u = Value.bool true := rv
        refine ⟨rfl, OldK.of_keep ?_, os, bare⟩
        intro b o z
        cases hb : H b with
        | none => exact un.keep b o z hb (fun y => absurd (show b ∈ ([] : List Addr) from y) (by simp)) (by simp)
        | some u =>
          rcases only b with n | ⟨ob, xs, y⟩
          · rw [hb] at n; cases n
          · obtain ⟨e1, _⟩ := hok b _ y
            obtain ⟨e2, _⟩ := hok' b _ (un.frzs b ob _ y)
            rw [z] at e1
            cases e1
            exact e2
  cases hk : K.lookup a with
  | some o =>
    have z := inK a o hk
    rw [obj] at z
    cases z
    exact main (fun _ => none) (fun _ => .inl rfl) (.inr ⟨_, vs.toArray, _, hk, rfl, rfl, rfl, by rw [List.size_toArray, many]; exact short, by simpa using rel⟩) (fun b u y => nomatch (show (none : Option HO) = some u from y)) (fun b y => absurd rfl y) (fun y => absurd rfl y)
  | none =>
    refine main (fun b => if b = a then some (.frz { cls := .type "list", data := .seq vs.toArray } (.lst (ns.map V.int))) else none) ?_ (.inl (.inr ⟨{ cls := .type "list", data := .seq vs.toArray }, if_pos rfl⟩)) ?_ ?_ (fun _ => hk)
    · intro b
      by_cases q : b = a
      · exact Or.inr ⟨_, _, if_pos q⟩
      · exact Or.inl (if_neg q)
    · intro b u y
      by_cases q : b = a
      · subst q
        have y1 := (if_pos rfl).symm.trans y
        cases y1
        exact ⟨obj, by rw [List.length_map]; exact short, vs, _, rel, obj⟩
      · have y1 := (if_neg q).symm.trans y
        cases y1
    · intro b y
      by_cases q : b = a
      · exact q
      · exact absurd (if_neg q) y

theorem walkG {l : PySem.W.OpenLaw} {n k : Nat} {q : Program} {loose : List Str} {XP : (Str → Option Value) → Heap → Prop} {YP : World → Heap → Prop} {d : DefRec} {K : Params → PySem.W.Frag} {sp : World → Sp} {x : Str}
    (hn : l.most = some n) (hn2 : n ≤ sizeLine) (hdf : d.params.defaults = []) (room : Room k callerA) (inK : ∀ (w : World) (h : Heap), YP w h → (K w.params).In h)
    (F : ∀ (w : World) (mg : Str → Option Value) (fa : Addr) (h : Heap), (K w.params).In h → h.Ns mainGlobals mg → mg d.name = some (.ref fa) →
      ∃ fd : FuncData, (∀ (s : Shared) (u : Value), BindsTo s fd ⟨[u], []⟩ [(x, u)]) ∧ ∀ base : Heap, (K w.params).In base → base.Ns mainGlobals mg → FnG l.prog w (K w.params) mg base k fa fd [x] (sp w))
    (keeps : ∀ (w : World) (H : Hp) (a : Addr) (ns : List Int), ns.length ≤ n → (∀ z ∈ ns, Builtin.Int.intBits z ≤ 1048576) → Only H → SqL (K w.params) H a (ns.map V.int) → sp w [.ref a] H (fun v _ => v = .bl true) fun _ _ _ => False) :
    PySem.W.WalkO q loose XP YP l.row.toRowW d [] (fun f vs => PySem.call f vs) := by
  refine Att.attach_callB hn hdf ?_
  intro w s0 s1 mg mb fa o pm cd doc a vs ns G Y ho hd hcd hmg hobj hints hlen hbits hg
  obtain ⟨fd, hb, hF⟩ := F w mg fa _ (inK w _ Y) G.T.g hmg
  exact law_callG (inK w _ Y) G.T.g G.T.b G.T.builtins G.T.nolimit hg hobj hints (Nat.le_trans hlen hn2) room hF hb (fun H hO hS => keeps w H a ns hlen hbits hO hS)
end Tk

namespace Tk
open PySem PySem.Spec PyProof.Rows L2

theorem same_rd {H H' : Hp} {a : Addr} {u : HO} (e : Same H H') (h : Rd H a u) : Rd H' a u := by
  rcases h with h | ⟨o, h⟩
  · exact Or.inl (e a _ h)
  · exact Or.inr ⟨o, e a _ h⟩
theorem same_l {K : PySem.W.Frag} {H H' : Hp} {a : Addr} {xs : List V} (e : Same H H') (h : SqL K H a xs) : SqL K H' a xs := by
  rcases h with h | h
  · exact Or.inl (same_rd e h)
  · exact Or.inr h
theorem same_t {K : PySem.W.Frag} {H H' : Hp} {a : Addr} {xs : List V} (e : Same H H') (h : SqT K H a xs) : SqT K H' a xs := by
  rcases h with h | h
  · exact Or.inl (same_rd e h)
  · exact Or.inr h
theorem same_new {H : Hp} {p : Addr} {o : HO} (h : H p = none) : Same H (upd H p o) := by
  intro a u e
  rw [upd_ne (ne_of_none e h)]
  exact e
/-- what is new in a later heap may change -/
theorem same_mut {H H' : Hp} {p : Addr} {o : HO} (e : Same H H') (h : H p = none) : Same H (upd H' p o) := by
  intro a u ha
  rw [upd_ne (ne_of_none ha h)]
  exact e a u ha
theorem sl_of {K : PySem.W.Frag} {H : Hp} {a : Addr} {xs : List V} (h : H a = some (.lst xs)) : SqL K H a xs := Or.inl (Or.inl h)
theorem st_of {K : PySem.W.Frag} {H : Hp} {a : Addr} {xs : List V} (h : H a = some (.tup xs)) : SqT K H a xs := Or.inl (Or.inl h)
theorem szle {n : Nat} (h : n ≤ 100000) : n ≤ sizeLine := Nat.le_trans h (by decide)
theorem szlt {n : Nat} (h : n < 100000) : n < sizeLine := Nat.lt_of_lt_of_le h (by decide)

mutual
theorem dp_same {K : PySem.W.Frag} {H H' : Hp} (e : Same H H') : ∀ (d : PyData) (v : V), Dp K H v d → Dp K H' v d
  | .none, _, h => by cases h; exact .non
  | .bool b, _, h => by cases h; exact .bl b
  | .int i, _, h => by cases h; exact .int i
  | .str x, _, h => by cases h; exact .str x
  | .list ds, _, h => by
    cases h with
    | lst h1 h2 => exact .lst (same_l e h1) (dps_same e ds _ h2)
  | .tuple ds, _, h => by
    cases h with
    | tup h1 h2 => exact .tup (same_t e h1) (dps_same e ds _ h2)
  | .dict _, _, h => by cases h
theorem dps_same {K : PySem.W.Frag} {H H' : Hp} (e : Same H H') : ∀ (ds : List PyData) (vs : List V), DpAll K H vs ds → DpAll K H' vs ds
  | [], _, h => by cases h; exact .nil
  | d :: ds, _, h => by
    cases h with
    | cons h1 h2 => exact .cons (dp_same e d _ h1) (dps_same e ds _ h2)
end
theorem dp_s {K : PySem.W.Frag} {H H' : Hp} {d : PyData} {v : V} (h : Dp K H v d) (e : Same H H') : Dp K H' v d := dp_same e d v h
theorem dps_s {K : PySem.W.Frag} {H H' : Hp} {ds : List PyData} {vs : List V} (h : DpAll K H vs ds) (e : Same H H') : DpAll K H' vs ds := dps_same e ds vs h
theorem dps_len {K : PySem.W.Frag} {H : Hp} : ∀ {ds : List PyData} {vs : List V}, DpAll K H vs ds → vs.length = ds.length
  | [], _, h => by cases h; rfl
  | d :: ds, _, h => by
    cases h with
    | cons h1 h2 => simp [dps_len h2]
theorem dps_at {K : PySem.W.Frag} {H : Hp} : ∀ {ds : List PyData} {vs : List V}, DpAll K H vs ds → ∀ (i : Nat) (x : V), vs[i]? = some x → ∃ d, ds[i]? = some d ∧ Dp K H x d
  | [], _, h, i, x, hx => by cases h; simp at hx
  | d :: ds, _, h, i, x, hx => by
    cases h with
    | cons h1 h2 =>
      cases i with
      | zero => simp at hx; subst hx; exact ⟨d, by simp, h1⟩
      | succ i => simp at hx; simpa using dps_at h2 i x hx
theorem dps_app {K : PySem.W.Frag} {H : Hp} : ∀ {ds es : List PyData} {vs ws : List V}, DpAll K H vs ds → DpAll K H ws es → DpAll K H (vs ++ ws) (ds ++ es)
  | [], _, _, _, h, h' => by cases h; exact h'
  | d :: ds, _, _, _, h, h' => by
    cases h with
    | cons h1 h2 => exact .cons h1 (dps_app h2 h')
theorem dps_ints {K : PySem.W.Frag} {H : Hp} : ∀ (ns : List Int), DpAll K H (ns.map V.int) (ns.map PyData.int)
  | [] => .nil
  | n :: ns => .cons (.int n) (dps_ints ns)
theorem ints_dps {K : PySem.W.Frag} {H : Hp} : ∀ {ns : List Int} {vs : List V}, DpAll K H vs (ns.map PyData.int) → vs = ns.map V.int
  | [], _, h => by cases h; rfl
  | n :: ns, _, h => by
    cases h with
    | cons h1 h2 => cases h1; rw [ints_dps h2]; rfl
theorem dps_bls {K : PySem.W.Frag} {H : Hp} : ∀ (bs : List Bool), DpAll K H (bs.map V.bl) (bs.map PyData.bool)
  | [] => .nil
  | n :: ns => .cons (.bl n) (dps_bls ns)

/-- a pair of ints, as data -/
def dP (p : Int × Int) : PyData := .tuple [.int p.1, .int p.2]
/-- v is a list of pairs -/
abbrev PL (K : PySem.W.Frag) (H : Hp) (a : Addr) (ps : List (Int × Int)) : Prop := ∃ xs, SqL K H a xs ∧ DpAll K H xs (ps.map dP)
/-- v is a list of ints -/
abbrev IL (K : PySem.W.Frag) (H : Hp) (a : Addr) (ns : List Int) : Prop := SqL K H a (ns.map V.int)
theorem pl_s {K : PySem.W.Frag} {H H' : Hp} {a : Addr} {ps : List (Int × Int)} (h : PL K H a ps) (e : Same H H') : PL K H' a ps :=
  let ⟨xs, h1, h2⟩ := h; ⟨xs, same_l e h1, dps_s h2 e⟩
theorem dP_inv {K : PySem.W.Frag} {H : Hp} {v : V} {p : Int × Int} (h : Dp K H v (dP p)) : ∃ t, v = .ref t ∧ SqT K H t [.int p.1, .int p.2] := by
  unfold dP at h
  cases h with
  | @tup a xs _ h1 h2 =>
    cases h2 with
    | cons a1 a2 =>
      cases a1
      cases a2 with
      | cons b1 b2 =>
        cases b1
        cases b2
        exact ⟨a, rfl, h1⟩
theorem dP_mk {K : PySem.W.Frag} {H : Hp} {t : Addr} {i j : Int} (h : SqT K H t [.int i, .int j]) : Dp K H (.ref t) (dP (i, j)) := .tup h (.cons (.int i) (.cons (.int j) .nil))
theorem pl_at {K : PySem.W.Frag} {H : Hp} {xs : List V} {ps : List (Int × Int)} (h : DpAll K H xs (ps.map dP)) {i : Nat} {x : V} (hx : xs[i]? = some x) :
    ∃ p t, ps[i]? = some p ∧ x = .ref t ∧ SqT K H t [.int p.1, .int p.2] := by
  obtain ⟨d, hd, hp⟩ := dps_at h i x hx
  rw [List.getElem?_map] at hd
  cases e : ps[i]? with
  | none => rw [e] at hd; cases hd
  | some p =>
    rw [e] at hd
    cases hd
    obtain ⟨t, rfl, ht⟩ := dP_inv hp
    exact ⟨p, t, rfl, rfl, ht⟩
theorem int_at {ns : List Int} {i : Nat} {x : V} (h : (ns.map V.int)[i]? = some x) : ∃ n, ns[i]? = some n ∧ x = .int n := by
  rw [List.getElem?_map] at h
  cases e : ns[i]? with
  | none => rw [e] at h; cases h
  | some n => rw [e] at h; cases h; exact ⟨n, rfl, rfl⟩
theorem lt_of_at {α : Type} {l : List α} {i : Nat} {x : α} (h : l[i]? = some x) : i < l.length := (List.getElem?_eq_some_iff.mp h).1
theorem take_at {α : Type} {l : List α} {i : Nat} {x : α} (h : l[i]? = some x) : l.take (i + 1) = l.take i ++ [x] := by
  rw [List.take_add_one, h]; rfl

/-- a comprehension's list behind one more item -/
theorem lc_put {H1 H4 : Hp} {D : Addr} {acc : List V} {y : V} {Pv : Hp → Prop} (h : H4 D = some (.lst acc)) (hl : acc.length < 100000) (q : Pv (upd H4 D (.lst (acc ++ [y])))) :
    ∃ acc', H4 D = some (.lst acc') ∧ acc'.length < sizeLine ∧ Pv (upd H4 D (.lst (acc' ++ [y]))) := ⟨acc, h, szlt hl, q⟩

theorem tyx_t {K : PySem.W.Frag} {H : Hp} {a : Addr} {xs : List V} (h : SqT K H a xs) : TyX K H (.ref a) (.type "tuple") := by
  rcases h with (h | ⟨o, h⟩) | ⟨o, its, n, h1, h2, _⟩
  · exact .base (.tup h)
  · exact .fTuple h
  · exact .kTuple h1 h2
theorem tyx_l {K : PySem.W.Frag} {H : Hp} {a : Addr} {xs : List V} (h : SqL K H a xs) : TyX K H (.ref a) (.type "list") := by
  rcases h with (h | ⟨o, h⟩) | ⟨o, its, n, h1, h2, _⟩
  · exact .base (.lst h)
  · exact .base (.frz h)
  · exact .kList h1 h2
theorem kit_lt {K : PySem.W.Frag} : PySem.W.kitAny K (.type "list") [.type "list", .type "tuple"] = some true := by
  refine kitAny_cons (b := true) (kit_ty (by decide +kernel)) (fun z => nomatch z) (fun _ => rfl)
/-- what stands of a comprehension over a heap H1 whose list D holds acc -/
def LcP (H1 : Hp) (D : Addr) (out : Nat → List V) (i : Nat) (H : Hp) : Prop := Same H1 H ∧ H D = some (.lst (out i))
theorem lcp_0 {H1 : Hp} {D : Addr} {out : Nat → List V} (hD : H1 D = none) (h0 : out 0 = []) : LcP H1 D out 0 (upd H1 D (.lst [])) := ⟨same_new hD, by rw [upd_same, h0]⟩
/-- one more item -/
theorem lcp_put {H1 H4 : Hp} {D : Addr} {out : Nat → List V} {i : Nat} {y : V} (hD : H1 D = none) (h : LcP H1 D out i H4) (ho : out (i + 1) = out i ++ [y]) (hl : (out i).length < 100000) :
    ∃ acc, H4 D = some (.lst acc) ∧ acc.length < sizeLine ∧ LcP H1 D out (i + 1) (upd H4 D (.lst (acc ++ [y]))) :=
  ⟨out i, h.2, szlt hl, same_mut h.1 hD, by rw [upd_same, ho]⟩
theorem lcp_no {H1 H4 : Hp} {D : Addr} {out : Nat → List V} {i : Nat} (h : LcP H1 D out i H4) (ho : out (i + 1) = out i) : LcP H1 D out (i + 1) H4 := ⟨h.1, by rw [h.2, ho]⟩
theorem lcp_s {H1 H2 H4 : Hp} {D : Addr} {out : Nat → List V} {i : Nat} (h : LcP H1 D out i H2) (e : Same H2 H4) : LcP H1 D out i H4 := ⟨h.1.trans e, e _ _ h.2⟩

section
variable {X : Cx}
/-- len of a set of tuples -/
theorem call_lenSetT : CallR X (.builtin "len") (fun xs H Q => ∃ a L, xs = [.ref a] ∧ H a = some (SetTO X.prog X.w a L) ∧ (∀ p ∈ L, SqT X.K H p.1 (p.2.map V.int)) ∧ ((L.map (·.2)).Nodup → Q (.int L.length) H)) := by
  intro pins s σ H xs us Q I r h
  obtain ⟨a, L, rfl, ha, ht, q⟩ := h
  rw [Vals.ref1 r]
  have R0 : SetT0 X.prog X.w s.heap a L := (I.hok a _ ha).1
  obtain ⟨es, ep, t, R⟩ := R0.full fun p hp => I.isT (ht p hp)
  obtain ⟨o, ho, hex, hd⟩ := R.ob
  have hs := R.size
  have hf := R.few
  refine call_len_set ho hex hd R.fits (by omega) ⟨.int L.length, H, (I.tok _), ⟨_, by rw [hs]⟩, q R.nd⟩

variable {k n : Nat} {f : Addr} {fd : FuncData} {ps ks : List Str} {sp : Sp} {x : Str} {p pos : Pos} {kws : List Keyword} {tk : TA} {g : List Value → List Value → List Value} {gV : List V → List V → List V} {CX : CXT} {E : XK}
end
end Tk

namespace Tk
open PySem PySem.Spec PyProof.Rows L2
/-! ## lists and tuples alike -/
abbrev SqA (K : PySem.W.Frag) (H : Hp) (a : Addr) (xs : List V) : Prop := SqL K H a xs ∨ SqT K H a xs
theorem same_a {K : PySem.W.Frag} {H H' : Hp} {a : Addr} {xs : List V} (e : Same H H') (h : SqA K H a xs) : SqA K H' a xs := h.elim (fun h => .inl (same_l e h)) (fun h => .inr (same_t e h))
/-- a sequence of pairs -/
abbrev PA2 (K : PySem.W.Frag) (H : Hp) (a : Addr) (ps : List (Int × Int)) : Prop := ∃ xs, SqA K H a xs ∧ DpAll K H xs (ps.map dP)
theorem pa2_s {K : PySem.W.Frag} {H H' : Hp} {a : Addr} {ps : List (Int × Int)} (h : PA2 K H a ps) (e : Same H H') : PA2 K H' a ps :=
  let ⟨xs, h1, h2⟩ := h; ⟨xs, same_a e h1, dps_s h2 e⟩
theorem pl_pa2 {K : PySem.W.Frag} {H : Hp} {a : Addr} {ps : List (Int × Int)} (h : PL K H a ps) : PA2 K H a ps := let ⟨xs, h1, h2⟩ := h; ⟨xs, .inl h1, h2⟩
/-- it walks the sequence at a -/
def IsSq (K : PySem.W.Frag) (H : Hp) (a : Addr) (xs : List V) (it : It) : Prop := (it = Itl K a ∧ SqL K H a xs) ∨ (it = Itt K a ∧ SqT K H a xs)
def iSq (K : PySem.W.Frag) (tl : TE) : TI := fun σ H R => tl σ H fun x H1 => ∃ a xs, x = .ref a ∧ SqA K H1 a xs ∧ ∀ it, IsSq K H1 a xs it → R it H1
section
variable {X : Cx} {tg : Expr}
theorem pi_sq {l : Expr} {tl : TE} (hl : PE X l tl) : PI X tg l (iSq X.K tl) := by
  constructor
  intro pins s σ H R I h
  refine thn (hl.run pins s σ H _ I h) ?_
  rintro v s1 ⟨x, H1, J, rv, a, xs, rfl, hc, q⟩
  cases rv
  have own : ∀ b ∈ [s1.heap.objs.size], FpOk X pins H1 b := fun b hb => by
    rw [List.mem_singleton.mp hb]
    exact J.fpOk (Nat.le_refl _) (J.hok.fresh (Nat.le_refl _))
  rcases hc with hq | hq
  · obtain ⟨its, _, pl, _⟩ := J.list hq
    exact wpAny_pyIter_list pl.isList ⟨_, _, _, _, _, rfl, J.kept (t' := s1.toks) (fun b o e => Heap.get?_push_of_some _ e), turn_list a _, ⟨_, Heap.get?_push_size _ rfl, rfl, rfl⟩, own, q _ (.inl ⟨rfl, hq⟩)⟩
  · obtain ⟨its, _, pt, _⟩ := J.tuple hq
    exact wpAny_pyIter_tuple (show s1.heap.IsTuple a its.toArray from pt) ⟨_, _, _, _, _, rfl, J.kept (t' := s1.toks) (fun b o e => Heap.get?_push_of_some _ e), turn_tuple a _, ⟨_, Heap.get?_push_size _ rfl, rfl, rfl⟩, own, q _ (.inr ⟨rfl, hq⟩)⟩
/-- either of two rules for a call -/
theorem cr_or {f : Value} {r1 r2 : List V → Hp → VK → Prop} (c1 : CallR X f r1) (c2 : CallR X f r2) : CallR X f (fun xs H Q => r1 xs H Q ∨ r2 xs H Q) :=
  fun pins s σ H xs us Q I r h => h.elim (c1 pins s σ H xs us Q I r) (c2 pins s σ H xs us Q I r)
end
theorem lc_sq {K : PySem.W.Frag} {a : Addr} {xs : List V} {it : It} {H0 : Hp} {g : TG} {tt : TT} {te : TE} {vs : List Nat} {σ : L2.St} {H1 : Hp} {D : Addr} {Qd : Hp → Prop} (hit : IsSq K H0 a xs it) (Pv : Nat → Hp → Prop) (h0 : Pv 0 (upd H1 D (.lst [])))
    (hl : ∀ i H, i ≤ xs.length → Pv i H → Same H0 H)
    (hs : ∀ i x H, xs[i]? = some x → Pv i H → g x (wipe σ vs) H fun σ2 H2 => wipe σ2 vs = wipe σ vs ∧ tt σ2 H2 fun b H3 =>
      if b = true then te σ2 H3 fun y H4 => ∃ acc, H4 D = some (.lst acc) ∧ acc.length < sizeLine ∧ Pv (i + 1) (upd H4 D (.lst (acc ++ [y]))) else Pv (i + 1) H3)
    (hd : ∀ H, Pv xs.length H → Qd H) :
    ∃ W : Nat → Nat → Hp → Prop, (∃ m, W 0 m (upd H1 D (.lst []))) ∧ ∀ i m H, W i m H →
      (it.stop i H ∧ Qd H) ∨ (it.go i H ∧ ∃ Nx : Hp → Prop, (∀ H', Nx H' → ∃ m', m' < m ∧ W (i + 1) m' H') ∧ ∀ x H', it.yld i H x H' → g x (wipe σ vs) H' fun σ2 H2 => wipe σ2 vs = wipe σ vs ∧ tt σ2 H2 fun b H3 =>
        if b = true then te σ2 H3 fun y H4 => ∃ acc, H4 D = some (.lst acc) ∧ acc.length < sizeLine ∧ Nx (upd H4 D (.lst (acc ++ [y]))) else Nx H3) := by
  rcases hit with ⟨rfl, h⟩ | ⟨rfl, h⟩
  · exact lc_list Pv h0 (fun i H hi p => same_l (hl i H hi p) h) hs hd
  · exact lc_tup Pv h0 (fun i H hi p => same_t (hl i H hi p) h) hs hd
theorem for_sq {K : PySem.W.Frag} {a : Addr} {xs : List V} {it : It} {H0 : Hp} {g : TG} {tb : TS} {D : Ends} {σ : L2.St} {H : Hp} (hit : IsSq K H0 a xs it) (Pv : Nat → L2.St → Hp → Prop) (h0 : Pv 0 σ H) (hl : ∀ i σ H, i ≤ xs.length → Pv i σ H → Same H0 H)
    (hs : ∀ i x σ H, xs[i]? = some x → Pv i σ H → g x σ H fun σ2 H2 => tb { nx := Pv (i + 1), rt := D.rt, bk := D.nx, ct := Pv (i + 1) } σ2 H2) (hd : ∀ σ H, Pv xs.length σ H → D.nx σ H) :
    ∃ W : Nat → Nat → L2.St → Hp → Prop, (∃ m, W 0 m σ H) ∧ ∀ i m σ H, W i m σ H →
      (it.stop i H ∧ D.nx σ H) ∨ (it.go i H ∧ ∃ N : L2.St → Hp → Prop, (∀ σ' H', N σ' H' → ∃ m', m' < m ∧ W (i + 1) m' σ' H') ∧ ∀ x H', it.yld i H x H' → g x σ H' fun σ2 H2 => tb { nx := N, rt := D.rt, bk := D.nx, ct := N } σ2 H2) := by
  rcases hit with ⟨rfl, h⟩ | ⟨rfl, h⟩
  · exact for_list Pv h0 (fun i σ H hi p => same_l (hl i σ H hi p) h) hs hd
  · exact for_tup Pv h0 (fun i σ H hi p => same_t (hl i σ H hi p) h) hs hd
end Tk
/-! ## how many unlike ints -/
namespace Tk
theorem dup_erase {α : Type} [DecidableEq α] : ∀ {l : List α}, ¬ l.Nodup → ∃ x ∈ l, ∀ y ∈ l, y ∈ l.erase x
  | [], h => absurd List.nodup_nil h
  | a :: l, h => by
    by_cases c : a ∈ l
    · refine ⟨a, List.mem_cons_self .., fun y hy => ?_⟩
      rw [List.erase_cons_head]
      rcases List.mem_cons.mp hy with e | e
      · exact e ▸ c
      · exact e
    · have hl : ¬ l.Nodup := fun n => h (List.nodup_cons.mpr ⟨c, n⟩)
      obtain ⟨x, hx, hy⟩ := dup_erase hl
      have ne : ¬ a = x := fun e => c (e ▸ hx)
      refine ⟨x, List.mem_cons_of_mem _ hx, fun y m => ?_⟩
      rw [List.erase_cons_tail (by simpa using ne)]
      rcases List.mem_cons.mp m with e | e
      · exact e ▸ List.mem_cons_self ..
      · exact List.mem_cons_of_mem _ (hy y e)
end Tk

namespace Tk
open PySem PySem.Spec PyProof.Rows L2
/-! ## set(t), t a tuple of tuples of ints -/
def oSet (w : World) : Obj := { cls := .type "set", dict := none, data := .set #[] 0 (.fresh 0 0 (!w.params.followText "set-order")) }
section
variable {P : Program} {w : World} {A : Around} {E : Value → Shared → Prop} {s : Shared}
theorem two_new {h : Heap} {l : Addr} (z : l < h.objs.size) (o : Obj) : l ≠ (h.push o).objs.size ∧ h.objs.size ∉ [(h.push o).objs.size, l] := by
  rw [Heap.size_push]
  refine ⟨Nat.ne_of_lt (Nat.lt_succ_of_lt z), ?_⟩
  simp only [List.mem_cons, List.not_mem_nil, or_false]
  rintro (e | e)
  · exact absurd e (Nat.ne_of_lt (Nat.lt_succ_self _))
  · exact absurd e.symm (Nat.ne_of_lt z)
set_option maxHeartbeats 8000000 in
theorem wp_setTT {l : Addr} {us : Array Value} {ks : List (Addr × List Int)} {Q : Value → Shared → Prop} (calm : A.handled = none) (ht : s.heap.IsTuple l us) (eu : us.toList = ks.map fun p => Value.ref p.1)
    (each : ∀ p ∈ ks, IsT P w s.heap p.2 p.1) (few : ks.length < 64) (room : A.units + 3 < cLine)
    (fin : ∀ (h' : Heap) (tk : Nat) L es ep t, SetTR P w h' s.heap.objs.size L es ep t → Got ks ks.length L → (∀ b o, s.heap.get? b = some o → h'.get? b = some o) → Q (.ref s.heap.objs.size) { s with heap := h', toks := tk }) :
    wpAny (model P w) A (call (.type "set") [.ref l]) Q E s := by
  have many : us.size = ks.length := by
    rw [← Array.length_toList, eu, List.length_map]
  obtain ⟨m1, m2, mro1⟩ := F.called_set.mro
  have made1 := F.called_set.made
  have sub1 := F.called_set.sub
  apply wpAny_call
  apply codeAny_of_tree
  show wpAny (model P w) _ (callAny (.type "set") _) _ E s
  apply wpAny_pure
  refine ⟨Code.quiet_builtin _ (by decide +kernel), ?_⟩
  apply codeAny_builtin F.entry_type_call
  rw [Around.under_plain (weight_type_call_type "set" [Value.ref l] []) (by rfl)]
  have no1 := F.called_set.notType
  have can1 := F.called_set.canCreate
  have tc1 := F.typeCall_set_1 (Value.ref l)
  repeat any_goals (first | assumption | wp_step)
  refine codeAny_mono (code_set_led1 (Value.ref l) (E := E) (Q₁ := fun x z => x = Value.ref s.heap.objs.size ∧ z = { s with heap := s.heap.push (oSet w) }) ⟨rfl, rfl⟩) ?_
  intro res z hz
  cases res with
  | error e => exact hz
  | ok fl =>
  cases fl with
  | next => exact hz.elim
  | brk => exact hz.elim
  | cont => exact hz.elim
  | ret x =>
  obtain ⟨rfl, rfl⟩ := hz
  have atS : (s.heap.push (oSet w)).get? s.heap.objs.size = some (oSet w) := Heap.get?_push_size _ rfl
  have isS : Shared.TypeIs { s with heap := s.heap.push (oSet w) } (Value.ref s.heap.objs.size) "set" := ⟨_, atS, rfl⟩
  have look1 := F.called_set.init.lookup
  have bind1 := F.called_set.init.bind (Value.ref s.heap.objs.size)
  repeat any_goals (first | assumption | wp_step)
  refine codeAny_mono (codeAny_call_builtin (R := wants (fun r z => r = Value.none ∧ ∃ h' tk L es ep t, z = { s with heap := h', toks := tk } ∧ SetTR P w h' s.heap.objs.size L es ep t ∧ Got ks ks.length L ∧
      (∀ b o, s.heap.get? b = some o → h'.get? b = some o)) E) F.called_set.init.plain F.entry_set_init (check_set_init_1 isS ?_)) ?_
  · obtain ⟨⟨oc, od, odat, osl⟩, atL, ec, nl, ed⟩ := ht
    simp only at ec ed
    subst ec ed
    have atL1 : (s.heap.push (oSet w)).get? l = some { cls := .type "tuple", dict := od, data := .seq us nl, slots := osl } := Heap.get?_push_of_some _ atL
    have y1 := F.sub_tuple_set
    have y2 := F.sub_tuple_frozenset
    have y3 : (Value.type "tuple" == Value.type "dict") = false := by decide
    have isT1 : (s.heap.push (oSet w)).IsTuple l us := ⟨_, atL1, rfl, nl, rfl⟩
    unfold Builtin.«set.__init__» noKeywords Builtin.Frozenset.updateFrom
    generalize hIt : pyIter = IT
    wp_walk
    subst hIt
    apply wpAny_pyIter_tuple isT1
    apply wpAny_bind
    apply wpAny_runValue
    obtain ⟨ne1, ne2⟩ := two_new (Heap.lt_size atL) (oSet w)
    have free : ∀ b, s.heap.objs.size ≤ b → s.heap.get? b = none := by
      intro b hb
      cases q : s.heap.get? b with
      | none => rfl
      | some o => exact absurd (Heap.lt_size q) (Nat.not_lt.mpr hb)
    have item : ∀ (i : Nat) (v : Value), us[i]? = some v → ∃ p, ks[i]? = some p ∧ v = Value.ref p.1 := by
      intro i v hv
      rw [← Array.getElem?_toList, eu, List.getElem?_map] at hv
      cases hq : ks[i]? with
      | none => rw [hq] at hv; cases hv
      | some p => rw [hq] at hv; exact ⟨p, rfl, (Option.some.inj hv).symm⟩
    have at2 : ((s.heap.push (oSet w)).push { cls := .type "tuple_iterator", data := .fields #[.ref l, .int 0 0] }).get? s.heap.objs.size = some (oSet w) := Heap.get?_push_of_some _ atS
    refine set_update_tups ((Walks.tuple (by simp [calm]) _ l ne1 us).toS) s.heap.objs.size ne2 ks many few item s.heap each (free _ (Nat.le_refl _)) ?_ room (us.size - 0) 0 _ (by omega) (Nat.zero_le _)
      ⟨⟨_, Heap.get?_push_size _ rfl, rfl, rfl⟩, isT1.push _⟩ (fun b o e => Heap.get?_push_of_some _ (Heap.get?_push_of_some _ e)) ⟨[], #[], 0, _, setTR_fresh at2, Got.zero ks⟩ ?_
    · intro b hb
      refine free b ?_
      rw [List.mem_singleton.mp hb, Heap.size_push]
      omega
    · rintro ⟨h', g', d', tk', os'⟩ L es ep t mv R1 got kp
      obtain rfl : g' = s.gens := mv.gens
      obtain rfl : d' = s.drawn := mv.drawn
      obtain rfl : os' = s.os := mv.os
      show wpAny _ _ _ _ _ _
      apply wpAny_pure
      show wpAny _ _ (ret Value.none) _ _ _
      rw [many] at got
      exact wpAny_pure ⟨rfl, h', tk', L, es, ep, t, rfl, R1, got, kp⟩
  · intro r2 z2 hz2
    cases r2 with
    | error e => exact hz2
    | ok f2 =>
    cases f2 with
    | next => exact hz2.elim
    | brk => exact hz2.elim
    | cont => exact hz2.elim
    | ret v =>
    obtain ⟨rfl, h', tk, L, es, ep, t, rfl, R1, got, kp⟩ := hz2
    repeat any_goals (first | assumption | wp_step)
    exact fin _ _ _ _ _ _ R1 got kp
end
section
variable {X : Cx}
def rSetTT (K : PySem.W.Frag) (P : Program) (w : World) : List V → Hp → VK → Prop := fun xs H Q => ∃ (l : Addr) (ks : List (Addr × List Int)), xs = [V.ref l] ∧ SqT K H l (ks.map fun p => V.ref p.1) ∧ (∀ p ∈ ks, SqT K H p.1 (p.2.map V.int)) ∧ ks.length < 64 ∧
  ∀ a L, H a = none → (∀ p ∈ L, p ∈ ks) → (∀ p ∈ ks, p.2 ∈ L.map (·.2)) → Q (.ref a) (upd H a (SetTO P w a L))
theorem cr_setTT (hc : X.calm = true) (hu : X.A.units + 64 < cLine) : CallR X (.type "set") (rSetTT X.K X.prog X.w) := by
  rintro pins s σ H xs us Q I r ⟨l, ks, rfl, hl, hk, hf, q⟩
  rw [Vals.ref1 r]
  obtain ⟨its, rv, pt, _⟩ := I.tuple hl
  refine wp_setTT (P := X.prog) (w := X.w) (I.ok.hd hc) (show s.heap.IsTuple l its.toArray from pt) (by simpa using refs_of_vals rv) (fun p hp => I.isT (hk p hp)) hf (by omega) ?_
  intro h' tk L es ep t R g k
  refine ⟨.ref s.heap.objs.size, _, I.laid (t' := tk) k (Nat.le_refl _) (setTO_new R.t0), rfl, q _ L (I.hok.fresh (Nat.le_refl _)) (fun p hp => List.mem_of_mem_take (g.sub p hp)) fun p hp => g.all p ?_⟩
  rw [List.take_length]
  exact hp
/-! ## set(xs) of ints, and how many -/
def SetN (a : Addr) (n : Nat) : HO := .ext fun h => ∃ o es ep t, h.get? a = some o ∧ o.ExactSet ∧ o.data = .set es ep t ∧ t.fits es.size = true ∧ es.size = n ∧ n < 1000
theorem setN_new {w : World} {P : Program} {H : Hp} {h : Heap} {a : Addr} {n : Nat} {o : Obj} {es : Array (Int × Value)} {ep : Nat} {t : SetTable} (ho : h.get? a = some o) (hx : o.ExactSet) (hd : o.data = .set es ep t) (hf : t.fits es.size = true) (hn : es.size = n) (n1 : n < 1000) : ObjOk P w H h a (SetN a n) :=
  ⟨⟨o, es, ep, t, ho, hx, hd, hf, hn, n1⟩, ⟨o, ho⟩, fun h1 h2 ⟨o, es, ep, t, ho, r⟩ k => ⟨o, es, ep, t, k o ho, r⟩⟩
theorem firstMet_nd (f : Nat → Int) : ∀ i, (firstMet f i).Nodup
  | 0 => by rw [firstMet_zero]; exact List.nodup_nil
  | i + 1 => by
    rw [firstMet_succ]
    unfold step_dedup
    split
    · exact firstMet_nd f i
    · next c =>
      rw [List.nodup_append]
      refine ⟨firstMet_nd f i, by simp, fun a ha b hb e => c ?_⟩
      rw [List.mem_singleton.mp hb] at e
      exact List.any_eq_true.mpr ⟨a, ha, by rw [e]; exact beq_self_eq_true _⟩
theorem firstMet_mem (ns : List Int) (k : Int) : k ∈ firstMet (fun i => ns.getD i 0) ns.length ↔ k ∈ ns := by
  have a := firstMet_any (fun i => ns.getD i 0) ns.length k
  have e : (List.range ns.length).map (fun i => ns.getD i 0) = ns := by
    refine List.ext_getElem? fun i => ?_
    rw [List.getElem?_map]
    by_cases c : i < ns.length
    · rw [List.getElem?_range c]
      simp [List.getD_eq_getElem?_getD, List.getElem?_eq_getElem c]
    · rw [List.getElem?_eq_none (by simpa using c), List.getElem?_eq_none (by simpa using c)]; rfl
  rw [e] at a
  have b : ∀ l : List Int, l.any (· == k) = true ↔ k ∈ l := fun l => by simp
  rw [← b, a, b]
def rSetIA (K : PySem.W.Frag) : List V → Hp → VK → Prop := fun xs H Q => ∃ (l : Addr) (ns : List Int), xs = [V.ref l] ∧ SqA K H l (ns.map V.int) ∧ ns.length < 64 ∧
  ∀ (p : Addr) (L : List Int), H p = none → L.Nodup → (∀ k, k ∈ L ↔ k ∈ ns) → Q (.ref p) (upd H p (SetN p L.length))
theorem cr_setIA (hc : X.calm = true) : CallR X (.type "set") (rSetIA X.K) := by
  rintro pins s σ H xs us Q I r ⟨l, ns, rfl, hl, hf, q⟩
  rw [Vals.ref1 r]
  rcases hl with hl | hl
  · obtain ⟨its, rv, pl, hz⟩ := I.list hl
    have el : its.toArray.size = ns.length := by rw [List.size_toArray, ← rv.length, List.length_map]
    refine call_set_list (I.ok.hd hc) pl.isList (ns := ns) (by simpa using rv.ints) (by unfold scanBound; omega) ?_
    intro h' tk R k
    rw [el] at R
    have nd := firstMet_nd (fun i => ns.getD i 0) ns.length
    have mm := firstMet_mem ns
    have le := firstMet_length_le (fun i => ns.getD i 0) ns.length
    generalize firstMet (fun i => ns.getD i 0) ns.length = L at R nd mm le
    obtain ⟨o, es, ep, t, ho, hx, hd, _, _, _, hft, hn⟩ := R
    exact ⟨.ref s.heap.objs.size, _, I.laid (t' := tk) (fun b o e => k b o (Heap.lt_size e) e) (Nat.le_refl _) (setN_new ho hx hd hft hn (by omega)), rfl, q _ L (I.hok.fresh (Nat.le_refl _)) nd mm⟩
  · obtain ⟨its, rv, pt, _⟩ := I.tuple hl
    refine call_set_tupI ns (I.ok.hd hc) (show s.heap.IsTuple l its.toArray from pt) (by simpa using rv.ints) (by unfold scanBound; omega) ?_
    rintro h' tk c ⟨o, es, ep, t, ho, hx, hd, _, nd, mm, _, hft, hn, _⟩ lc k
    have q' := q _ (es.toList.map keyOf) (I.hok.fresh (Nat.le_refl _)) nd (fun z => by rw [← mm z]; simp)
    rw [List.length_map, Array.length_toList, hn] at q'
    exact ⟨.ref s.heap.objs.size, _, I.laid (t' := tk) k (Nat.le_refl _) (setN_new ho hx hd hft hn (by omega)), rfl, q'⟩
theorem cr_lenN : CallR X (.builtin "len") (fun xs H Q => ∃ (a : Addr) (n : Nat), xs = [V.ref a] ∧ H a = some (SetN a n) ∧ Q (.int n) H) := by
  rintro pins s σ H xs us Q I r ⟨a, n, rfl, ha, q⟩
  rw [Vals.ref1 r]
  obtain ⟨o, es, ep, t, ho, hx, hd, hf, hn, n1⟩ := (I.hok a _ ha).1
  exact call_len_set ho hx hd hf (by omega) ⟨.int n, H, I.tok _, ⟨_, by rw [hn]⟩, q⟩
/-! ## sorted(xs), xs a list or tuple of ints -/
theorem collect_tup {prog : Program} {w : World} {A : Around} {E : Value → Shared → Prop} {s : Shared} {l : Addr} {vs : List Value} {Q : List Value → Shared → Prop} (ht : s.heap.IsTuple l vs.toArray) (hz : vs.length ≤ sizeLine)
    (fin : Q vs { s with heap := (s.heap.push (seqObj "list" #[] 0)).update s.heap.objs.size (Obj.mapSeq (· ++ vs.toArray)) }) : wpAny (model prog w) A (collect (.ref l)) Q E s := by
  obtain ⟨o, at1, cl1, n, d1⟩ := id ht
  have at2 : (s.heap.push (seqObj "list" #[] 0)).get? l = some o := Heap.get?_push_of_some _ at1
  have new2 : (s.heap.push (seqObj "list" #[] 0)).get? s.heap.objs.size = some (seqObj "list" #[] 0) := Heap.get?_push_size _ rfl
  unfold collect
  apply wpAny_bind; apply wpAny_runValue; apply codeAny_builtin entry_proto_collect'
  show wpAny (model prog w) _ (do again (.builtin "list.__iadd__" ⟨[← newList [], .ref l], []⟩)) _ _ s
  refine wpAny_bind (wpAny_newList ?_); apply wpAny_pure
  refine ⟨Code.quiet_builtin _ (by decide +kernel), ?_⟩
  apply codeAny_builtin entry_list_iadd'
  show wpAny (model prog w) _ (Builtin.List.listExtendWith (.ref s.heap.objs.size) (.ref l) (.ref s.heap.objs.size)) _ _ { s with heap := s.heap.push (seqObj "list" #[] 0) }
  unfold Builtin.List.listExtendWith
  apply wpAny_bind
  refine wpAny_typeOf (v := Value.ref l) (T := "tuple") ⟨o, at2, cl1⟩ ?_
  rw [if_pos (by
    have e : (Value.type "tuple" == Value.type "tuple") = true := by rfl
    rw [e]; simp)]
  apply wpAny_bind; apply listItems_at at2 d1
  apply wpAny_bind; apply listItems_at (xs := #[]) (n := 0) new2 rfl
  rw [if_neg (by simp)]
  apply wpAny_bind
  refine listUpdate_at (xs := #[]) (n := 0) new2 rfl ?_ (Nat.zero_le _) (by simp; omega)
  apply wpAny_pure
  show wpAny (model prog w) A (load s.heap.objs.size >>= _) Q E { s with heap := (s.heap.push (seqObj "list" #[] 0)).update s.heap.objs.size (Obj.mapSeq (· ++ vs.toArray)) }
  apply wpAny_bind
  refine wpAny_load (get?_update_seq new2 _) ?_
  have e3 : ((#[] : Array Value) ++ vs.toArray).toList = vs := by simp
  show wpAny (model prog w) A (pure ((#[] : Array Value) ++ vs.toArray).toList) Q E _
  rw [e3]
  exact wpAny_pure fin
end
end Tk
namespace Tk
open PySem PySem.Spec PyProof.Rows L2
section
variable {prog : Program} {w : World} {A : Around} {E : Value → Shared → Prop} {s : Shared}
theorem sorted_tup {l : Addr} {vs : List Value} {ltv : Value → Value → Bool} {Q : Value → Shared → Prop} (O : SrtO.Swo ltv) (ht : s.heap.IsTuple l vs.toArray) (hz : vs.length ≤ sizeLine)
    (able : 2 ≤ vs.length → ∀ (h1 : Heap) (a : Addr), h1.get? a = some (seqObj "list" vs.toArray 0) → (∀ b o, s.heap.get? b = some o → b ≠ a ∧ h1.get? b = some o) → SrtO.SortableO prog w A.in1.in1 { s with heap := h1 } a vs ltv)
    (fin : ∀ out : List Value, SrtO.Srtd ltv out → SrtO.Stb ltv out vs → Q (.ref (s.heap.objs.size + 1)) { s with heap := sortedAll s.heap vs out.toArray }) :
    wpAny (model prog w) A (call (.builtin "sorted") [.ref l]) Q E s := by
  apply Calls.call_function_entry kind_sorted plain_sorted entry_sorted (args_sorted1 _)
  unfold Builtin.«sorted»
  apply wpAny_bind (m := checkCount "sorted" 1 1 _)
  apply wpAny_pure; apply wpAny_bind
  apply collect_tup ht hz; apply wpAny_bind
  refine wpAny_newList ?_ hz
  generalize hcp : (s.heap.push (seqObj "list" #[] 0)).update s.heap.objs.size (Obj.mapSeq (· ++ vs.toArray)) = h1
  have z1 : h1.objs.size = s.heap.objs.size + 1 := by rw [← hcp, Heap.size_update, Heap.size_push]
  have new2 : (h1.push (seqObj "list" vs.toArray 0)).get? (s.heap.objs.size + 1) = some (seqObj "list" vs.toArray 0) := by rw [← z1]; exact Heap.get?_push_size _ rfl
  have old : ∀ b o, s.heap.get? b = some o → b ≠ s.heap.objs.size + 1 ∧ (h1.push (seqObj "list" vs.toArray 0)).get? b = some o := by
    intro b o e
    have lt := Heap.lt_size e
    refine ⟨Nat.ne_of_lt (Nat.lt_succ_of_lt lt), Heap.get?_push_of_some _ ?_⟩
    rw [← hcp, Heap.get?_update_ne _ _ _ _ (Nat.ne_of_lt lt)]
    exact Heap.get?_push_of_some _ e
  show wpAny _ _ _ _ _ { s with heap := h1.push (seqObj "list" vs.toArray 0) }
  rw [z1]
  refine wpAny_bind (wpAny_holding (wpAny_call_entry slot_list_sort ⟨_, new2, rfl⟩ entry_list_sort (SrtO.list_sort_ord O new2 hz (fun m => able m _ _ new2 old) fun out a b => ⟨_, rfl, ?_⟩) (args_list_sort _)))
  subst hcp
  exact wpAny_pure ⟨_, rfl, fin out a b⟩
end
section
variable {X : Cx}
def rSortedIA (K : PySem.W.Frag) : List V → Hp → VK → Prop := fun vs H Q => ∃ (a : Addr) (ns : List Int), vs = [V.ref a] ∧ SqA K H a (ns.map V.int) ∧
  ∀ (ns' : List Int) (p : Addr), ns'.Perm ns → ns'.Pairwise (· ≤ ·) → H p = none → Q (.ref p) (upd H p (.lst (ns'.map V.int)))
theorem cr_sortedIA : CallR X (.builtin "sorted") (rSortedIA X.K) := by
  rintro pins s σ H vs us Q I r ⟨a, ns, rfl, hs, q⟩
  rcases hs with hs | hs
  · exact cr_sortedI pins s σ H _ us Q I r ⟨a, ns, rfl, hs, q⟩
  · rw [Vals.ref1 r]
    obtain ⟨its, rv, pt, _⟩ := I.tuple hs
    have hi := rv.ints
    have il : its.length = ns.length := by rw [← rv.length, List.length_map]
    have hz : ns.length ≤ sizeLine := by
      have := (I.tuple hs)
      obtain ⟨its2, rv2, _, z2⟩ := this
      rw [List.length_map] at z2
      exact z2
    refine sorted_tup SrtO.swo_int (show s.heap.IsTuple a its.toArray from pt) (by omega) (fun m h1 a' _ _ => SrtO.ints_sortable hi m) fun out h1 h2 => ?_
    obtain ⟨k1, k2, k3⟩ := SrtO.ints_out hi h1 h2
    obtain ⟨ep, he⟩ := PyProof.Rows.sortedAll_at s.heap its out.toArray
    have hl : ((out.map SrtO.iv).map V.int).length ≤ sizeLine := by rw [List.length_map, k2.length_eq]; exact hz
    exact ⟨.ref (s.heap.objs.size + 1), upd H (s.heap.objs.size + 1) (.lst ((out.map SrtO.iv).map V.int)), I.laid (t' := s.toks) (fun _ _ => PyProof.Rows.sortedAll_old) (Nat.le_succ _) ⟨hl, out, ep, vals_of_ints k1, he⟩, rfl, q _ _ k2 k3 (I.hok.fresh (Nat.le_succ _))⟩
end
end Tk

namespace Tk
open PySem PySem.Spec PyProof.Rows L2
section
variable {X : Cx}
def rSetTA (K : PySem.W.Frag) (P : Program) (w : World) : List V → Hp → VK → Prop := fun xs H Q => ∃ (l : Addr) (ks : List (Addr × List Int)), xs = [V.ref l] ∧ SqA K H l (ks.map fun p => V.ref p.1) ∧ (∀ p ∈ ks, SqT K H p.1 (p.2.map V.int)) ∧ ks.length < 64 ∧
  ∀ a L, H a = none → (∀ p ∈ L, p ∈ ks) → (∀ p ∈ ks, p.2 ∈ L.map (·.2)) → Q (.ref a) (upd H a (SetTO P w a L))
theorem cr_setTA (hc : X.calm = true) (hu : X.A.units + 64 < cLine) : CallR X (.type "set") (rSetTA X.K X.prog X.w) := by
  rintro pins s σ H xs us Q I r ⟨l, ks, rfl, hl, hk, hf, q⟩
  rcases hl with hl | hl
  · exact cr_setOfT hc hu pins s σ H _ us Q I r ⟨l, ks, rfl, hl, hk, hf, q⟩
  · exact cr_setTT hc hu pins s σ H _ us Q I r ⟨l, ks, rfl, hl, hk, hf, q⟩
end
end Tk

namespace Tk
open PySem PySem.Spec PyProof.Rows L2
def top (i : Nat) : Stmt := PySem.Challenge.pw_toldpushes_k13_whole_products_and_differ.main.body.getD i (.Pass ⟨0, 0, 0, 0⟩)
abbrev sIsInt : Stmt := top 3
abbrev sIsCnt : Stmt := top 4
abbrev sIsLst : Stmt := top 5
abbrev sIsSize : Stmt := top 23
abbrev sChkSize : Stmt := top 24
abbrev sPot : Stmt := top 35
abbrev sDraw : Stmt := top 36
abbrev sPick : Stmt := top 37
abbrev sOneRight : Stmt := top 58
abbrev sRight : Stmt := top 60
abbrev sLaw : Stmt := top 61

/-- a def of the text under its own name -/
structure Df (K : PySem.W.Frag) (mg : Str → Option Value) (nm : Str) (st : Stmt) (ps : List Str) (f : Addr) (fd : FuncData) : Prop where
  F : Fun K nm nm st f fd
  g : mg nm = some (.ref f)
  b : Binds K fd ps []
/-- the built-in names still mean what they mean -/
structure Bl (mg : Str → Option Value) : Prop where
  isi : mg "isinstance" = none
  int : mg "int" = none
  bool : mg "bool" = none
  list : mg "list" = none
  tuple : mg "tuple" = none
  len : mg "len" = none
  all : mg "all" = none
  any : mg "any" = none
  set : mg "set" = none
  range : mg "range" = none
  sorted : mg "sorted" = none
  sum : mg "sum" = none
  abs : mg "abs" = none
  max : mg "max" = none
  min : mg "min" = none
  divmod : mg "divmod" = none
  repr : mg "repr" = none
  enumerate : mg "enumerate" = none
  zip : mg "zip" = none

/-! ## kinds of values -/
inductive IntV (K : PySem.W.Frag) (H : Hp) : V → Option Int → Prop
  | int (i : Int) : IntV K H (.int i) (some i)
  | bl (b : Bool) : IntV K H (.bl b) none
  | oth {v : V} {ty : String} (h : TyX K H v (.type ty)) (k : kitB ty "int" = some false) : IntV K H v none
inductive SqV (K : PySem.W.Frag) (H : Hp) : V → Option (List V) → Prop
  | sq {a : Addr} {xs : List V} (h : SqA K H a xs) : SqV K H (.ref a) (some xs)
  | no {v : V} {ty : String} (h : TyX K H v (.type ty)) (k : kitB ty "list" = some false) (k2 : kitB ty "tuple" = some false) : SqV K H v none
theorem tyx_s {K : PySem.W.Frag} {H H' : Hp} {v t : _} (h : TyX K H v t) (e : Same H H') : TyX K H' v t := by
  cases h with
  | base b =>
    refine .base ?_
    cases b with
    | non => exact .non
    | bl x => exact .bl x
    | int i => exact .int i
    | str x => exact .str x
    | flt x => exact .flt x
    | lst q => exact .lst (e _ _ q)
    | frz q => exact .frz (e _ _ q)
    | tup q => exact .tup (e _ _ q)
    | dK q => exact .dK (e _ _ q)
    | dT q => exact .dT (e _ _ q)
    | ins q a1 a2 a3 a4 a5 => exact .ins (e _ _ q) a1 a2 a3 a4 a5
  | byt b => exact .byt b
  | set q => exact .set (e _ _ q)
  | kList q c => exact .kList q c
  | kTuple q c => exact .kTuple q c
  | kDict q c => exact .kDict q c
  | fTuple q => exact .fTuple (e _ _ q)
  | fDict q => exact .fDict (e _ _ q)
theorem intv_s {K : PySem.W.Frag} {H H' : Hp} {v : V} {o : Option Int} (h : IntV K H v o) (e : Same H H') : IntV K H' v o := by
  cases h with
  | int i => exact .int i
  | bl b => exact .bl b
  | oth h k => exact .oth (tyx_s h e) k
theorem sqv_s {K : PySem.W.Frag} {H H' : Hp} {v : V} {o : Option (List V)} (h : SqV K H v o) (e : Same H H') : SqV K H' v o := by
  cases h with
  | sq h => exact .sq (same_a e h)
  | no h k k2 => exact .no (tyx_s h e) k k2
def cntO : Option Int → Bool
  | some i => decide (0 ≤ i)
  | none => false
def thgO (n : Int) : Option Int → Bool
  | some i => decide (0 ≤ i) && decide (i < n)
  | none => false
/-! ## promises -/
def spIsInt (K : PySem.W.Frag) : Sp := fun vs H Q _ => ∃ (v : V) (o : Option Int), vs = [v] ∧ IntV K H v o ∧ Q (.bl o.isSome) H
def spIsCnt (K : PySem.W.Frag) : Sp := fun vs H Q _ => ∃ (v : V) (o : Option Int), vs = [v] ∧ IntV K H v o ∧ Q (.bl (cntO o)) H
def spIsThg (K : PySem.W.Frag) : Sp := fun vs H Q _ => ∃ (n : Int) (v : V) (o : Option Int), vs = [.int n, v] ∧ IntV K H v o ∧ Q (.bl (thgO n o)) H
def spIsLst (K : PySem.W.Frag) : Sp := fun vs H Q _ => ∃ (v : V) (o : Option (List V)), vs = [v] ∧ SqV K H v o ∧ ∀ H', Same H H' → Q (.bl o.isSome) H'

section
variable {P : Program} {w : World} {K : PySem.W.Frag} {mg : Str → Option Value} {base : Heap}
theorem sc_isInt : FnScope ["value"] ["value"] (defScope sIsInt) := ⟨rfl, rfl, rfl, by decide +kernel, rfl, by decide +kernel, by decide +kernel⟩
theorem ok_isInt {f : Addr} {fd : FuncData} (F : Fun K "is_integer" "is_integer" sIsInt f fd) (B : Bl mg) : FnOk P w K mg base CX0 1 f fd ["value"] (spIsInt K) := by
  refine F.ok sc_isInt (fun vs H Q E h => ?_) (fun cdv A outer s H vs Q E hr h => ?_)
  · obtain ⟨i, _, rfl, _⟩ := h
    rfl
  · obtain ⟨v, o, rfl, hv, q⟩ := h
    refine ⟨_, pss_one (ps_ret (pe_and
      (pe_callB call_isi (by rfl) B.isi PyProof.Rows.boot_isinstance (pa_cons (pv 0) (pa_cons (pe_bltn (v := .ty "int") (by rfl) B.int PyProof.Rows.boot_int rfl) pa_nil)))
      (pe_one (pe_not (pe_callB call_isi (by rfl) B.isi PyProof.Rows.boot_isinstance (pa_cons (pv 0) (pa_cons (pe_bltn (v := .ty "bool") (by rfl) B.bool PyProof.Rows.boot_bool rfl) pa_nil))))))), ?_⟩
    cases hv with
    | int i =>
      refine ⟨_, rfl, _, _, _, _, true, rfl, .ty _, .base (.int i), kit_ty (by decide +kernel), true, rfl, iteT ?_⟩
      exact ⟨_, rfl, _, _, _, _, false, rfl, .ty _, .base (.int i), kit_ty (by decide +kernel), false, rfl, q⟩
    | bl b =>
      refine ⟨_, rfl, _, _, _, _, true, rfl, .ty _, .base (.bl b), kit_ty (by decide +kernel), true, rfl, iteT ?_⟩
      exact ⟨_, rfl, _, _, _, _, true, rfl, .ty _, .base (.bl b), kit_ty (by decide +kernel), true, rfl, q⟩
    | oth h k =>
      exact ⟨_, rfl, _, _, _, _, false, rfl, .ty _, h, kit_ty k, false, rfl, iteF q⟩

theorem sc_isCnt : FnScope ["value"] ["value"] (defScope sIsCnt) := ⟨rfl, rfl, rfl, by decide +kernel, rfl, by decide +kernel, by decide +kernel⟩
theorem ok_isCnt {f f1 : Addr} {fd fd1 : FuncData} (F : Fun K "is_count" "is_count" sIsCnt f fd) (D1 : Df K mg "is_integer" sIsInt ["value"] f1 fd1) (B : Bl mg) : FnOk P w K mg base CX0 2 f fd ["value"] (spIsCnt K) := by
  have G1 : FnOk P w K mg base CX0 1 f1 fd1 ["value"] (spIsInt K) := ok_isInt D1.F B
  refine F.ok sc_isCnt (fun vs H Q E h => ?_) (fun cdv A outer s H vs Q E hr h => ?_)
  · obtain ⟨i, _, rfl, _⟩ := h
    rfl
  · obtain ⟨v, o, rfl, hv, q⟩ := h
    refine ⟨_, pss_one (ps_ret (pe_and (pe_call G1 hr rfl D1.g D1.F.kp D1.b .nil pass0 (pa_cons (pv 0) pa_nil)) (pe_one (pe_cmpR op_ge (pv 0) pe_int (nomark _))))), ?_⟩
    refine ⟨_, rfl, v, o, rfl, hv, o.isSome, rfl, ?_⟩
    cases hv with
    | int i => exact iteT ⟨_, rfl, _, _, rfl, rfl, q⟩
    | bl b => exact iteF q
    | oth h k => exact iteF q

theorem sc_isLst : FnScope ["value"] ["value"] (defScope sIsLst) := ⟨rfl, rfl, rfl, by decide +kernel, rfl, by decide +kernel, by decide +kernel⟩
theorem kit_any2 {t : String} {b : Bool} (h : kitB t "list" = some false) (h2 : kitB t "tuple" = some b) : PySem.W.kitAny K (.type t) [.type "list", .type "tuple"] = some b := by
  refine kitAny_cons (b := false) (kit_ty h) (fun _ => ?_) (fun z => nomatch z)
  cases b with
  | true => exact kitAny_cons (b := true) (kit_ty h2) (fun z => nomatch z) (fun _ => rfl)
  | false => exact kitAny_cons (b := false) (kit_ty h2) (fun _ => rfl) (fun z => nomatch z)
theorem ok_isLst {f : Addr} {fd : FuncData} (F : Fun K "is_list" "is_list" sIsLst f fd) (B : Bl mg) : FnOk P w K mg base CX0 1 f fd ["value"] (spIsLst K) := by
  refine F.ok sc_isLst (fun vs H Q E h => ?_) (fun cdv A outer s H vs Q E hr h => ?_)
  · obtain ⟨i, _, rfl, _⟩ := h
    rfl
  · obtain ⟨v, o, rfl, hv, q⟩ := h
    refine ⟨_, pss_one (ps_ret (pe_callB call_isiT (by rfl) B.isi PyProof.Rows.boot_isinstance (pa_cons (pv 0) (pa_cons
      (pe_tup (pa_cons (pe_bltn (v := .ty "list") (by rfl) B.list PyProof.Rows.boot_list rfl) (pa_cons (pe_bltn (v := .ty "tuple") (by rfl) B.tuple PySem.Pv.boot_tuple rfl) pa_nil))) pa_nil)))), ?_⟩
    refine ⟨_, rfl, szle (by decide), fun p hp => ?_⟩
    have hv' := sqv_s hv (same_new (o := .tup [.ty "list", .ty "tuple"]) hp)
    cases hv' with
    | sq h =>
      rcases h with h | h
      · exact ⟨_, p, [.ty "list", .ty "tuple"], _, [.type "list", .type "tuple"], true, rfl, upd_same, .cons (.ty _) (.cons (.ty _) .nil), tyx_l h, kit_lt, q _ (same_new hp)⟩
      · exact ⟨_, p, [.ty "list", .ty "tuple"], _, [.type "list", .type "tuple"], true, rfl, upd_same, .cons (.ty _) (.cons (.ty _) .nil), tyx_t h, kit_any2 (by decide +kernel) (by decide +kernel), q _ (same_new hp)⟩
    | no h k k2 => exact ⟨_, p, [.ty "list", .ty "tuple"], _, [.type "list", .type "tuple"], false, rfl, upd_same, .cons (.ty _) (.cons (.ty _) .nil), h, kit_any2 k k2, q _ (same_new hp)⟩
end
end Tk

namespace NeO
open PySem PySem.W PySem.Spec PyProof.Rows
section
variable {prog : Program} {w : World} {A : Around} {E : Value → Shared → Prop} {s : Shared} {K : Frag} {x C f : Addr} {ox : Obj} {od : Option Obj} {name : Str} {h₀ : Heap}
theorem bind_ne (self : Value) : bindSpecial (.builtin "object.__ne__") self = pure (.builtin "object.__ne__", [self]) := PySem.F.slot_enumerate_ne.bind self
theorem ifBound_B {M : Model} {id : String} {args : List Value} {Q : Option Value → Shared → Prop} (X : K.In s.heap) (I : InstAt s.heap x ox C od) (hs : findIn K (.ref C) name = some (some (.builtin id))) (hb : ∀ self, bindSpecial (.builtin id) self = pure (.builtin id, [self]))
    (h : wpAny M A (call (.builtin id) (.ref x :: args)) (fun v => Q (some v)) E s) : wpAny M A (callSpecialIfBound? (.ref x) name args) Q E s := by
  simp only [callSpecialIfBound?, bindSpecialIfBound?]
  refine wpAny_holding (wpAny_bind (wpAny_bind (wpAny_bind (I.type.here ((looks_findIn X hs).here ?_)))))
  refine wpAny_bind (wpAny_askSetting (wpAny_ite ?_))
  have fin : wpAny M A (call (.builtin id) ([.ref x] ++ args) >>= fun v => pure (some v)) Q E s := wpAny_bind (wpAny_mono h (fun v s' h' => wpAny_pure h') fun _ _ h' => h')
  simp only [hb]
  split
  · exact wpAny_bind (wpAny_pure (wpAny_pure fin))
  · exact wpAny_tryCatch (wpAny_bind (wpAny_pure (wpAny_pure fin)))
theorem ne_body {y : Value} {Q : Fin → Shared → Prop} (X : K.In s.heap) (I : InstAt s.heap x ox C od) (hs : findIn K (.ref C) "__eq__" = some (some (.ref f))) (hf : isFn K (.ref f) = true) (hu : A.units < cLine)
    (hcall : wpAny (model prog w) A (call (.ref f) [.ref x, y]) (fun v s' => ∃ b, v = .bool b ∧ Q (.done (.ret (.bool (!b)))) s') E s) :
    wpAny (model prog w) A (Builtin.«object.__ne__» ⟨[.ref x, y], []⟩) Q E s := by
  unfold Builtin.«object.__ne__»
  repeat (first
    | with_reducible refine wpAny_cRoomFor hu ?_
    | (refine wpAny_bind (m := callSpecialIfBound? (.ref x) (Str.ofString "__eq__") [y])
        (ifBound_K X I hs hf (wpAny_mono hcall (fun r s' hr => by
          obtain ⟨b, rfl, hq⟩ := hr
          repeat (first | exact hq | exact wpAny_pure hq | exact wpAny_truthy_bool hq | (refine wpAny_bind (m := truthy (.bool _)) (wpAny_truthy_bool ?_)) | wp_step)) fun _ _ e => e)))
    | wp_step)
end
end NeO
namespace NeO
open PySem PySem.Spec PyProof.Rows L2
/-- a != b of two instances of a class with its own ==, == keeping sp -/
def rNeI (C : Addr) (sp : Sp) : R2 := fun x y H Q => ∃ (a b : Addr) (dx dy : Addr) (fs gs : List (Str × V)), x = .ref a ∧ y = .ref b ∧ H a = some (.ins C dx fs) ∧ H b = some (.ins C dy gs) ∧
  sp [.ref a, .ref b] H (fun v H' => ∃ c : Bool, v = .bl c ∧ Q (.bl (!c)) H') fun _ _ _ => False
/-- what the class gives for it -/
structure NeC (K : PySem.W.Frag) (C f : Addr) : Prop where
  eq : PySem.W.findIn K (.ref C) "__eq__" = some (some (.ref f))
  fn : PySem.W.isFn K (.ref f) = true
  ne : PySem.W.findIn K (.ref C) "__ne__" = some (some (.builtin "object.__ne__"))
  ob : PySem.W.mroIn K C (.type "object") = some true
section
variable {X : Cx} {k : Nat} {C f : Addr} {fd : FuncData} {ps : List Str} {sp : Sp}
theorem op_neI (Z : NeC X.K C f) (F : FnOk X.prog X.w X.K X.mg X.base CX0 k f fd ps sp) (hr : Room (k + 1) X.A) (hb : Binds X.K fd ps []) : OpR X (compareOp .NotEq) (rNeI C sp) := by
  intro pins s σ H x y v u Q I rx ry hq
  obtain ⟨a, b, dx, dy, fs, gs, rfl, rfl, ha, hb', q⟩ := hq
  cases rx
  cases ry
  obtain ⟨mA, J, _⟩ := ins_get I.hok ha
  obtain ⟨mB, J', _⟩ := ins_get I.hok hb'
  obtain ⟨od, J, _⟩ := J.look
  obtain ⟨od', J', _⟩ := J'.look
  have hu : X.A.units + 1 < cLine := by have := hr.un; omega
  have hu0 : X.A.units < cLine := by omega
  have hr1 : Room k X.A.in1 := hr.in1
  show wpAny (model X.prog X.w) X.A (richCompare .NotEq (.ref a) (.ref b)) (EP X pins σ Q) X.xe s
  have sub : PySem.W.Looks (model X.prog X.w) s.heap (isInstance (.ref a) (.type "object")) true := J.type.andThen (PySem.W.looks_mroIn I.kIn Z.ob)
  have run : wpAny (model X.prog X.w) X.A.in1 (call (.ref f) [.ref a, .ref b]) (fun v s' => ∃ b : Bool, v = .bool b ∧ EP X pins σ Q (.bool (!b)) s') X.xe s := by
    have e0 : Env0 X.prog X.w X.K X.mg X.base X.A.in1 X.stack s H := by
      have e := I.env0
      exact ⟨e.frames, e.mod, e.bs, e.bsz, e.funs, e.frf, e.hok, e.bare⟩
    have hl := F.len _ _ _ _ q
    have r2 : Vals [V.ref a, V.ref b] [Value.ref a, Value.ref b] := .cons rfl (.cons rfl .nil)
    refine wpAny_call (codeAny_mono (F.run X.A.in1 X.stack s H ⟨[.ref a, .ref b], []⟩ [.ref a, .ref b] [.ref a, .ref b] _ _ hr1 e0 (by
      have := hb s [.ref a, .ref b] I.kIn (by simpa using hl)
      simpa using this) r2 q) fun r s' hq => ?_)
    cases r with
    | error e => exact pass0 pins σ H s e s' I hq
    | ok fl =>
      cases fl with
      | ret w' =>
        obtain ⟨z, H', I', rz, c, ez, qz⟩ := I.after hq
        subst ez
        cases rz
        exact ⟨c, rfl, .bl (!c), H', I', rfl, qz⟩
      | next => exact False.elim hq
      | brk => exact False.elim hq
      | cont => exact False.elim hq
  have one : wpAny (model X.prog X.w) X.A (tryCompare (.ref a) "__ne__" (.ref b)) (fun r s' => ∃ v, r = some v ∧ EP X pins σ Q v s') X.xe s := by
    unfold tryCompare
    refine wpAny_bind (ifBound_B I.kIn J Z.ne bind_ne (wpAny_call (codeAny_call_builtin PySem.F.cmp_object.ne.plain PySem.F.cmpEntry_ne
      (PySem.W.check_slot PySem.F.cmpKind_ne PySem.F.cmpSplit_ne sub (PySem.F.cmpArgs_ne _ _) (ne_body I.kIn J Z.eq Z.fn (by show X.A.units + 1 < cLine; exact hu) (wpAny_mono run (fun v s' hv => ?_) fun _ _ e => e))))))
    obtain ⟨c, rfl, hq⟩ := hv
    first | exact ⟨c, rfl, wpAny_pure ⟨_, rfl, hq⟩⟩ | exact ⟨c, rfl, _, rfl, hq⟩
  unfold richCompare
  simp only [oneThing_ref]
  refine wpAny_holding (wpAny_bind (wpAny_cRoomFor hu0 ?_))
  rw [cmpInfo_NotEq]
  dsimp only
  refine wpAny_bind (J.type.here (wpAny_bind (J'.type.here ?_)))
  rw [show (Value.ref C != Value.ref C) = false from by simp]
  simp only [Bool.false_eq_true, if_false]
  refine wpAny_bind (wpAny_pure ?_)
  simp only [Bool.false_eq_true, if_false]
  refine wpAny_bind (wpAny_mono one (fun r s' z => ?_) fun _ _ e => e)
  obtain ⟨v, rfl, hq⟩ := z
  exact wpAny_pure hq
end
end NeO

namespace NeO
open PySem PySem.Spec PyProof.Rows L2
section
variable {X : Cx} {k : Nat} {C f : Addr} {fd : FuncData} {ps : List Str} {sp : Sp} {pins : List (Addr × Obj)} {σ : L2.St} {H : Hp} {s : Shared}
/-- a def called with these values, at a place with the frames of X -/
theorem run_own {A : Around} {us : List Value} {vs : List V} {Q : VK} (F : FnOk X.prog X.w X.K X.mg X.base CX0 k f fd ps sp) (hr : Room k A) (hfr : A.frames = X.A.frames) (hb : Binds X.K fd ps []) (I : Inv X pins σ H s) (r : Vals vs us) (q : sp vs H Q fun _ _ _ => False) :
    wpAny (model X.prog X.w) A (call (.ref f) us) (EP X pins σ Q) X.xe s := by
  have e0 : Env0 X.prog X.w X.K X.mg X.base A X.stack s H := by
    have e := I.env0
    exact ⟨by rw [hfr]; exact e.frames, e.mod, e.bs, e.bsz, e.funs, e.frf, e.hok, e.bare⟩
  have hl : us.length = ps.length := by rw [← r.length]; exact F.len _ _ _ _ q
  refine wpAny_call (codeAny_mono (F.run A X.stack s H ⟨us, []⟩ us vs _ _ hr e0 (by
    have := hb s us I.kIn (by simpa using hl)
    simpa using this) r q) fun r s' hq => ?_)
  cases r with
  | error e => exact pass0 pins σ H s e s' I hq
  | ok fl =>
    cases fl with
    | ret w' => exact I.after hq
    | next => exact False.elim hq
    | brk => exact False.elim hq
    | cont => exact False.elim hq
/-- a == b of two instances of a class with its own == -/
def rEqI (C : Addr) (sp : Sp) : R2 := fun x y H Q => ∃ (a b : Addr) (dx dy : Addr) (fs gs : List (Str × V)), x = .ref a ∧ y = .ref b ∧ H a = some (.ins C dx fs) ∧ H b = some (.ins C dy gs) ∧
  sp [.ref a, .ref b] H (fun v H' => ∃ c : Bool, v = .bl c ∧ Q (.bl c) H') fun _ _ _ => False
theorem op_eqI (h1 : PySem.W.findIn X.K (.ref C) "__eq__" = some (some (.ref f))) (h2 : PySem.W.isFn X.K (.ref f) = true) (F : FnOk X.prog X.w X.K X.mg X.base CX0 k f fd ps sp) (hr : Room k X.A) (hb : Binds X.K fd ps []) : OpR X (compareOp .Eq) (rEqI C sp) := by
  intro pins s σ H x y v u Q I rx ry hq
  obtain ⟨a, b, dx, dy, fs, gs, rfl, rfl, ha, hb', q⟩ := hq
  cases rx
  cases ry
  obtain ⟨mA, J, _⟩ := ins_get I.hok ha
  obtain ⟨mB, J', _⟩ := ins_get I.hok hb'
  obtain ⟨od, J, _⟩ := J.look
  obtain ⟨od', J', _⟩ := J'.look
  obtain ⟨m, hF⟩ := I.fr
  show wpAny (model X.prog X.w) X.A (richCompare .Eq (.ref a) (.ref b)) (EP X pins σ Q) X.xe s
  refine PySem.W.cmp_K (op := .Eq) (tb := .ref C) hr.units0 hF I.ok.mod.kin J J'.type (by simp [PySem.W.notFirst]) h1 h2 ?_
  refine wpAny_mono (run_own (vs := [V.ref a, V.ref b]) F hr rfl hb I (.cons rfl (.cons rfl .nil)) q) (fun v s' hv => ?_) fun _ _ e => e
  obtain ⟨z, H', I', rz, c, ez, qz⟩ := hv
  subst ez
  cases rz
  exact ⟨.bl c, H', I', rfl, qz⟩
/-- a + b (- *) of two instances of a class with its own __add__ (..), which makes an object -/
def rBinI (C : Addr) (sp : Sp) : R2 := fun x y H Q => ∃ (a b : Addr) (dx dy : Addr) (fs gs : List (Str × V)), x = .ref a ∧ y = .ref b ∧ H a = some (.ins C dx fs) ∧ H b = some (.ins C dy gs) ∧
  sp [.ref a, .ref b] H (fun v H' => ∃ p : Addr, v = .ref p ∧ Q (.ref p) H') fun _ _ _ => False
theorem op_binI {op : Operator} (h0 : PySem.W.selfFirst X.K C = true) (h1 : PySem.W.findIn X.K (.ref C) (PySem.dunder op.info.2) = some (some (.ref f))) (h2 : PySem.W.isFn X.K (.ref f) = true) (F : FnOk X.prog X.w X.K X.mg X.base CX0 k f fd ps sp) (hr : Room k X.A) (hb : Binds X.K fd ps []) : OpR X (binaryOp op) (rBinI C sp) := by
  intro pins s σ H x y v u Q I rx ry hq
  obtain ⟨a, b, dx, dy, fs, gs, rfl, rfl, ha, hb', q⟩ := hq
  cases rx
  cases ry
  obtain ⟨mA, J, _⟩ := ins_get I.hok ha
  obtain ⟨mB, J', _⟩ := ins_get I.hok hb'
  obtain ⟨od, J, _⟩ := J.look
  obtain ⟨od', J', _⟩ := J'.look
  obtain ⟨m, hF⟩ := I.fr
  refine PySem.W.binop_K hF I.ok.mod.kin J J'.type h0 h1 h2 ?_
  refine wpAny_mono (run_own (vs := [V.ref a, V.ref b]) F hr rfl hb I (.cons rfl (.cons rfl .nil)) q) (fun v s' hv => ?_) fun _ _ e => e
  obtain ⟨z, H', I', rz, p, ez, qz⟩ := hv
  subst ez
  cases rz
  exact ⟨.ref p, H', I', rfl, qz⟩
/-- repr(a) by an own __repr__ -/
def rReprI (C : Addr) (sp : Sp) : List V → Hp → VK → Prop := fun xs H Q => ∃ (a dx : Addr) (fs : List (Str × V)), xs = [.ref a] ∧ H a = some (.ins C dx fs) ∧ sp [.ref a] H (fun v H' => ∃ t : Str, v = .str t ∧ Q (.str t) H') fun _ _ _ => False
theorem call_reprI (h1 : PySem.W.findIn X.K (.ref C) "__repr__" = some (some (.ref f))) (h2 : PySem.W.isFn X.K (.ref f) = true) (F : FnOk X.prog X.w X.K X.mg X.base CX0 k f fd ps sp) (hr : Room (k + 1) X.A) (hb : Binds X.K fd ps []) : CallR X (.builtin "repr") (rReprI C sp) := by
  intro pins s σ H xs us Q I r hq
  obtain ⟨a, dx, fs, rfl, ha, q⟩ := hq
  obtain rfl : us = [Value.ref a] := Vals.ref1 r
  obtain ⟨mA, J, _⟩ := ins_get I.hok ha
  obtain ⟨od, J, _⟩ := J.look
  obtain ⟨m, hF⟩ := I.fr
  have hr1 : Room k X.A.in1 := hr.in1
  refine PySem.W.repr_K hr1.units0 hF I.ok.mod.kin J h1 h2 ?_
  refine wpAny_mono (run_own (A := X.A.in1) (vs := [V.ref a]) F hr1 rfl hb I (.cons rfl .nil) q) (fun v s' hv => ?_) fun _ _ e => e
  obtain ⟨z, H', I', rz, t, ez, qz⟩ := hv
  subst ez
  obtain ⟨tk, rfl⟩ := rz
  exact ⟨.str t, H', I', ⟨tk, rfl⟩, qz⟩
end
end NeO

namespace NeO
open PySem PySem.Spec PyProof.Rows L2
section
variable {X : Cx} {k : Nat} {C f : Addr} {fd : FuncData} {ps : List Str} {sp : Sp} {pins : List (Addr × Obj)} {σ : L2.St} {H : Hp} {s : Shared}
/-- a == y of an instance of a class with its own == and any value of known type -/
def rEqV (K : PySem.W.Frag) (C : Addr) (sp : Sp) : R2 := fun x y H Q => ∃ (a dx : Addr) (fs : List (Str × V)) (t : Value), x = .ref a ∧ H a = some (.ins C dx fs) ∧ TyX K H y t ∧ PySem.W.notFirst K C t = true ∧
  sp [.ref a, y] H (fun v H' => ∃ c : Bool, v = .bl c ∧ Q (.bl c) H') fun _ _ _ => False
theorem op_eqV (h1 : PySem.W.findIn X.K (.ref C) "__eq__" = some (some (.ref f))) (h2 : PySem.W.isFn X.K (.ref f) = true) (F : FnOk X.prog X.w X.K X.mg X.base CX0 k f fd ps sp) (hr : Room k X.A) (hb : Binds X.K fd ps []) : OpR X (compareOp .Eq) (rEqV X.K C sp) := by
  intro pins s σ H x y v u Q I rx ry hq
  obtain ⟨a, dx, fs, t, rfl, ha, ty, nf, q⟩ := hq
  cases rx
  obtain ⟨mA, J, _⟩ := ins_get I.hok ha
  obtain ⟨od, J, _⟩ := J.look
  obtain ⟨m, hF⟩ := I.fr
  obtain ⟨P, Z, p, hx⟩ := kit_of I ry ty
  show wpAny (model X.prog X.w) X.A (richCompare .Eq (.ref a) u) (EP X pins σ Q) X.xe s
  refine PySem.W.cmp_K (op := .Eq) (tb := t) hr.units0 hF I.ok.mod.kin J (Z.ty _ _ I.kIn p) nf h1 h2 ?_
  refine wpAny_mono (run_own (vs := [V.ref a, y]) F hr rfl hb I (.cons rfl (.cons ry .nil)) q) (fun v s' hv => ?_) fun _ _ e => e
  obtain ⟨z, H', I', rz, c, ez, qz⟩ := hv
  subst ez
  cases rz
  exact ⟨.bl c, H', I', rfl, qz⟩
end
end NeO

namespace Tk
open PySem PySem.Spec PyProof.Rows L2
/-- what the rule of repr asks of data -/
structure RepOk (d : PyData) : Prop where
  sh : d.showable = true
  nd : d.hasDict = false
  dp : d.depth ≤ 50
  sz : d.shown.length ≤ sizeLine
theorem log2_lt {k : Nat} (h : k < 10 ^ 12) : k.log2 < 40 := by
  by_cases h0 : k = 0
  · subst h0; decide
  · have := (Nat.log2_lt h0 (k := 40)).mpr (Nat.lt_of_lt_of_le h (by decide))
    exact this
theorem ints_facts : ∀ {ns : List Int}, (∀ n ∈ ns, n.natAbs < 10 ^ 12) → PyData.showableAll (ns.map .int) = true ∧ PyData.hasDictAll (ns.map .int) = false ∧ PyData.depthAll (ns.map .int) = 0 ∧ PyData.canLayAll0 (ns.map .int) = true ∧ PyData.weightAll (ns.map .int) ≤ 42 * ns.length
  | [], _ => ⟨by simp [PyData.showableAll], by simp [PyData.hasDictAll], by simp [PyData.depthAll], by simp [PyData.canLayAll0], by simp [PyData.weightAll]⟩
  | n :: ns, h => by
    obtain ⟨a, b, c, d, e⟩ := ints_facts (ns := ns) fun m hm => h m (List.mem_cons_of_mem _ hm)
    have hn := log2_lt (h n (List.mem_cons_self ..))
    refine ⟨?_, ?_, ?_, ?_, ?_⟩
    · simp only [List.map_cons, PyData.showableAll, PyData.showable, a, Bool.and_true, decide_eq_true_eq]; omega
    · simp only [List.map_cons, PyData.hasDictAll, PyData.hasDict, b, Bool.or_false]
    · simp only [List.map_cons, PyData.depthAll, PyData.depth, c, Nat.max_self]
    · simp only [List.map_cons, PyData.canLayAll0, PyData.canLay0, d, Bool.and_true]
    · simp only [List.map_cons, PyData.weightAll, PyData.weight, List.length_cons]
      split <;> omega
theorem rep_ints {ns : List Int} (h : ∀ n ∈ ns, n.natAbs < 10 ^ 12) (hl : ns.length ≤ 1000) : RepOk (.list (ns.map .int)) := by
  obtain ⟨a, b, c, d, e⟩ := ints_facts h
  refine ⟨by simp only [PyData.showable]; exact a, by simp only [PyData.hasDict]; exact b, by simp only [PyData.depth]; omega, ?_⟩
  refine PyData.shown_fits (B := 13) (by decide) (by decide) ?_ ?_
  · simp only [PyData.leavesShort]
    exact PyData.leavesShortAll_of_canLay0 13 _ d (PyData.intsShortAll_ints ns h)
  · simp only [PyData.weight]; omega
theorem bools_facts : ∀ (bs : List Bool), PyData.showableAll (bs.map .bool) = true ∧ PyData.hasDictAll (bs.map .bool) = false ∧ PyData.depthAll (bs.map .bool) = 0 ∧ PyData.canLayAll0 (bs.map .bool) = true ∧ PyData.weightAll (bs.map .bool) ≤ 42 * bs.length
  | [] => ⟨by simp [PyData.showableAll], by simp [PyData.hasDictAll], by simp [PyData.depthAll], by simp [PyData.canLayAll0], by simp [PyData.weightAll]⟩
  | n :: ns => by
    obtain ⟨a, b, c, d, e⟩ := bools_facts ns
    refine ⟨?_, ?_, ?_, ?_, ?_⟩
    · simp only [List.map_cons, PyData.showableAll, PyData.showable, a, Bool.and_true]
    · simp only [List.map_cons, PyData.hasDictAll, PyData.hasDict, b, Bool.or_false]
    · simp only [List.map_cons, PyData.depthAll, PyData.depth, c, Nat.max_self]
    · simp only [List.map_cons, PyData.canLayAll0, PyData.canLay0, d, Bool.and_true]
    · simp only [List.map_cons, PyData.weightAll, PyData.weight, List.length_cons]
      omega
theorem rep_bools {bs : List Bool} (hl : bs.length ≤ 1000) : RepOk (.list (bs.map .bool)) := by
  obtain ⟨a, b, c, d, e⟩ := bools_facts bs
  refine ⟨by simp only [PyData.showable]; exact a, by simp only [PyData.hasDict]; exact b, by simp only [PyData.depth]; omega, ?_⟩
  refine PyData.shown_fits (B := 13) (by decide) (by decide) ?_ ?_
  · simp only [PyData.leavesShort]
    exact PyData.leavesShortAll_of_canLay0 13 _ d (PyData.intsShortAll_bools 13 bs)
  · simp only [PyData.weight]; omega

/-! ## calls with keywords alone, named in the parameters' order from behind -/
def tKwR (m : Nat) (sp : Sp) (t : L2.TA) : TE := fun σ H Q => t σ H fun zs H1 => zs.length = m ∧ sp zs.reverse H1 Q E0
section
variable {X : Cx} {k : Nat} {f : Addr} {fd : FuncData} {ps ks : List Str} {sp : Sp} {x : Str} {p pos : Pos} {kws : List Keyword} {t : L2.TA}
theorem vals_app {xs ys : List V} {us ws : List Value} (h : Vals xs us) (g : Vals ys ws) : Vals (xs ++ ys) (us ++ ws) := h.append g
theorem vals_rev : ∀ {xs : List V} {us : List Value}, Vals xs us → Vals xs.reverse us.reverse
  | _, _, .nil => .nil
  | _, _, .cons r t => by
    rw [List.reverse_cons, List.reverse_cons]
    exact (vals_rev t).append (.cons r .nil)
theorem pe_kwR (F : FnOk X.prog X.w X.K X.mg X.base CX0 k f fd ps sp) (hr : Room k X.A) (hg : Gl X x) (hm : X.mg x = some (.ref f)) (hk : PySem.W.keepIn X.K (.ref f) = true)
    (hb : ∀ (s : Shared) (ws : List Value), ws.length = ks.length → BindsTo s fd ⟨[], ks.zip ws⟩ (ps.zip ws.reverse))
    (hkw : PK X kws t) (hall : (backToKw pos (keywordEach kws X.env)).all (·.1.isSome) = true := by rfl) (hks : (backToKw pos (keywordEach kws X.env)).filterMap (·.1) = ks := by rfl) (hdb : (x == ("__debug__" : Str)) = false := by decide)
    (hpl : ((backTo pos (starEach [] X.env)).any (·.1) || (backToKw pos (keywordEach kws X.env)).any (·.1.isNone)) = false := by rfl) :
    PE X (.Call (.Name x p) [] kws pos) (tKwR ks.length sp t) := by
  constructor
  intro pins s σ H Q I h
  apply wpAny_Call_Name_kw
  apply ld_glob I hg hm _ hdb
  refine PySem.W.callWith_KW0 (h₀ := X.base) I.ok.mod.kin hk hall (thn (hkw.run pos pins s σ H _ I h) ?_) hpl
  rintro ws s1 ⟨zs, H1, I1, rv, lz, q⟩
  refine ⟨I1.kIn, ?_⟩
  rw [hks]
  have lw : ws.length = ks.length := by rw [← rv.length]; exact lz
  apply wpAny_call
  refine codeAny_mono (F.run X.A X.stack s1 H1 ⟨[], ks.zip ws⟩ ws.reverse zs.reverse Q E0 hr I1.env0 (hb s1 ws lw) (vals_rev rv) q) ?_
  intro r s' hq
  cases r with
  | error er => exact hq.elim
  | ok fl =>
    cases fl with
    | ret u => exact I1.after hq
    | next => exact hq.elim
    | brk => exact hq.elim
    | cont => exact hq.elim
end
end Tk
namespace Tk
open PySem
structure GoodD (d : PyData) (k W : Nat) : Prop where
  sh : d.showable = true
  nd : d.hasDict = false
  dp : d.depth ≤ k
  cl : d.canLay0 = true
  ish : d.intsShort 13 = true
  wt : d.weight ≤ W
structure GoodA (ds : List PyData) (k W : Nat) : Prop where
  sh : PyData.showableAll ds = true
  nd : PyData.hasDictAll ds = false
  dp : PyData.depthAll ds ≤ k
  cl : PyData.canLayAll0 ds = true
  ish : PyData.intsShortAll 13 ds = true
  wt : PyData.weightAll ds ≤ W
theorem goodA_ints {ns : List Int} (h : ∀ n ∈ ns, n.natAbs < 10 ^ 12) : GoodA (ns.map .int) 0 (42 * ns.length) := by
  obtain ⟨a, b, c, d, e⟩ := ints_facts h
  exact ⟨a, b, by omega, d, PyData.intsShortAll_ints ns h, e⟩
theorem goodD_list {ds : List PyData} {k W : Nat} (g : GoodA ds k W) : GoodD (.list ds) (k + 1) (W + 64) := by
  refine ⟨by simp only [PyData.showable]; exact g.sh, by simp only [PyData.hasDict]; exact g.nd, ?_, by simp only [PyData.canLay0]; exact g.cl, by simp only [PyData.intsShort]; exact g.ish, ?_⟩
  · have := g.dp
    simp only [PyData.depth]; omega
  · have := g.wt
    simp only [PyData.weight]; omega
theorem goodA_nil {k : Nat} : GoodA [] k 64 := ⟨by simp [PyData.showableAll], by simp [PyData.hasDictAll], by simp [PyData.depthAll], by simp [PyData.canLayAll0], by simp [PyData.intsShortAll], by simp [PyData.weightAll]⟩
theorem goodA_cons {d : PyData} {ds : List PyData} {k W1 W2 : Nat} (g : GoodD d k W1) (h : GoodA ds k W2) : GoodA (d :: ds) k (W1 + W2 + 64) := by
  refine ⟨?_, ?_, ?_, ?_, ?_, ?_⟩
  · simp only [PyData.showableAll, g.sh, h.sh]; rfl
  · simp only [PyData.hasDictAll, g.nd, h.nd]; rfl
  · have a := g.dp
    have b := h.dp
    simp only [PyData.depthAll]; omega
  · simp only [PyData.canLayAll0, g.cl, h.cl]; rfl
  · simp only [PyData.intsShortAll, g.ish, h.ish]; rfl
  · have a := g.wt
    have b := h.wt
    simp only [PyData.weightAll]; omega
theorem goodD_rep {d : PyData} {k W : Nat} (g : GoodD d k W) (hk : k ≤ 50) (hW : W ≤ 100000) : RepOk d :=
  ⟨g.sh, g.nd, Nat.le_trans g.dp hk, PyData.shown_fits (B := 13) (by decide) (by decide) (PyData.leavesShort_of_canLay0 13 d g.cl g.ish) (by have := g.wt; omega)⟩
theorem goodD_mono {d : PyData} {k W W' : Nat} (g : GoodD d k W) (h : W ≤ W') : GoodD d k W' := ⟨g.sh, g.nd, g.dp, g.cl, g.ish, Nat.le_trans g.wt h⟩
/-- short lists of small ints -/
theorem goodA_rows : ∀ {os : List (List Int)}, (∀ o ∈ os, o.length ≤ 6 ∧ ∀ x ∈ o, x.natAbs < 10 ^ 12) → GoodA (os.map fun o => PyData.list (o.map .int)) 1 (400 * os.length + 64)
  | [], _ => goodA_nil
  | o :: os, h => by
    have ho := h o (List.mem_cons_self ..)
    have g1 : GoodD (.list (o.map .int)) 1 316 := goodD_mono (goodD_list (goodA_ints ho.2)) (by have := ho.1; omega)
    have g2 := goodA_rows (os := os) fun p hp => h p (List.mem_cons_of_mem _ hp)
    have g := goodA_cons g1 g2
    refine ⟨g.sh, g.nd, g.dp, g.cl, g.ish, Nat.le_trans g.wt ?_⟩
    rw [List.length_cons]
    omega
theorem rows_rep {os : List (List Int)} (h : ∀ o ∈ os, o.length ≤ 6 ∧ ∀ x ∈ o, x.natAbs < 10 ^ 12) (hl : os.length ≤ 6) : GoodD (.list (os.map fun o => PyData.list (o.map .int))) 2 3000 := goodD_mono (goodD_list (goodA_rows h)) (by omega)
end Tk

namespace NeO
open PySem PySem.Spec PyProof.Rows L2
section
variable {X : Cx} {k : Nat} {C f : Addr} {fd : FuncData} {ps : List Str} {sp : Sp} {pins : List (Addr × Obj)} {σ : L2.St} {H : Hp} {s : Shared}
/-- a + i (- *), a of a class with its own __add__ (..), i an int -/
def rBinT (C : Addr) (sp : Sp) : R2 := fun x y H Q => ∃ (a dx : Addr) (fs : List (Str × V)) (i : Int), x = .ref a ∧ y = .int i ∧ H a = some (.ins C dx fs) ∧
  sp [.ref a, .int i] H (fun v H' => ∃ p : Addr, v = .ref p ∧ Q (.ref p) H') fun _ _ _ => False
/-- what class and type give for it -/
structure BinT (K : PySem.W.Frag) (C f : Addr) (nm : String) : Prop where
  first : PySem.W.selfFirst K C = true
  own : PySem.W.findIn K (.ref C) (PySem.dunder nm) = some (some (.ref f))
  fn : PySem.W.isFn K (.ref f) = true
  back : ∃ rc, PySem.W.findIn K (.ref C) (dunderR nm) = some rc ∧ (rc = none ∨ ∃ g : Addr, rc = some (.ref g))
  tf : ∃ fo, PySem.W.findIn K (.type "int") (PySem.dunder nm) = some fo
  tr : ∃ ro, PySem.W.findIn K (.type "int") (dunderR nm) = some ro
  sub : PySem.W.subIn K (.type "int") (.ref C) = some false
theorem op_binT {op : Operator} (Z : BinT X.K C f op.info.2) (F : FnOk X.prog X.w X.K X.mg X.base CX0 k f fd ps sp) (hr : Room k X.A) (hb : Binds X.K fd ps []) : OpR X (binaryOp op) (rBinT C sp) := by
  intro pins s σ H x y v u Q I rx ry hq
  obtain ⟨a, dx, fs, i, rfl, rfl, ha, q⟩ := hq
  cases rx
  obtain ⟨ti, rfl⟩ := ry
  obtain ⟨mA, J, _⟩ := ins_get I.hok ha
  obtain ⟨od, J, _⟩ := J.look
  obtain ⟨m, hF⟩ := I.fr
  obtain ⟨rc, h3, h4⟩ := Z.back
  obtain ⟨fo, h5⟩ := Z.tf
  obtain ⟨ro, h6⟩ := Z.tr
  refine PySem.W.ksp_binT (T := "int") hF I.ok.mod.kin J rfl Z.first Z.own Z.fn h3 h4 h5 h6 Z.sub ?_
  refine wpAny_mono (run_own (vs := [V.ref a, V.int i]) F hr rfl hb I (.cons rfl (.cons ⟨ti, rfl⟩ .nil)) q) (fun v s' hv => ?_) fun _ _ e => e
  obtain ⟨z, H', I', rz, p, ez, qz⟩ := hv
  subst ez
  cases rz
  exact ⟨.ref p, H', I', rfl, qz⟩
/-- -a by an own __neg__ -/
theorem neg_own {pins : List (Addr × Obj)} {a dx : Addr} {fs : List (Str × V)} {Q : VK} (h1 : PySem.W.findIn X.K (.ref C) "__neg__" = some (some (.ref f))) (h2 : PySem.W.isFn X.K (.ref f) = true) (F : FnOk X.prog X.w X.K X.mg X.base CX0 k f fd ps sp) (hr : Room k X.A) (hb : Binds X.K fd ps [])
    (I : Inv X pins σ H s) (ha : H a = some (.ins C dx fs)) (q : sp [.ref a] H Q fun _ _ _ => False) : wpAny (model X.prog X.w) X.A (unaryOp .USub (.ref a)) (EP X pins σ Q) X.xe s := by
  obtain ⟨mA, J, _⟩ := ins_get I.hok ha
  obtain ⟨od, J, _⟩ := J.look
  obtain ⟨m, hF⟩ := I.fr
  exact PySem.W.ksp_neg hF I.ok.mod.kin J h1 h2 (run_own (vs := [V.ref a]) F hr rfl hb I (.cons rfl .nil) q)
end
end NeO
namespace NeO
open PySem PySem.W PySem.Spec PyProof.Rows
section
variable {M : Model} {prog : Program} {w : World} {A : Around} {E : Value → Shared → Prop} {s : Shared} {K : Frag}
/-- int's own method declines an instance -/
theorem int_declines {nm : String} {f : Int → Int → Sem Fin} {i : Int} {t : Tok} {b C dx : Addr} {Q : Fin → Shared → Prop} (hx : s.heap.get? b = some (instObj C dx)) (h : Q (.done (.ret .notImplemented)) s) :
    wpAny M A (Builtin.Int.intBinary nm f false ⟨[.int i t, .ref b], []⟩) Q E s := by
  unfold Builtin.Int.intBinary Builtin.Int.intOfSelf asInt?
  repeat (first | (with_reducible refine wpAny_load_at hx ?_) | wp_step)
  exact h
/-- what int has for the operator -/
structure IntSlot (nm : String) : Prop where
  ex : ∃ (id : String) (name : String) (f : Int → Int → Sem Fin), Slot "int" (dunder nm) id ∧ entryFor table id = some (Builtin.Int.intBinary name f false) ∧ ∀ a b : Value, argsOk id ⟨[a, b], []⟩
  fills : fillsNumberSlot (.type "int") nm = pure true
theorem int_add : IntSlot "add" := ⟨⟨_, _, _, PySem.F.slot_int_add, PySem.F.entry_int_add, fun a b => PySem.F.args_int_add_2 a b⟩, PySem.F.fills_int_add⟩
theorem int_sub : IntSlot "sub" := ⟨⟨_, _, _, PySem.F.slot_int_sub, PySem.F.entry_int_sub, fun a b => PySem.F.args_int_sub_2 a b⟩, PySem.F.fills_int_sub⟩
theorem int_mul : IntSlot "mul" := ⟨⟨_, _, _, PySem.F.slot_int_mul, PySem.F.entry_int_mul, fun a b => PySem.F.args_int_mul_2 a b⟩, PySem.F.fills_int_mul⟩
theorem rbin_K {op : Operator} {i : Int} {t : Tok} {b C dx f f' : Addr} {od : Option Obj} {Q : Value → Shared → Prop} (Z : IntSlot op.info.2) (X : K.In s.heap) (hx : s.heap.get? b = some (instObj C dx)) (I : InstAt s.heap b (instObj C dx) C od)
    (hc : selfFirst K C = true) (hs : findIn K (.ref C) (PySem.dunder op.info.2) = some (some (.ref f'))) (hr : findIn K (.ref C) (dunderR op.info.2) = some (some (.ref f))) (hf : isFn K (.ref f) = true) (hsub : subIn K (.ref C) (.type "int") = some false)
    (h : wpAny (model prog w) A (call (.ref f) [.ref b, .int i t]) (PySem.W.CmpBack Q) E s) : wpAny (model prog w) A (binaryOp op (.int i t) (.ref b)) Q E s := by
  obtain ⟨cd, rest, hcd, hm⟩ := ksp_first hc
  obtain ⟨⟨id, name, g, sl, en, ar⟩, fl⟩ := Z
  rcases hi : op.info with ⟨sym, nm'⟩
  rw [hi] at hs hr sl fl
  dsimp only at hs hr sl fl
  have one := ksp_try (M := model prog w) X I hr hf h
  have L2 : Looks (model prog w) s.heap (typeOf (.ref b)) (.ref C) := I.type
  have L3 : Looks (model prog w) s.heap (fillsNumberSlot (.ref C) nm') true := fills_K X hcd hm hs
  have L5 : Looks (model prog w) s.heap (isSubtype (.ref C) (.type "int")) false := looks_subIn X hsub
  have hne : (Value.type "int" == Value.ref C) = false := Bool.eq_false_iff.mpr fun q => by cases beq_iff_eq.mp q
  have hpy : numberSlotInPython (.type "int") nm' = pure false := rfl
  simp only [binaryOp, hi]
  refine wpAny_holding (wpAny_bind ?_)
  simp only [binaryOp1]
  refine wpAny_bind (wpAny_typeOf (typeIs_int s i t) (wpAny_bind (L2.at (wpAny_bind (wpAny_of_eq fl ?_)))))
  simp only [hne, Bool.false_eq_true, if_false]
  refine wpAny_bind (L3.at ?_)
  simp only [Bool.and_self, if_true]
  refine wpAny_bind (L5.at ?_)
  simp only [Bool.false_eq_true, if_false, pure_bind, Bool.not_false, Bool.and_self, if_true, hpy]
  refine wpAny_bind (wpAny_tryMethod_declines (typeIs_int s i t) sl (wpAny_call_entry sl (typeIs_int s i t) en (int_declines hx ⟨_, rfl, rfl, ?_⟩) (ar _ _)))
  simp only []
  refine wpAny_bind (wpAny_mono one (fun r s' hr' => ?_) fun _ _ e => e)
  obtain ⟨v, rfl, hq⟩ := hr'
  repeat (first | exact hq | wp_step)
end
end NeO
namespace NeO
open PySem PySem.Spec PyProof.Rows L2
section
variable {X : Cx} {k : Nat} {C f : Addr} {fd : FuncData} {ps : List Str} {sp : Sp} {pins : List (Addr × Obj)} {σ : L2.St} {H : Hp} {s : Shared}
/-- i + b (- *), i an int, b of a class with its own __radd__ (..) -/
def rBinR (C : Addr) (sp : Sp) : R2 := fun x y H Q => ∃ (b dx : Addr) (fs : List (Str × V)) (i : Int), x = .int i ∧ y = .ref b ∧ H b = some (.ins C dx fs) ∧
  sp [.ref b, .int i] H (fun v H' => ∃ p : Addr, v = .ref p ∧ Q (.ref p) H') fun _ _ _ => False
structure BinR (K : PySem.W.Frag) (C f : Addr) (nm : String) : Prop where
  first : PySem.W.selfFirst K C = true
  own : ∃ g : Addr, PySem.W.findIn K (.ref C) (PySem.dunder nm) = some (some (.ref g))
  back : PySem.W.findIn K (.ref C) (dunderR nm) = some (some (.ref f))
  fn : PySem.W.isFn K (.ref f) = true
  sub : PySem.W.subIn K (.ref C) (.type "int") = some false
theorem op_binR {op : Operator} (N : IntSlot op.info.2) (Z : BinR X.K C f op.info.2) (F : FnOk X.prog X.w X.K X.mg X.base CX0 k f fd ps sp) (hr : Room k X.A) (hb : Binds X.K fd ps []) : OpR X (binaryOp op) (rBinR C sp) := by
  intro pins s σ H x y v u Q I rx ry hq
  obtain ⟨b, dx, fs, i, rfl, rfl, hb', q⟩ := hq
  cases ry
  obtain ⟨ti, rfl⟩ := rx
  obtain ⟨mB, J, _⟩ := ins_get I.hok hb'
  obtain ⟨od, J, _⟩ := J.look
  obtain ⟨_, _, _, hx, _⟩ := (show ObjOk X.prog X.w H s.heap b (.ins C dx fs) from I.hok b _ hb')
  obtain ⟨g, hg⟩ := Z.own
  refine rbin_K N I.kIn hx J Z.first hg Z.back Z.fn Z.sub ?_
  refine wpAny_mono (run_own (vs := [V.ref b, V.int i]) F hr rfl hb I (.cons rfl (.cons ⟨ti, rfl⟩ .nil)) q) (fun v s' hv => ?_) fun _ _ e => e
  obtain ⟨z, H', I', rz, p, ez, qz⟩ := hv
  subst ez
  cases rz
  exact ⟨.ref p, H', I', rfl, qz⟩
end
end NeO
namespace NeO
open PySem PySem.Spec PyProof.Rows L2
section
variable {X : Cx} {CXV : CXT} {k i : Nat} {f C : Addr} {fd : FuncData} {ps : List Str} {sp : Sp} {ds : List Value} {dvs : List V} {E : XK} {x : Str} {p pos : Pos} {e : Expr} {es : List Expr} {t : L2.TA}
/-- c(..), the local c (slot i) holding the class at C -/
def tMakeL (i : Nat) (C : Addr) (sp : Sp) (dvs : List V) (E : XK) (t : L2.TA) : TE := fun σ H Q => σ[i]? = some (some (.ref C)) ∧ t σ H fun vs H1 => ∀ x dx, H1 x = none → H1 dx = none → dx ≠ x →
  sp (.ref x :: (vs ++ dvs)) (upd (upd H1 dx (.own x)) x (.ins C dx [])) (fun v H2 => v = .non ∧ Q (.ref x) H2) E
theorem pe_makeL (M : Mk X.K C f) (F : FnOk X.prog X.w X.K X.mg X.base CXV k f fd ps sp) (hr : Room (k + 1) X.A) (hN : X.N[i]? = some x) (hv : Vis X.env.scope x) (hb : Binds X.K fd ps ds) (hd : Vals dvs ds) (hx : Passes CXV X E) (ha : PA X (e :: es) t)
    (hdb : (x == ("__debug__" : Str)) = false := by decide) (hcd : (x == ("__classdict__" : Str)) = false := by decide)
    (he : starEach (e :: es) X.env = (false, eval e X.env) :: starEach es X.env := by rfl) (hpl : (backTo pos (starEach es X.env)).any (·.1) = false := by rfl) : PE X (.Call (.Name x p) (e :: es) [] pos) (tMakeL i C sp dvs E t) := by
  refine ⟨fun pins s σ H Q I h => ?_⟩
  obtain ⟨hs, ht⟩ := h
  refine wpAny_Call_Name_kw (thn ((pe_var (pos := p) hN hv hdb hcd).run pins s σ H (fun v H1 => v = .ref C ∧ H1 = H) I ⟨.ref C, hs, rfl, rfl⟩) fun u s1 ⟨v, H1, I1, r1, q1⟩ => ?_)
  obtain ⟨rfl, rfl⟩ := q1
  cases r1
  refine PySem.W.callWith_K (h₀ := X.base) I.ok.mod.kin M.kp (thn (ha.run pos pins s1 σ _ _ I1 ht) fun us s2 ⟨vs, H2, I2, r, q⟩ => ⟨I2.kIn, ?_⟩) he hpl
  exact run_make M F hr hb hd hx I2 r q
end
end NeO
/-! ## further rules for a class with own operators -/
namespace NeO
open PySem PySem.Spec PyProof.Rows L2
section
variable {X : Cx} {k : Nat} {C f : Addr} {fd : FuncData} {ps : List Str} {sp : Sp} {pins : List (Addr × Obj)} {σ : L2.St} {H : Hp} {s : Shared}
/-- -e by an own __neg__ -/
def tNegI (C : Addr) (sp : Sp) (te : TE) : TE := fun σ H Q => te σ H fun x H1 => ∃ (a dx : Addr) (fs : List (Str × V)), x = .ref a ∧ H1 a = some (.ins C dx fs) ∧ sp [.ref a] H1 Q fun _ _ _ => False
theorem un_negI (h1 : PySem.W.findIn X.K (.ref C) "__neg__" = some (some (.ref f))) (h2 : PySem.W.isFn X.K (.ref f) = true) (F : FnOk X.prog X.w X.K X.mg X.base CX0 k f fd ps sp) (hr : Room k X.A) (hb : Binds X.K fd ps []) : UnR X (unaryOp .USub) (fun x H Q => ∃ (a dx : Addr) (fs : List (Str × V)), x = .ref a ∧ H a = some (.ins C dx fs) ∧ sp [.ref a] H Q fun _ _ _ => False) := by
  intro pins s σ H x v Q I rx hq
  obtain ⟨a, dx, fs, rfl, ha, q⟩ := hq
  cases rx
  exact neg_own h1 h2 F hr hb I ha q
/-- str(a) by an own __str__ -/
theorem call_strI (h1 : PySem.W.findIn X.K (.ref C) "__str__" = some (some (.ref f))) (h2 : PySem.W.isFn X.K (.ref f) = true) (F : FnOk X.prog X.w X.K X.mg X.base CX0 k f fd ps sp) (hr : Room (k + 2) X.A) (hb : Binds X.K fd ps []) : CallR X (.type "str") (rReprI C sp) := by
  intro pins s σ H xs us Q I r hq
  obtain ⟨a, dx, fs, rfl, ha, q⟩ := hq
  obtain rfl : us = [Value.ref a] := Vals.ref1 r
  obtain ⟨mA, J, _⟩ := ins_get I.hok ha
  obtain ⟨od, J, _⟩ := J.look
  have hr2 : Room k X.A.in1.in1 := hr.in1.in1
  refine PySem.W.kso_call hr2.units0 I.kIn J h1 h2 ?_
  refine wpAny_mono (run_own (A := X.A.in1.in1) (vs := [V.ref a]) F hr2 rfl hb I (.cons rfl .nil) q) (fun v s' hv => ?_) fun _ _ e => e
  obtain ⟨z, H', I', rz, t, ez, qz⟩ := hv
  subst ez
  obtain ⟨tk, rfl⟩ := rz
  exact ⟨.str t, H', I', ⟨tk, rfl⟩, qz⟩
end
end NeO

namespace NeO
open PySem PySem.W PySem.Spec PyProof.Rows
section
variable {M : Model} {prog : Program} {w : World} {A : Around} {E : Value → Shared → Prop} {s : Shared} {K : Frag}
/-- int's own == declines an instance -/
theorem eq_declines {i : Int} {t : Tok} {b C dx : Addr} {Q : Fin → Shared → Prop} (hx : s.heap.get? b = some (instObj C dx)) (h : Q (.done (.ret .notImplemented)) s) :
    wpAny M A (Builtin.«int.__eq__» ⟨[.int i t, .ref b], []⟩) Q E s := by
  refine int_declines (nm := "__eq__") (f := _) hx h
/-- i == b, i an int, b of a class with its own == -/
theorem eqR_K {i : Int} {t : Tok} {b C dx f : Addr} {od : Option Obj} {Q : Value → Shared → Prop} (hu : A.units < cLine) (X : K.In s.heap) (hx : s.heap.get? b = some (instObj C dx)) (I : InstAt s.heap b (instObj C dx) C od)
    (hs : findIn K (.ref C) "__eq__" = some (some (.ref f))) (hf : isFn K (.ref f) = true) (hsub : subIn K (.ref C) (.type "int") = some false)
    (h : wpAny (model prog w) A (call (.ref f) [.ref b, .int i t]) (PySem.W.CmpBack Q) E s) : wpAny (model prog w) A (richCompare .Eq (.int i t) (.ref b)) Q E s := by
  have one : wpAny (model prog w) A (tryCompare (.ref b) "__eq__" (.int i t)) (fun r s' => ∃ v, r = some v ∧ Q v s') E s := by
    unfold tryCompare
    refine wpAny_bind (ifBound_K X I hs hf (wpAny_mono h (fun v s' hv => ?_) fun _ _ e => e))
    cases v <;> first | exact hv.elim | exact wpAny_pure ⟨_, rfl, hv⟩
  have hne : (Value.type "int" != Value.ref C) = true := by
    cases q : (Value.type "int" != Value.ref C) with
    | true => rfl
    | false =>
      have := bne_eq_false_iff_eq.mp q
      cases this
  have L5 : Looks (model prog w) s.heap (isSubtype (.ref C) (.type "int")) false := looks_subIn X hsub
  unfold richCompare
  have e1 : oneThing? .Eq (.int i t) (.ref b) = none := rfl
  simp only [e1]
  refine wpAny_holding (wpAny_bind (wpAny_cRoomFor hu ?_))
  refine wpAny_bind (wpAny_typeOf (typeIs_int s i t) (wpAny_bind (I.type.here ?_)))
  simp only [hne, if_true]
  refine wpAny_bind (L5.here ?_)
  simp only [Bool.false_eq_true, if_false]
  refine wpAny_bind (wpAny_tryCompare_declines (typeIs_int s i t) PySem.F.slot_int_eq (wpAny_call_entry PySem.F.slot_int_eq (typeIs_int s i t) PySem.F.entry_int_eq (eq_declines hx ⟨_, rfl, rfl, ?_⟩) (PySem.F.args_int_eq_2 _ _)))
  simp only [Bool.not_false, if_true]
  refine wpAny_bind (wpAny_mono one (fun r s' z => ?_) fun _ _ e => e)
  obtain ⟨v, rfl, hq⟩ := z
  exact wpAny_pure hq
end
end NeO
namespace NeO
open PySem PySem.Spec PyProof.Rows L2
section
variable {X : Cx} {k : Nat} {C f : Addr} {fd : FuncData} {ps ks : List Str} {sp : Sp} {pins : List (Addr × Obj)} {σ : L2.St} {H : Hp} {s : Shared}
/-- i == b -/
def rEqR (C : Addr) (sp : Sp) : R2 := fun x y H Q => ∃ (b dx : Addr) (fs : List (Str × V)) (i : Int), x = .int i ∧ y = .ref b ∧ H b = some (.ins C dx fs) ∧ sp [.ref b, .int i] H (fun v H' => ∃ c : Bool, v = .bl c ∧ Q (.bl c) H') fun _ _ _ => False
theorem op_eqR (h1 : PySem.W.findIn X.K (.ref C) "__eq__" = some (some (.ref f))) (h2 : PySem.W.isFn X.K (.ref f) = true) (h3 : PySem.W.subIn X.K (.ref C) (.type "int") = some false) (F : FnOk X.prog X.w X.K X.mg X.base CX0 k f fd ps sp) (hr : Room k X.A) (hb : Binds X.K fd ps []) : OpR X (compareOp .Eq) (rEqR C sp) := by
  intro pins s σ H x y v u Q I rx ry hq
  obtain ⟨b, dx, fs, i, rfl, rfl, hb', q⟩ := hq
  cases ry
  obtain ⟨ti, rfl⟩ := rx
  obtain ⟨mB, J, _⟩ := ins_get I.hok hb'
  obtain ⟨od, J, _⟩ := J.look
  obtain ⟨_, _, _, hx, _⟩ := (show ObjOk X.prog X.w H s.heap b (.ins C dx fs) from I.hok b _ hb')
  show wpAny (model X.prog X.w) X.A (richCompare .Eq (.int i ti) (.ref b)) (EP X pins σ Q) X.xe s
  refine eqR_K hr.units0 I.kIn hx J h1 h2 h3 ?_
  refine wpAny_mono (run_own (vs := [V.ref b, V.int i]) F hr rfl hb I (.cons rfl (.cons ⟨ti, rfl⟩ .nil)) q) (fun v s' hv => ?_) fun _ _ e => e
  obtain ⟨z, H', I', rz, c, ez, qz⟩ := hv
  subst ez
  cases rz
  exact ⟨.bl c, H', I', rfl, qz⟩
/-- o.m(k = v, ..), the keywords in the parameters' order behind the first one -/
def tMethK (C : Addr) (m : Str) (n : Nat) (sp : Sp) (ta : TE) (t : L2.TA) : TE := fun σ H Q => ta σ H fun x H1 => ∃ a dx fs, x = .ref a ∧ H1 a = some (.ins C dx fs) ∧ fs.lookup m = none ∧ t σ H1 fun zs H2 => zs.length = n ∧ sp (x :: zs) H2 Q E0
theorem pe_methK {o : Expr} {m : Str} {ta : TE} {t : L2.TA} {apos pos : Pos} {kws : List Keyword} {pl : Sem Bool} (he : PE X o ta) (c : Cls X.K C) (hm : Meth X.K C m f) (F : FnOk X.prog X.w X.K X.mg X.base CX0 k f fd ps sp) (hr : Room k X.A)
    (hb : ∀ (s : Shared) (u : Value) (ws : List Value), ws.length = ks.length → BindsTo s fd ⟨[u], ks.zip ws⟩ (ps.zip (u :: ws)))
    (hkw : PK X kws t) (hall : (backToKw pos (keywordEach kws X.env)).all (·.1.isSome) = true := by rfl) (hks : (backToKw pos (keywordEach kws X.env)).filterMap (·.1) = ks := by rfl)
    (hpl : ((backTo pos (starEach [] X.env)).any (·.1) || (backToKw pos (keywordEach kws X.env)).any (·.1.isNone)) = false := by rfl)
    (ht : eval (.Call (.Attribute o m apos) [] kws pos) X.env = (do
      let ov ← eval o X.env
      standAt apos.atName
      let (f, first) ← holding [ov] (getMethod ov m pl)
      callWith pos f first (backTo pos (starEach [] X.env)) (backToKw pos (keywordEach kws X.env))) := by rfl) :
    PE X (.Call (.Attribute o m apos) [] kws pos) (tMethK C m ks.length sp ta t) := by
  refine ⟨fun pins s σ H Q I h => ?_⟩
  refine PySem.W.methodCall_KW (pl := pl) (thn (he.run pins s σ H _ I h) fun u s1 ⟨x, H1, I1, rx, a, dx, fs, ex, ea, l, q⟩ => ?_) ht
  subst ex
  obtain rfl : u = Value.ref a := rx
  refine getmeth_ok I1 ea c hm l ?_
  refine PySem.W.callWith_KW0 (first := [.ref a]) (h₀ := X.base) I1.ok.mod.kin hm.kp hall (thn (hkw.run pos pins s1 σ H1 _ I1 q) fun ws s2 ⟨zs, H2, I2, rz, lz, q2⟩ => ⟨I2.kIn, ?_⟩) hpl
  rw [hks]
  have lw : ws.length = ks.length := by rw [← rz.length]; exact lz
  apply wpAny_call
  refine codeAny_mono (F.run X.A X.stack s2 H2 ⟨[.ref a], ks.zip ws⟩ (.ref a :: ws) (.ref a :: zs) Q E0 hr I2.env0 (hb s2 (.ref a) ws lw) (.cons rfl rz) q2) ?_
  intro r s' hq
  cases r with
  | error er => exact hq.elim
  | ok fl =>
    cases fl with
    | ret u => exact I2.after hq
    | next => exact hq.elim
    | brk => exact hq.elim
    | cont => exact hq.elim
end
end NeO

namespace Tk
open PySem PySem.Spec PyProof.Rows L2
abbrev sRInit : Stmt := inClass (top 17) 0
abbrev sRTop : Stmt := inClass (top 17) 1
abbrev sRBot : Stmt := inClass (top 17) 2
abbrev sRSign : Stmt := inClass (top 17) 3
abbrev sRWhole : Stmt := inClass (top 17) 4
abbrev sRAdd : Stmt := inClass (top 17) 5
abbrev sRRadd : Stmt := inClass (top 17) 6
abbrev sRSub : Stmt := inClass (top 17) 7
abbrev sRRsub : Stmt := inClass (top 17) 8
abbrev sRMul : Stmt := inClass (top 17) 9
abbrev sRRmul : Stmt := inClass (top 17) 10
abbrev sRNeg : Stmt := inClass (top 17) 11
abbrev sROver : Stmt := inClass (top 17) 12
abbrev sRSize : Stmt := inClass (top 17) 13
abbrev sRBelow : Stmt := inClass (top 17) 14
abbrev sRMost : Stmt := inClass (top 17) 15
abbrev sREq : Stmt := inClass (top 17) 16
abbrev sRTotal : Stmt := inClass (top 17) 17
abbrev sRStr : Stmt := inClass (top 17) 18
abbrev sRRepr : Stmt := inClass (top 17) 19
abbrev sAsRat : Stmt := top 15
abbrev sIsNum : Stmt := top 14
/-! ## Ratio -/
theorem k_bt : ¬ (("_bottom" : Str) = "_top") := by decide +kernel
theorem k_tb : ¬ (("_top" : Str) = "_bottom") := by decide +kernel
def rf (t b : Int) : List (Str × V) := putF "_bottom" (.int b) (putF "_top" (.int t) [])
theorem rf_top (t b : Int) : (rf t b).lookup ("_top" : Str) = some (.int t) := by
  unfold rf
  rw [lookup_putF, if_neg k_tb, lookup_putF, if_pos rfl]
theorem rf_bot (t b : Int) : (rf t b).lookup ("_bottom" : Str) = some (.int b) := by
  unfold rf
  rw [lookup_putF, if_pos rfl]
theorem rf_no (t b : Int) {m : Str} (h1 : ¬ m = "_top") (h2 : ¬ m = "_bottom") : (rf t b).lookup m = none := by
  unfold rf
  rw [lookup_putF, if_neg h2, lookup_putF, if_neg h1]
  rfl
theorem putF_lenR (f : Str) (v : V) : ∀ fs : List (Str × V), (putF f v fs).length ≤ fs.length + 1
  | [] => by simp [putF]
  | (g, x) :: r => by
    unfold putF
    split
    · simp
    · have := putF_lenR f v r
      simp; omega
/-- facts of the class -/
structure RtC (K : PySem.W.Frag) (mg : Str → Option Value) (C : Addr) : Prop where
  cl : Cls K C
  nT : NoAttr K C "_top"
  nB : NoAttr K C "_bottom"
  mgC : mg "Ratio" = some (.ref C)
  gcd : mg "gcd" = some (.builtin "math.gcd")
/-- // by any divisor but 0 -/
def CDivWN (_ j : Int) : Prop := j ≠ 0 ∧ j.natAbs.log2 < 9000
theorem op_fdivWN {X : Cx} : OpR X (binaryOp .FloorDiv) (rI CDivWN fun i j => .int (i.fdiv j)) := opI fun i j _ _ _ _ _ hc q => floordiv_int hc.1 q (.inl (PyProof.noPylong_of_log2 hc.2))
/-- the divisor that brings them to lowest terms, the bottom above 0 -/
def comQ (t b : Int) : Int := if 0 < b then ((Nat.gcd t.natAbs b.natAbs : Nat) : Int) else -((Nat.gcd t.natAbs b.natAbs : Nat) : Int)
def lowQ (t b : Int) : Int × Int := (t.fdiv (comQ t b), b.fdiv (comQ t b))
theorem com_ne {t b : Int} (h : b ≠ 0) : comQ t b ≠ 0 := by
  have g0 : 0 < Nat.gcd t.natAbs b.natAbs := Nat.gcd_pos_of_pos_right _ (by omega)
  unfold comQ
  split <;> omega
theorem com_abs (t b : Int) : (comQ t b).natAbs = Nat.gcd t.natAbs b.natAbs := by
  unfold comQ
  split <;> simp
def RatAt (C : Addr) (H : Hp) (p : Addr) (q : Int × Int) : Prop := ∃ dx, H p = some (.ins C dx (rf q.1 q.2))
theorem rat_s {C : Addr} {H H' : Hp} {p : Addr} {q : Int × Int} (h : RatAt C H p q) (e : Same H H') : RatAt C H' p q := let ⟨dx, h⟩ := h; ⟨dx, e _ _ h⟩
def spRInit (C : Addr) : Sp := fun vs H Q _ => ∃ (p dx : Addr) (t b : Int), vs = [.ref p, .int t, .int b] ∧ H p = some (.ins C dx []) ∧ b ≠ 0 ∧ b.natAbs.log2 < 9000 ∧
  ∀ H', (∀ c o, c ≠ p → H c = some o → H' c = some o) → RatAt C H' p (lowQ t b) → Q .non H'
theorem log2_monoR {a b : Nat} (h : a ≤ b) (hb : b.log2 < 9000) : a.log2 < 9000 := by
  by_cases h0 : a = 0
  · subst h0; simp
  · have h1 : b < 2 ^ 9000 := (Nat.log2_lt (by omega)).mp hb
    exact (Nat.log2_lt h0).mpr (Nat.lt_of_le_of_lt h h1)
section
variable {P : Program} {w : World} {K : PySem.W.Frag} {mg : Str → Option Value} {base : Heap}
abbrev nRI : List Str := ["self", "top", "bottom", "value", "common"]
theorem sc_rinit : FnScope nRI ["self", "top", "bottom"] (defScope sRInit) := ⟨rfl, rfl, rfl, by decide +kernel, rfl, by decide +kernel, by decide +kernel⟩
theorem okD {x qual : Str} {st : Stmt} {dvs : List V} {kws : List (Str × V)} {f : Addr} {fd : FuncData} {N ps : List Str} {k : Nat} {sp : Sp} (F : FunD K x qual (defArgs st) (defBody st) (defScope st) dvs kws f fd) (S : FnScope N ps (defScope st)) (len : ∀ vs H Q E, sp vs H Q E → vs.length = ps.length)
    (hbody : ∀ (cdv : Value) (A : Around) (outer : List Env) (s : Shared) (H : Hp) (vs : List V) (Q : VK) (E : XK), Room k (A.deeper (envOfC qual (defScope st) s.heap.objs.size f cdv)) → sp vs H Q E →
      ∃ t, PSs (cxOf CX0 P w K mg base N qual (defScope st) f cdv A outer s H E).nox (defBody st) t ∧ t { nx := fun _ H' => Q .non H', rt := Q } (start N vs) H) : FnOk P w K mg base CX0 (k + 1) f fd ps sp :=
  F.ok S len fun cdv A outer s H vs Q E hr h => let ⟨t, h1, h2⟩ := hbody cdv A outer s H vs Q E hr h; ⟨t, h1.nox, h2⟩
/-- how __init__ is bound -/
theorem rinit_b {f : Addr} {fd : FuncData} (F : FunD K "__init__" "Ratio.__init__" (defArgs sRInit) (defBody sRInit) (defScope sRInit) [.int 1] [] f fd) : Binds K fd ["self", "top", "bottom"] [] := by
  obtain ⟨ds, v, b⟩ := F.binds1 (ps := ["self", "top", "bottom"]) 3 1 (by simp) (by simp) (fun T kV doc pm an cdv ct us its l1 l2 => match us, its, l1, l2 with | [_, _, _], [_], _, _ => ⟨_, rfl, rfl⟩)
  cases v
  exact b
theorem rinit_b1 {f : Addr} {fd : FuncData} (F : FunD K "__init__" "Ratio.__init__" (defArgs sRInit) (defBody sRInit) (defScope sRInit) [.int 1] [] f fd) : ∃ tk : Tok, Binds K fd ["self", "top", "bottom"] [.int 1 tk] := by
  obtain ⟨ds, v, b⟩ := F.binds1 (ps := ["self", "top", "bottom"]) 2 0 (by simp) (by simp) (fun T kV doc pm an cdv ct us its l1 l2 => match us, its, l1, l2 with | [_, _], [_], _, _ => ⟨_, rfl, rfl⟩)
  obtain ⟨u, rfl, ru⟩ := v.one
  obtain ⟨tk, rfl⟩ := ru
  exact ⟨tk, b⟩
theorem rinit_k {f : Addr} {fd : FuncData} (F : FunD K "__init__" "Ratio.__init__" (defArgs sRInit) (defBody sRInit) (defScope sRInit) [.int 1] [] f fd) : KBn K fd ["self", "top", "bottom"] 1 ["top", "bottom"] (fun us ws => us ++ ws) (fun vs zs => vs ++ zs) := by
  obtain ⟨oc, od, dV, kV, doc, pm, an, cdv, ct, osl, rfl, lk, hcd, hD, _⟩ := F.ex
  rcases hD with ⟨e, _⟩ | ⟨_, T, o, its, m, rfl, lT, oT, rT⟩
  · cases e
  · refine ⟨fun s us ws X l1 l2 => BindsTo.of_looks fun M => ?_, fun r1 r2 => r1.append r2⟩
    obtain ⟨u, rfl, _⟩ := rT.one
    match us, ws, l1, l2 with
    | [_], [_, _], _, _ => exact looks_items X lT oT (.of_pure rfl)
theorem ok_rinit {f f1 C : Addr} {fd fd1 : FuncData} (F : FunD K "__init__" "Ratio.__init__" (defArgs sRInit) (defBody sRInit) (defScope sRInit) [.int 1] [] f fd) (T : RtC K mg C) (D1 : Df K mg "is_integer" sIsInt ["value"] f1 fd1) (B : Bl mg) : FnOk P w K mg base CX0 2 f fd ["self", "top", "bottom"] (spRInit C) := by
  have G1 : FnOk P w K mg base CX0 1 f1 fd1 ["value"] (spIsInt K) := ok_isInt D1.F B
  refine okD F sc_rinit (fun vs H Q E h => ?_) (fun cdv A outer s H vs Q E hr h => ?_)
  · obtain ⟨p, dx, t, b, rfl, _⟩ := h
    rfl
  · obtain ⟨p, dx, t, b, rfl, hp, b0, bl, q⟩ := h
    refine ⟨_, pss_cons (ps_for PassesOwn.never rfl (pi_tup (pe_tup (pa_cons (pv 1) (pa_cons (pv 2) pa_nil)))) (pg_name (i := 3) sc_rinit.nd rfl (Or.inl rfl))
        (pss_one (ps_if (pt_not (pt_val (pe_call G1 hr rfl D1.g D1.F.kp D1.b .nil pass0 (pa_cons (pv 3) pa_nil)))) pss_never pss_nil)))
      (pss_cons (ps_if (pt_cmpR op_eq (pv 2) pe_int (nomark _)) pss_never pss_nil)
      (pss_cons (ps_set (i := 4) sc_rinit.nd rfl (Or.inl rfl) (pe_ifExp (pt_cmpR op_gt (pv 2) pe_int (nomark _)) (pe_callBfun cr_gcd (by rfl) T.gcd (pa_cons (pv 1) (pa_cons (pv 2) pa_nil))) (pe_un un_neg (pe_callBfun cr_gcd (by rfl) T.gcd (pa_cons (pv 1) (pa_cons (pv 2) pa_nil))))))
      (pss_cons (ps_fld (pv 0) (pe_op op_fdivWN (pv 1) (pv 4)) rfl)
      (pss_one (ps_fld (pv 0) (pe_op op_fdivWN (pv 2) (pv 4)) rfl))))), ?_⟩
    refine ⟨_, rfl, _, rfl, szle (by show 2 ≤ 100000; decide), fun u hu => ?_⟩
    have s1 : Same H (upd H u (.tup [V.int t, V.int b])) := same_new hu
    have hu1 : (upd H u (.tup [V.int t, V.int b])) u = some (.tup [V.int t, V.int b]) := upd_same
    generalize upd H u (.tup [V.int t, V.int b]) = H1 at s1 hu1
    refine ⟨u, rfl, ⟨_, st_of hu1⟩, for_tup (K := K) (a := u) (xs := [V.int t, V.int b]) (fun i σ G => ∃ v3 : Option V, σ = [some (V.ref p), some (V.int t), some (V.int b), v3, none] ∧ G = H1) ⟨none, rfl, rfl⟩ (fun i σ G _ z => by obtain ⟨_, _, z⟩ := z; rw [z]; exact st_of hu1) ?_ ?_⟩
    · rintro i x σ G hx ⟨v3, rfl, rfl⟩
      obtain ⟨m, rfl⟩ : ∃ m, x = V.int m := by
        match i, hx with
        | 0, hx => exact ⟨t, (Option.some.inj hx).symm⟩
        | 1, hx => exact ⟨b, (Option.some.inj hx).symm⟩
      exact ⟨_, rfl, V.int m, some m, rfl, .int m, true, rfl, iteF ⟨_, rfl, rfl⟩⟩
    · rintro σ G ⟨v3, rfl, rfl⟩
      have hp1 := s1 _ _ hp
      have gl : (comQ t b).natAbs.log2 < 9000 := by
        rw [com_abs]
        exact log2_monoR (Nat.le_of_dvd (by omega) (Nat.gcd_dvd_right _ _)) bl
      have cd : ∀ x : Int, CDivWN x (comQ t b) := fun x => ⟨com_ne b0, gl⟩
      refine ⟨_, rfl, rfl, _, rfl, ?_⟩
      rw [show decide (V.int b = V.int 0) = false from decide_eq_false (fun e => by have := V.int.inj e; omega)]
      refine iteF ?_
      refine ⟨_, rfl, _, _, rfl, rfl, _, rfl, ?_⟩
      refine ite2 (fun c => ?_) (fun c => ?_)
      · have ec : ((Nat.gcd t.natAbs b.natAbs : Nat) : Int) = comQ t b := by unfold comQ; rw [if_pos (of_decide_eq_true c)]
        refine ⟨_, rfl, _, rfl, t, b, rfl, ?_⟩
        rw [ec]
        refine ⟨_, rfl, _, rfl, _, _, rfl, rfl, cd t, _, rfl, p, C, dx, [], rfl, hp1, T.cl, T.nT, (by show 0 < 1000; decide), ?_⟩
        refine ⟨_, rfl, _, rfl, _, _, rfl, rfl, cd b, _, rfl, p, C, dx, putF "_top" (.int (t.fdiv (comQ t b))) [], rfl, upd_same, T.cl, T.nB, (by have := putF_lenR "_top" (.int (t.fdiv (comQ t b))) []; simp at this; omega), ?_⟩
        refine q _ (fun c o hc e => ?_) ⟨dx, upd_same⟩
        rw [upd_ne hc, upd_ne hc]
        exact s1 _ _ e
      · have ec : -((Nat.gcd t.natAbs b.natAbs : Nat) : Int) = comQ t b := by unfold comQ; rw [if_neg (fun z => c (decide_eq_true z))]
        refine ⟨_, rfl, _, rfl, t, b, rfl, _, rfl, ?_⟩
        dsimp only
        rw [ec]
        refine ⟨_, rfl, _, rfl, _, _, rfl, rfl, cd t, _, rfl, p, C, dx, [], rfl, hp1, T.cl, T.nT, (by show 0 < 1000; decide), ?_⟩
        refine ⟨_, rfl, _, rfl, _, _, rfl, rfl, cd b, _, rfl, p, C, dx, putF "_top" (.int (t.fdiv (comQ t b))) [], rfl, upd_same, T.cl, T.nB, (by have := putF_lenR "_top" (.int (t.fdiv (comQ t b))) []; simp at this; omega), ?_⟩
        refine q _ (fun c o hc e => ?_) ⟨dx, upd_same⟩
        rw [upd_ne hc, upd_ne hc]
        exact s1 _ _ e
end
end Tk

namespace Tk
open PySem PySem.Spec PyProof.Rows L2
theorem callR_or {X : Cx} {f : Value} {r1 r2 : List V → Hp → VK → Prop} (h1 : CallR X f r1) (h2 : CallR X f r2) : CallR X f (fun xs H Q => r1 xs H Q ∨ r2 xs H Q) := by
  intro pins s σ H xs us Q I r h
  rcases h with h | h
  · exact h1 pins s σ H xs us Q I r h
  · exact h2 pins s σ H xs us Q I r h
theorem opR_or {X : Cx} {f : Value → Value → Sem Value} {r1 r2 : R2} (h1 : OpR X f r1) (h2 : OpR X f r2) : OpR X f (fun x y H Q => r1 x y H Q ∨ r2 x y H Q) := by
  intro pins s σ H x y v u Q I rx ry h
  rcases h with h | h
  · exact h1 pins s σ H x y v u Q I rx ry h
  · exact h2 pins s σ H x y v u Q I rx ry h
/-- a NUMBER that is worth q -/
def NumAt (C : Addr) (H : Hp) (v : V) (q : Int × Int) : Prop := (∃ p, v = .ref p ∧ RatAt C H p q) ∨ ∃ i : Int, v = .int i ∧ q = (i, 1)
theorem num_s {C : Addr} {H H' : Hp} {v : V} {q : Int × Int} (h : NumAt C H v q) (e : Same H H') : NumAt C H' v q := by
  rcases h with ⟨p, rfl, h⟩ | h
  · exact .inl ⟨p, rfl, rat_s h e⟩
  · exact .inr h
def spAsR (C : Addr) : Sp := fun vs H Q _ => ∃ (v : V) (q : Int × Int), vs = [v] ∧ NumAt C H v q ∧ ∀ H' p, Same H H' → RatAt C H' p q → Q (.ref p) H'
theorem com_one (i : Int) : comQ i 1 = 1 := by
  unfold comQ
  rw [if_pos (by decide)]
  simp
theorem low_one (i : Int) : lowQ i 1 = (i, 1) := by
  unfold lowQ
  rw [com_one]
  simp
/-- what is asked of the class, further -/
structure RtM (K : PySem.W.Frag) (mg : Str → Option Value) (C fI : Addr) (dI : FuncData) : Prop where
  c : RtC K mg C
  ins : C8.InsC K C
  kI : PySem.W.kitOne K (.type "int") (.ref C) = some false
  kR : PySem.W.kitOne K (.ref C) (.type "int") = some false
  mkr : Mk K C fI
  FI : FunD K "__init__" "Ratio.__init__" (defArgs sRInit) (defBody sRInit) (defScope sRInit) [.int 1] [] fI dI
  bI : Binds K dI ["self", "top", "bottom"] []
  bI1 : ∃ tk : Tok, Binds K dI ["self", "top", "bottom"] [.int 1 tk]
/-- is_integer, .. of a Ratio -/
def spNoInt (C : Addr) : Sp := fun vs H Q _ => ∃ (p : Addr) (q : Int × Int), vs = [.ref p] ∧ RatAt C H p q ∧ Q (.bl false) H
def spIsNumR (C : Addr) : Sp := fun vs H Q _ => ∃ (p : Addr) (q : Int × Int), vs = [.ref p] ∧ RatAt C H p q ∧ Q (.bl true) H
/-- is_number of a value that is no Ratio -/
def spIsNumV (K : PySem.W.Frag) (C : Addr) : Sp := fun vs H Q _ => ∃ (v : V) (o : Option Int) (t : Value), vs = [v] ∧ IntV K H v o ∧ TyX K H v t ∧ PySem.W.kitOne K t (.ref C) = some false ∧ Q (.bl o.isSome) H
section
variable {P : Program} {w : World} {K : PySem.W.Frag} {mg : Str → Option Value} {base : Heap}
theorem sc_asr : FnScope ["number"] ["number"] (defScope sAsRat) := ⟨rfl, rfl, rfl, by decide +kernel, rfl, by decide +kernel, by decide +kernel⟩
theorem ok_asr {f f1 fI C : Addr} {fd fd1 dI : FuncData} (F : Fun K "as_ratio" "as_ratio" sAsRat f fd) (M : RtM K mg C fI dI) (D1 : Df K mg "is_integer" sIsInt ["value"] f1 fd1) (B : Bl mg) : FnOk P w K mg base CX0 4 f fd ["number"] (spAsR C) := by
  have GI : FnOk P w K mg base CX0 2 fI dI ["self", "top", "bottom"] (spRInit C) := ok_rinit M.FI M.c D1 B
  obtain ⟨tk, b1⟩ := M.bI1
  refine F.ok sc_asr (fun vs H Q E h => ?_) (fun cdv A outer s H vs Q E hr h => ?_)
  · obtain ⟨v, q, rfl, _⟩ := h
    rfl
  · obtain ⟨v, z, rfl, hn, q⟩ := h
    refine ⟨_, pss_cons (ps_if (pt_val (pe_callB (callR_or (C8.call_isC M.ins) call_isi) (by rfl) B.isi PyProof.Rows.boot_isinstance (pa_cons (pv 0) (pa_cons (pe_glob (v := .ref C) rfl M.c.mgC rfl) pa_nil)))) (pss_one (ps_ret (pv 0))) pss_nil)
      (pss_one (ps_ret (pe_make M.mkr GI hr rfl M.c.mgC b1 (dvs := [V.int 1]) (.cons ⟨tk, rfl⟩ .nil) pass0 (pa_cons (pv 0) pa_nil)))), ?_⟩
    rcases hn with ⟨p, rfl, dx, hp⟩ | ⟨i, rfl, rfl⟩
    · refine ⟨_, rfl, .inl ⟨p, dx, _, rfl, hp, true, rfl, iteT ?_⟩⟩
      exact ⟨_, rfl, q H p (fun _ _ h => h) ⟨dx, hp⟩⟩
    · refine ⟨_, rfl, .inr ⟨_, _, _, _, false, rfl, .own C, .base (.int i), M.kI, false, rfl, iteF ?_⟩⟩
      refine ⟨_, rfl, fun x dx nx ndx nex => ?_⟩
      have sm : Same H (upd (upd H dx (.own x)) x (.ins C dx [])) := fun b o e => by
        rw [upd_ne (ne_of_none e nx), upd_ne (ne_of_none e ndx)]
        exact e
      refine ⟨x, dx, i, 1, rfl, upd_same, by decide, by decide, fun H' keep hr' => ⟨rfl, ?_⟩⟩
      rw [low_one] at hr'
      exact q H' x (fun b o e => keep b o (ne_of_none e nx) (sm b o e)) hr'
/-- is_integer of a Ratio -/
theorem ok_noInt {f fI C : Addr} {fd dI : FuncData} (F : Fun K "is_integer" "is_integer" sIsInt f fd) (M : RtM K mg C fI dI) (B : Bl mg) : FnOk P w K mg base CX0 1 f fd ["value"] (spNoInt C) := by
  refine F.ok sc_isInt (fun vs H Q E h => ?_) (fun cdv A outer s H vs Q E hr h => ?_)
  · obtain ⟨p, q, rfl, _⟩ := h
    rfl
  · obtain ⟨p, z, rfl, ⟨dx, hp⟩, q⟩ := h
    refine ⟨_, pss_one (ps_ret (pe_and
      (pe_callB call_isi (by rfl) B.isi PyProof.Rows.boot_isinstance (pa_cons (pv 0) (pa_cons (pe_bltn (v := .ty "int") (by rfl) B.int PyProof.Rows.boot_int rfl) pa_nil)))
      (pe_one (pe_not (pe_callB call_isi (by rfl) B.isi PyProof.Rows.boot_isinstance (pa_cons (pv 0) (pa_cons (pe_bltn (v := .ty "bool") (by rfl) B.bool PyProof.Rows.boot_bool rfl) pa_nil))))))), ?_⟩
    exact ⟨_, rfl, _, _, _, _, false, rfl, .ty _, .base (TyOf.ins hp M.ins.cl M.ins.ha M.ins.hn M.ins.htk M.ins.hm), M.kR, false, rfl, iteF q⟩
theorem ok_noCnt {f f1 fI C : Addr} {fd fd1 dI : FuncData} (F : Fun K "is_count" "is_count" sIsCnt f fd) (M : RtM K mg C fI dI) (D1 : Df K mg "is_integer" sIsInt ["value"] f1 fd1) (B : Bl mg) : FnOk P w K mg base CX0 2 f fd ["value"] (spNoInt C) := by
  have G1 : FnOk P w K mg base CX0 1 f1 fd1 ["value"] (spNoInt C) := ok_noInt D1.F M B
  refine F.ok sc_isCnt (fun vs H Q E h => ?_) (fun cdv A outer s H vs Q E hr h => ?_)
  · obtain ⟨p, q, rfl, _⟩ := h
    rfl
  · obtain ⟨p, z, rfl, hp, q⟩ := h
    refine ⟨_, pss_one (ps_ret (pe_and (pe_call G1 hr rfl D1.g D1.F.kp D1.b .nil pass0 (pa_cons (pv 0) pa_nil)) (pe_one (pe_cmpR op_ge (pv 0) pe_int (nomark _))))), ?_⟩
    exact ⟨_, rfl, p, z, rfl, hp, false, rfl, iteF q⟩
theorem sc_isNum : FnScope ["value"] ["value"] (defScope sIsNum) := ⟨rfl, rfl, rfl, by decide +kernel, rfl, by decide +kernel, by decide +kernel⟩
theorem ok_isNumR {f f1 fI C : Addr} {fd fd1 dI : FuncData} (F : Fun K "is_number" "is_number" sIsNum f fd) (M : RtM K mg C fI dI) (D1 : Df K mg "is_integer" sIsInt ["value"] f1 fd1) (B : Bl mg) : FnOk P w K mg base CX0 2 f fd ["value"] (spIsNumR C) := by
  have G1 : FnOk P w K mg base CX0 1 f1 fd1 ["value"] (spNoInt C) := ok_noInt D1.F M B
  refine F.ok sc_isNum (fun vs H Q E h => ?_) (fun cdv A outer s H vs Q E hr h => ?_)
  · obtain ⟨p, q, rfl, _⟩ := h
    rfl
  · obtain ⟨p, z, rfl, hp, q⟩ := h
    refine ⟨_, pss_one (ps_ret (pe_or (pe_call G1 hr rfl D1.g D1.F.kp D1.b .nil pass0 (pa_cons (pv 0) pa_nil)) (pe_one (pe_callB (C8.call_isC M.ins) (by rfl) B.isi PyProof.Rows.boot_isinstance (pa_cons (pv 0) (pa_cons (pe_glob (v := .ref C) rfl M.c.mgC rfl) pa_nil)))))), ?_⟩
    obtain ⟨dx, hp'⟩ := id hp
    exact ⟨_, rfl, p, z, rfl, hp, false, rfl, iteF ⟨_, rfl, p, dx, _, rfl, hp', q⟩⟩
theorem ok_isNumV {f f1 fI C : Addr} {fd fd1 dI : FuncData} (F : Fun K "is_number" "is_number" sIsNum f fd) (M : RtM K mg C fI dI) (D1 : Df K mg "is_integer" sIsInt ["value"] f1 fd1) (B : Bl mg) : FnOk P w K mg base CX0 2 f fd ["value"] (spIsNumV K C) := by
  have G1 : FnOk P w K mg base CX0 1 f1 fd1 ["value"] (spIsInt K) := ok_isInt D1.F B
  refine F.ok sc_isNum (fun vs H Q E h => ?_) (fun cdv A outer s H vs Q E hr h => ?_)
  · obtain ⟨v, o, t, rfl, _⟩ := h
    rfl
  · obtain ⟨v, o, t, rfl, hv, ty, kt, q⟩ := h
    refine ⟨_, pss_one (ps_ret (pe_or (pe_call G1 hr rfl D1.g D1.F.kp D1.b .nil pass0 (pa_cons (pv 0) pa_nil)) (pe_one (pe_callB call_isi (by rfl) B.isi PyProof.Rows.boot_isinstance (pa_cons (pv 0) (pa_cons (pe_glob (v := .ref C) rfl M.c.mgC rfl) pa_nil)))))), ?_⟩
    refine ⟨_, rfl, v, o, rfl, hv, o.isSome, rfl, ?_⟩
    cases o with
    | some i => exact iteT q
    | none => exact iteF ⟨_, rfl, _, _, _, _, false, rfl, .own C, ty, kt, q⟩
end
end Tk

namespace Tk
open PySem PySem.Spec PyProof.Rows L2
structure RtP (K : PySem.W.Frag) (C pT gT pB gB : Addr) (dT dB : FuncData) : Prop where
  pt : PropOf K C "top" pT gT
  FT : Fun K "top" "Ratio.top" sRTop gT dT
  bT : Binds K dT ["self"] []
  pb : PropOf K C "bottom" pB gB
  FB : Fun K "bottom" "Ratio.bottom" sRBot gB dB
  bB : Binds K dB ["self"] []
/-- numbers that stay far below what an int may be here -/
structure Small (q : Int × Int) : Prop where
  pos : 0 < q.2
  bot : q.2.natAbs.log2 < 4000
  top : q.1.natAbs.log2 < 100000
def addQ (x y : Int × Int) : Int × Int := lowQ (x.1 * y.2 + y.1 * x.2) (x.2 * y.2)
def subQ (x y : Int × Int) : Int × Int := lowQ (x.1 * y.2 - y.1 * x.2) (x.2 * y.2)
def mulQ (x y : Int × Int) : Int × Int := lowQ (x.1 * y.1) (x.2 * y.2)
def spBin (C : Addr) (g : Int × Int → Int × Int → Int × Int) : Sp := fun vs H Q _ => ∃ (p : Addr) (v : V) (x y : Int × Int), vs = [.ref p, v] ∧ RatAt C H p x ∧ NumAt C H v y ∧ Small x ∧ Small y ∧
  ∀ H' r, Same H H' → H r = none → RatAt C H' r (g x y) → Q (.ref r) H'
theorem log2_mulR {a b k l : Nat} (ha : a.log2 < k) (hb : b.log2 < l) : (a * b).log2 < k + l := by
  by_cases h0 : a * b = 0
  · rw [h0]; simp; omega
  · have a0 : a ≠ 0 := fun e => h0 (by rw [e, Nat.zero_mul])
    have b0 : b ≠ 0 := fun e => h0 (by rw [e, Nat.mul_zero])
    have h1 := (Nat.log2_lt a0).mp ha
    have h2 := (Nat.log2_lt b0).mp hb
    refine (Nat.log2_lt h0).mpr ?_
    rw [Nat.pow_add]
    exact Nat.mul_lt_mul'' h1 h2
theorem small_bot {x y : Int × Int} (hx : Small x) (hy : Small y) : 0 < x.2 * y.2 ∧ (x.2 * y.2).natAbs.log2 < 9000 := by
  refine ⟨Int.mul_pos hx.pos hy.pos, ?_⟩
  rw [Int.natAbs_mul]
  have := log2_mulR hx.bot hy.bot
  omega
section
variable {P : Program} {w : World} {K : PySem.W.Frag} {mg : Str → Option Value} {base : Heap}
theorem sc_rtop : FnScope ["self"] ["self"] (defScope sRTop) := ⟨rfl, rfl, rfl, by decide +kernel, rfl, by decide +kernel, by decide +kernel⟩
theorem ok_rtop {f C : Addr} {fd : FuncData} (F : Fun K "top" "Ratio.top" sRTop f fd) (T : RtC K mg C) : FnOk P w K mg base CX0 1 f fd ["self"] (getSp C "_top") := by
  refine F.ok sc_rtop (fun vs H Q E h => ?_) (fun cdv A outer s H vs Q E hr h => ?_)
  · obtain ⟨a, dx, fs, v, rfl, _⟩ := h
    rfl
  · obtain ⟨a, dx, fs, v, rfl, ha, hl, q⟩ := h
    refine ⟨_, pss_one (ps_ret (pe_fld (pv 0) rfl)), ?_⟩
    exact ⟨_, rfl, a, C, dx, fs, v, rfl, ha, T.cl, T.nT, hl, q⟩
theorem sc_rbot : FnScope ["self"] ["self"] (defScope sRBot) := ⟨rfl, rfl, rfl, by decide +kernel, rfl, by decide +kernel, by decide +kernel⟩
theorem ok_rbot {f C : Addr} {fd : FuncData} (F : Fun K "bottom" "Ratio.bottom" sRBot f fd) (T : RtC K mg C) : FnOk P w K mg base CX0 1 f fd ["self"] (getSp C "_bottom") := by
  refine F.ok sc_rbot (fun vs H Q E h => ?_) (fun cdv A outer s H vs Q E hr h => ?_)
  · obtain ⟨a, dx, fs, v, rfl, _⟩ := h
    rfl
  · obtain ⟨a, dx, fs, v, rfl, ha, hl, q⟩ := h
    refine ⟨_, pss_one (ps_ret (pe_fld (pv 0) rfl)), ?_⟩
    exact ⟨_, rfl, a, C, dx, fs, v, rfl, ha, T.cl, T.nB, hl, q⟩
abbrev nBin : List Str := ["self", "other", "right", "top"]
theorem sc_radd : FnScope nBin ["self", "other"] (defScope sRAdd) := ⟨rfl, rfl, rfl, by decide +kernel, rfl, by decide +kernel, by decide +kernel⟩
theorem ok_radd {f f1 fR fI C pT gT pB gB : Addr} {fd fd1 dR dI dT dB : FuncData} (F : Fun K "__add__" "Ratio.__add__" sRAdd f fd) (M : RtM K mg C fI dI) (Z : RtP K C pT gT pB gB dT dB) (D1 : Df K mg "is_integer" sIsInt ["value"] f1 fd1)
    (DR : Df K mg "as_ratio" sAsRat ["number"] fR dR) (B : Bl mg) : FnOk P w K mg base CX0 5 f fd ["self", "other"] (spBin C addQ) := by
  have GI : FnOk P w K mg base CX0 2 fI dI ["self", "top", "bottom"] (spRInit C) := ok_rinit M.FI M.c D1 B
  have GR : FnOk P w K mg base CX0 4 fR dR ["number"] (spAsR C) := ok_asr DR.F M D1 B
  have GT : FnOk P w K mg base CX0 1 gT dT ["self"] (getSp C "_top") := ok_rtop Z.FT M.c
  have GB : FnOk P w K mg base CX0 1 gB dB ["self"] (getSp C "_bottom") := ok_rbot Z.FB M.c
  refine F.ok sc_radd (fun vs H Q E h => ?_) (fun cdv A outer s H vs Q E hr h => ?_)
  · obtain ⟨p, v, x, y, rfl, _⟩ := h
    rfl
  · obtain ⟨p, v, x, y, rfl, ⟨dx, hp⟩, hv, sx, sy, q⟩ := h
    have hr2 : Room 2 _ := hr.mono (by decide)
    have hr3 : Room 3 _ := hr.mono (by decide)
    refine ⟨_, pss_cons (ps_set (i := 2) sc_radd.nd rfl (Or.inl rfl) (pe_call GR hr rfl DR.g DR.F.kp DR.b .nil pass0 (pa_cons (pv 1) pa_nil)))
      (pss_cons (ps_set (i := 3) sc_radd.nd rfl (Or.inl rfl) (pe_op op_add (pe_op op_mulW (pe_fld (pv 0) rfl) (pe_prop (pv 2) M.c.cl Z.pb GB hr2 Z.bB .nil pass0 rfl)) (pe_op op_mulW (pe_prop (pv 2) M.c.cl Z.pt GT hr2 Z.bT .nil pass0 rfl) (pe_fld (pv 0) rfl))))
      (pss_one (ps_ret (pe_make M.mkr GI hr3 rfl M.c.mgC M.bI .nil pass0 (pa_cons (pv 3) (pa_cons (pe_op op_mulW (pe_fld (pv 0) rfl) (pe_prop (pv 2) M.c.cl Z.pb GB hr2 Z.bB .nil pass0 rfl)) pa_nil)))))), ?_⟩
    refine ⟨_, rfl, v, y, rfl, hv, fun H1 r s1 ⟨dr, hr1⟩ => ?_⟩
    have hp1 := s1 _ _ hp
    obtain ⟨b0, bl⟩ := small_bot sx sy
    have e1 := sx.top
    have e2 := sy.top
    have e3 := sx.bot
    have e4 := sy.bot
    refine ⟨_, rfl, p, C, dx, _, _, rfl, hp1, M.c.cl, M.c.nT, rf_top _ _, _, rfl, r, dr, _, rfl, hr1, r, dr, _, _, rfl, hr1, rf_bot _ _, _, _, rfl, rfl, (by unfold CMulW; omega), _, rfl, r, dr, _, rfl, hr1, r, dr, _, _, rfl, hr1, rf_top _ _, _, rfl, p, C, dx, _, _, rfl, hp1, M.c.cl, M.c.nB, rf_bot _ _, _, _, rfl, rfl, (by unfold CMulW; omega), _, _, rfl, rfl, ?_⟩
    refine ⟨_, rfl, _, rfl, p, C, dx, _, _, rfl, hp1, M.c.cl, M.c.nB, rf_bot _ _, _, rfl, r, dr, _, rfl, hr1, r, dr, _, _, rfl, hr1, rf_bot _ _, _, _, rfl, rfl, (by unfold CMulW; omega), fun z dz nz ndz nez => ?_⟩
    have sm : Same H1 (upd (upd H1 dz (.own z)) z (.ins C dz [])) := fun b o e => by
      rw [upd_ne (ne_of_none e nz), upd_ne (ne_of_none e ndz)]
      exact e
    refine ⟨z, dz, x.1 * y.2 + y.1 * x.2, x.2 * y.2, rfl, upd_same, Int.ne_of_gt b0, bl, fun H' keep hr' => ⟨rfl, ?_⟩⟩
    exact q H' z (s1.trans fun b o e => keep b o (ne_of_none e nz) (sm b o e)) (s1.free nz) hr'
theorem sc_rsub : FnScope nBin ["self", "other"] (defScope sRSub) := ⟨rfl, rfl, rfl, by decide +kernel, rfl, by decide +kernel, by decide +kernel⟩
theorem ok_rsub {f f1 fR fI C pT gT pB gB : Addr} {fd fd1 dR dI dT dB : FuncData} (F : Fun K "__sub__" "Ratio.__sub__" sRSub f fd) (M : RtM K mg C fI dI) (Z : RtP K C pT gT pB gB dT dB) (D1 : Df K mg "is_integer" sIsInt ["value"] f1 fd1)
    (DR : Df K mg "as_ratio" sAsRat ["number"] fR dR) (B : Bl mg) : FnOk P w K mg base CX0 5 f fd ["self", "other"] (spBin C subQ) := by
  have GI : FnOk P w K mg base CX0 2 fI dI ["self", "top", "bottom"] (spRInit C) := ok_rinit M.FI M.c D1 B
  have GR : FnOk P w K mg base CX0 4 fR dR ["number"] (spAsR C) := ok_asr DR.F M D1 B
  have GT : FnOk P w K mg base CX0 1 gT dT ["self"] (getSp C "_top") := ok_rtop Z.FT M.c
  have GB : FnOk P w K mg base CX0 1 gB dB ["self"] (getSp C "_bottom") := ok_rbot Z.FB M.c
  refine F.ok sc_rsub (fun vs H Q E h => ?_) (fun cdv A outer s H vs Q E hr h => ?_)
  · obtain ⟨p, v, x, y, rfl, _⟩ := h
    rfl
  · obtain ⟨p, v, x, y, rfl, ⟨dx, hp⟩, hv, sx, sy, q⟩ := h
    have hr2 : Room 2 _ := hr.mono (by decide)
    have hr3 : Room 3 _ := hr.mono (by decide)
    refine ⟨_, pss_cons (ps_set (i := 2) sc_rsub.nd rfl (Or.inl rfl) (pe_call GR hr rfl DR.g DR.F.kp DR.b .nil pass0 (pa_cons (pv 1) pa_nil)))
      (pss_cons (ps_set (i := 3) sc_rsub.nd rfl (Or.inl rfl) (pe_op op_sub (pe_op op_mulW (pe_fld (pv 0) rfl) (pe_prop (pv 2) M.c.cl Z.pb GB hr2 Z.bB .nil pass0 rfl)) (pe_op op_mulW (pe_prop (pv 2) M.c.cl Z.pt GT hr2 Z.bT .nil pass0 rfl) (pe_fld (pv 0) rfl))))
      (pss_one (ps_ret (pe_make M.mkr GI hr3 rfl M.c.mgC M.bI .nil pass0 (pa_cons (pv 3) (pa_cons (pe_op op_mulW (pe_fld (pv 0) rfl) (pe_prop (pv 2) M.c.cl Z.pb GB hr2 Z.bB .nil pass0 rfl)) pa_nil)))))), ?_⟩
    refine ⟨_, rfl, v, y, rfl, hv, fun H1 r s1 ⟨dr, hr1⟩ => ?_⟩
    have hp1 := s1 _ _ hp
    obtain ⟨b0, bl⟩ := small_bot sx sy
    have e1 := sx.top
    have e2 := sy.top
    have e3 := sx.bot
    have e4 := sy.bot
    refine ⟨_, rfl, p, C, dx, _, _, rfl, hp1, M.c.cl, M.c.nT, rf_top _ _, _, rfl, r, dr, _, rfl, hr1, r, dr, _, _, rfl, hr1, rf_bot _ _, _, _, rfl, rfl, (by unfold CMulW; omega), _, rfl, r, dr, _, rfl, hr1, r, dr, _, _, rfl, hr1, rf_top _ _, _, rfl, p, C, dx, _, _, rfl, hp1, M.c.cl, M.c.nB, rf_bot _ _, _, _, rfl, rfl, (by unfold CMulW; omega), _, _, rfl, rfl, ?_⟩
    refine ⟨_, rfl, _, rfl, p, C, dx, _, _, rfl, hp1, M.c.cl, M.c.nB, rf_bot _ _, _, rfl, r, dr, _, rfl, hr1, r, dr, _, _, rfl, hr1, rf_bot _ _, _, _, rfl, rfl, (by unfold CMulW; omega), fun z dz nz ndz nez => ?_⟩
    have sm : Same H1 (upd (upd H1 dz (.own z)) z (.ins C dz [])) := fun b o e => by
      rw [upd_ne (ne_of_none e nz), upd_ne (ne_of_none e ndz)]
      exact e
    refine ⟨z, dz, x.1 * y.2 - y.1 * x.2, x.2 * y.2, rfl, upd_same, Int.ne_of_gt b0, bl, fun H' keep hr' => ⟨rfl, ?_⟩⟩
    exact q H' z (s1.trans fun b o e => keep b o (ne_of_none e nz) (sm b o e)) (s1.free nz) hr'
abbrev nBin3 : List Str := ["self", "other", "right"]
theorem sc_rmul : FnScope nBin3 ["self", "other"] (defScope sRMul) := ⟨rfl, rfl, rfl, by decide +kernel, rfl, by decide +kernel, by decide +kernel⟩
theorem ok_rmul {f f1 fR fI C pT gT pB gB : Addr} {fd fd1 dR dI dT dB : FuncData} (F : Fun K "__mul__" "Ratio.__mul__" sRMul f fd) (M : RtM K mg C fI dI) (Z : RtP K C pT gT pB gB dT dB) (D1 : Df K mg "is_integer" sIsInt ["value"] f1 fd1)
    (DR : Df K mg "as_ratio" sAsRat ["number"] fR dR) (B : Bl mg) : FnOk P w K mg base CX0 5 f fd ["self", "other"] (spBin C mulQ) := by
  have GI : FnOk P w K mg base CX0 2 fI dI ["self", "top", "bottom"] (spRInit C) := ok_rinit M.FI M.c D1 B
  have GR : FnOk P w K mg base CX0 4 fR dR ["number"] (spAsR C) := ok_asr DR.F M D1 B
  have GT : FnOk P w K mg base CX0 1 gT dT ["self"] (getSp C "_top") := ok_rtop Z.FT M.c
  have GB : FnOk P w K mg base CX0 1 gB dB ["self"] (getSp C "_bottom") := ok_rbot Z.FB M.c
  refine F.ok sc_rmul (fun vs H Q E h => ?_) (fun cdv A outer s H vs Q E hr h => ?_)
  · obtain ⟨p, v, x, y, rfl, _⟩ := h
    rfl
  · obtain ⟨p, v, x, y, rfl, ⟨dx, hp⟩, hv, sx, sy, q⟩ := h
    have hr2 : Room 2 _ := hr.mono (by decide)
    have hr3 : Room 3 _ := hr.mono (by decide)
    refine ⟨_, pss_cons (ps_set (i := 2) sc_rmul.nd rfl (Or.inl rfl) (pe_call GR hr rfl DR.g DR.F.kp DR.b .nil pass0 (pa_cons (pv 1) pa_nil)))
      (pss_one (ps_ret (pe_make M.mkr GI hr3 rfl M.c.mgC M.bI .nil pass0 (pa_cons (pe_op op_mulW (pe_fld (pv 0) rfl) (pe_prop (pv 2) M.c.cl Z.pt GT hr2 Z.bT .nil pass0 rfl)) (pa_cons (pe_op op_mulW (pe_fld (pv 0) rfl) (pe_prop (pv 2) M.c.cl Z.pb GB hr2 Z.bB .nil pass0 rfl)) pa_nil))))), ?_⟩
    refine ⟨_, rfl, v, y, rfl, hv, fun H1 r s1 ⟨dr, hr1⟩ => ?_⟩
    have hp1 := s1 _ _ hp
    obtain ⟨b0, bl⟩ := small_bot sx sy
    have e1 := sx.top
    have e2 := sy.top
    have e3 := sx.bot
    have e4 := sy.bot
    refine ⟨_, rfl, p, C, dx, _, _, rfl, hp1, M.c.cl, M.c.nT, rf_top _ _, _, rfl, r, dr, _, rfl, hr1, r, dr, _, _, rfl, hr1, rf_top _ _, _, _, rfl, rfl, (by unfold CMulW; omega), ?_⟩
    refine ⟨_, rfl, p, C, dx, _, _, rfl, hp1, M.c.cl, M.c.nB, rf_bot _ _, _, rfl, r, dr, _, rfl, hr1, r, dr, _, _, rfl, hr1, rf_bot _ _, _, _, rfl, rfl, (by unfold CMulW; omega), fun z dz nz ndz nez => ?_⟩
    have sm : Same H1 (upd (upd H1 dz (.own z)) z (.ins C dz [])) := fun b o e => by
      rw [upd_ne (ne_of_none e nz), upd_ne (ne_of_none e ndz)]
      exact e
    refine ⟨z, dz, x.1 * y.1, x.2 * y.2, rfl, upd_same, Int.ne_of_gt b0, bl, fun H' keep hr' => ⟨rfl, ?_⟩⟩
    exact q H' z (s1.trans fun b o e => keep b o (ne_of_none e nz) (sm b o e)) (s1.free nz) hr'
/-- other + self, .., by the instance's own way -/
def spRev (C : Addr) (g : Int × Int → Int × Int → Int × Int) : Sp := fun vs H Q _ => ∃ (p : Addr) (v : V) (x y : Int × Int), vs = [.ref p, v] ∧ RatAt C H p x ∧ NumAt C H v y ∧ Small x ∧ Small y ∧
  ∀ H' r, Same H H' → RatAt C H' r (g y x) → Q (.ref r) H'
theorem sc_rev : FnScope ["self", "other"] ["self", "other"] (defScope sRRadd) := ⟨rfl, rfl, rfl, by decide +kernel, rfl, by decide +kernel, by decide +kernel⟩
theorem sc_rradd : FnScope ["self", "other"] ["self", "other"] (defScope sRRadd) := ⟨rfl, rfl, rfl, by decide +kernel, rfl, by decide +kernel, by decide +kernel⟩
theorem ok_rradd {f f1 fA fR fI C : Addr} {fd fd1 dA dR dI : FuncData} (F : Fun K "__radd__" "Ratio.__radd__" sRRadd f fd) (M : RtM K mg C fI dI) (D1 : Df K mg "is_integer" sIsInt ["value"] f1 fd1) (DR : Df K mg "as_ratio" sAsRat ["number"] fR dR)
    (h0 : PySem.W.selfFirst K C = true) (h1 : PySem.W.findIn K (.ref C) "__add__" = some (some (.ref fA))) (h2 : PySem.W.isFn K (.ref fA) = true) (bA : Binds K dA ["self", "other"] []) (GA : FnOk P w K mg base CX0 5 fA dA ["self", "other"] (spBin C addQ)) (B : Bl mg) :
    FnOk P w K mg base CX0 6 f fd ["self", "other"] (spRev C addQ) := by
  have GR : FnOk P w K mg base CX0 4 fR dR ["number"] (spAsR C) := ok_asr DR.F M D1 B
  refine F.ok sc_rradd (fun vs H Q E h => ?_) (fun cdv A outer s H vs Q E hr h => ?_)
  · obtain ⟨p, v, x, y, rfl, _⟩ := h
    rfl
  · obtain ⟨p, v, x, y, rfl, hp, hv, sx, sy, q⟩ := h
    refine ⟨_, pss_one (ps_ret (pe_op (NeO.op_binI (op := .Add) h0 h1 h2 GA hr bA) (pe_call GR (hr.mono (by decide)) rfl DR.g DR.F.kp DR.b .nil pass0 (pa_cons (pv 1) pa_nil)) (pv 0))), ?_⟩
    refine ⟨_, rfl, v, y, rfl, hv, fun H1 r s1 hr1 => ?_⟩
    obtain ⟨dx, hp1⟩ := rat_s hp s1
    obtain ⟨dr, hr2⟩ := id hr1
    refine ⟨_, rfl, r, p, dr, dx, _, _, rfl, rfl, hr2, hp1, ?_⟩
    exact ⟨r, .ref p, y, x, rfl, hr1, .inl ⟨p, rfl, dx, hp1⟩, sy, sx, fun H' z s2 _ hz => ⟨z, rfl, q H' z (s1.trans s2) hz⟩⟩
theorem sc_rrsub : FnScope ["self", "other"] ["self", "other"] (defScope sRRsub) := ⟨rfl, rfl, rfl, by decide +kernel, rfl, by decide +kernel, by decide +kernel⟩
theorem ok_rrsub {f f1 fA fR fI C : Addr} {fd fd1 dA dR dI : FuncData} (F : Fun K "__rsub__" "Ratio.__rsub__" sRRsub f fd) (M : RtM K mg C fI dI) (D1 : Df K mg "is_integer" sIsInt ["value"] f1 fd1) (DR : Df K mg "as_ratio" sAsRat ["number"] fR dR)
    (h0 : PySem.W.selfFirst K C = true) (h1 : PySem.W.findIn K (.ref C) "__sub__" = some (some (.ref fA))) (h2 : PySem.W.isFn K (.ref fA) = true) (bA : Binds K dA ["self", "other"] []) (GA : FnOk P w K mg base CX0 5 fA dA ["self", "other"] (spBin C subQ)) (B : Bl mg) :
    FnOk P w K mg base CX0 6 f fd ["self", "other"] (spRev C subQ) := by
  have GR : FnOk P w K mg base CX0 4 fR dR ["number"] (spAsR C) := ok_asr DR.F M D1 B
  refine F.ok sc_rrsub (fun vs H Q E h => ?_) (fun cdv A outer s H vs Q E hr h => ?_)
  · obtain ⟨p, v, x, y, rfl, _⟩ := h
    rfl
  · obtain ⟨p, v, x, y, rfl, hp, hv, sx, sy, q⟩ := h
    refine ⟨_, pss_one (ps_ret (pe_op (NeO.op_binI (op := .Sub) h0 h1 h2 GA hr bA) (pe_call GR (hr.mono (by decide)) rfl DR.g DR.F.kp DR.b .nil pass0 (pa_cons (pv 1) pa_nil)) (pv 0))), ?_⟩
    refine ⟨_, rfl, v, y, rfl, hv, fun H1 r s1 hr1 => ?_⟩
    obtain ⟨dx, hp1⟩ := rat_s hp s1
    obtain ⟨dr, hr2⟩ := id hr1
    refine ⟨_, rfl, r, p, dr, dx, _, _, rfl, rfl, hr2, hp1, ?_⟩
    exact ⟨r, .ref p, y, x, rfl, hr1, .inl ⟨p, rfl, dx, hp1⟩, sy, sx, fun H' z s2 _ hz => ⟨z, rfl, q H' z (s1.trans s2) hz⟩⟩
theorem sc_rrmul : FnScope ["self", "other"] ["self", "other"] (defScope sRRmul) := ⟨rfl, rfl, rfl, by decide +kernel, rfl, by decide +kernel, by decide +kernel⟩
theorem ok_rrmul {f f1 fA fR fI C : Addr} {fd fd1 dA dR dI : FuncData} (F : Fun K "__rmul__" "Ratio.__rmul__" sRRmul f fd) (M : RtM K mg C fI dI) (D1 : Df K mg "is_integer" sIsInt ["value"] f1 fd1) (DR : Df K mg "as_ratio" sAsRat ["number"] fR dR)
    (h0 : PySem.W.selfFirst K C = true) (h1 : PySem.W.findIn K (.ref C) "__mul__" = some (some (.ref fA))) (h2 : PySem.W.isFn K (.ref fA) = true) (bA : Binds K dA ["self", "other"] []) (GA : FnOk P w K mg base CX0 5 fA dA ["self", "other"] (spBin C mulQ)) (B : Bl mg) :
    FnOk P w K mg base CX0 6 f fd ["self", "other"] (spRev C mulQ) := by
  have GR : FnOk P w K mg base CX0 4 fR dR ["number"] (spAsR C) := ok_asr DR.F M D1 B
  refine F.ok sc_rrmul (fun vs H Q E h => ?_) (fun cdv A outer s H vs Q E hr h => ?_)
  · obtain ⟨p, v, x, y, rfl, _⟩ := h
    rfl
  · obtain ⟨p, v, x, y, rfl, hp, hv, sx, sy, q⟩ := h
    refine ⟨_, pss_one (ps_ret (pe_op (NeO.op_binI (op := .Mult) h0 h1 h2 GA hr bA) (pe_call GR (hr.mono (by decide)) rfl DR.g DR.F.kp DR.b .nil pass0 (pa_cons (pv 1) pa_nil)) (pv 0))), ?_⟩
    refine ⟨_, rfl, v, y, rfl, hv, fun H1 r s1 hr1 => ?_⟩
    obtain ⟨dx, hp1⟩ := rat_s hp s1
    obtain ⟨dr, hr2⟩ := id hr1
    refine ⟨_, rfl, r, p, dr, dx, _, _, rfl, rfl, hr2, hp1, ?_⟩
    exact ⟨r, .ref p, y, x, rfl, hr1, .inl ⟨p, rfl, dx, hp1⟩, sy, sx, fun H' z s2 _ hz => ⟨z, rfl, q H' z (s1.trans s2) hz⟩⟩
end
end Tk

namespace Tk
open PySem PySem.Spec PyProof.Rows L2
def spREq (C : Addr) : Sp := fun vs H Q _ => ∃ (p r : Addr) (x y : Int × Int), vs = [.ref p, .ref r] ∧ RatAt C H p x ∧ RatAt C H r y ∧ Q (.bl (decide (x = y))) H
theorem dec_v {i j : Int} : V.bl (decide (V.int i = V.int j)) = V.bl (decide (i = j)) := by simp
section
variable {P : Program} {w : World} {K : PySem.W.Frag} {mg : Str → Option Value} {base : Heap}
theorem sc_req : FnScope ["self", "other"] ["self", "other"] (defScope sREq) := ⟨rfl, rfl, rfl, by decide +kernel, rfl, by decide +kernel, by decide +kernel⟩
theorem ok_req {f fI C : Addr} {fd dI : FuncData} (F : Fun K "__eq__" "Ratio.__eq__" sREq f fd) (M : RtM K mg C fI dI) (B : Bl mg) : FnOk P w K mg base CX0 1 f fd ["self", "other"] (spREq C) := by
  refine F.ok sc_req (fun vs H Q E h => ?_) (fun cdv A outer s H vs Q E hr h => ?_)
  · obtain ⟨p, r, x, y, rfl, _⟩ := h
    rfl
  · obtain ⟨p, r, x, y, rfl, ⟨dx, hp⟩, ⟨dr, hr'⟩, q⟩ := h
    refine ⟨_, pss_one (ps_ret (pe_and (pe_callB (C8.call_isC M.ins) (by rfl) B.isi PyProof.Rows.boot_isinstance (pa_cons (pv 1) (pa_cons (pe_glob (v := .ref C) rfl M.c.mgC rfl) pa_nil)))
      (pe_and (pe_cmpR op_eq (pe_fld (pv 0) rfl) (pe_fld (pv 1) rfl) (nomark _)) (pe_one (pe_cmpR op_eq (pe_fld (pv 0) rfl) (pe_fld (pv 1) rfl) (nomark _)))))), ?_⟩
    refine ⟨_, rfl, r, dr, _, rfl, hr', true, rfl, iteT ?_⟩
    refine ⟨_, rfl, p, C, dx, _, _, rfl, hp, M.c.cl, M.c.nT, rf_top _ _, _, rfl, r, C, dr, _, _, rfl, hr', M.c.cl, M.c.nT, rf_top _ _, rfl, decide (x.1 = y.1), dec_v, ?_⟩
    by_cases c : x.1 = y.1
    · rw [decide_eq_true c]
      refine iteT ⟨_, rfl, p, C, dx, _, _, rfl, hp, M.c.cl, M.c.nB, rf_bot _ _, _, rfl, r, C, dr, _, _, rfl, hr', M.c.cl, M.c.nB, rf_bot _ _, rfl, ?_⟩
      have e : decide (V.int x.2 = V.int y.2) = decide (x = y) := by
        obtain ⟨a, b⟩ := x
        obtain ⟨a', b'⟩ := y
        simp only at c
        subst c
        simp
      rw [e]
      exact q
    · rw [decide_eq_false c]
      refine iteF ?_
      have e : decide (x = y) = false := decide_eq_false fun e => c (congrArg Prod.fst e)
      rw [e] at q
      exact q
end
end Tk

namespace Tk
open PySem PySem.Spec PyProof.Rows L2
def sumQ (qs : List (Int × Int)) : Int × Int := qs.foldl addQ (0, 1)
def spTotal (K : PySem.W.Frag) (C : Addr) : Sp := fun vs H Q _ => ∃ (a : Addr) (xs : List V) (qs : List (Int × Int)), vs = [.ref C, .ref a] ∧ SqA K H a xs ∧ xs.length = qs.length ∧ (∀ (i : Nat) (x : V) (q : Int × Int), xs[i]? = some x → qs[i]? = some q → NumAt C H x q ∧ Small q) ∧
  (∀ i, i ≤ qs.length → Small (sumQ (qs.take i))) ∧ ∀ H' r, Same H H' → RatAt C H' r (sumQ qs) → Q (.ref r) H'
section
variable {P : Program} {w : World} {K : PySem.W.Frag} {mg : Str → Option Value} {base : Heap}
abbrev nTot : List Str := ["cls", "numbers", "found", "number"]
theorem sc_total : FnScope nTot ["cls", "numbers"] (defScope sRTotal) := ⟨rfl, rfl, rfl, by decide +kernel, rfl, by decide +kernel, by decide +kernel⟩
theorem ok_total {f f1 f5 fA fI C : Addr} {fd fd1 fd5 dA dI : FuncData} (F : Fun K "total" "Ratio.total" sRTotal f fd) (M : RtM K mg C fI dI) (D1 : Df K mg "is_integer" sIsInt ["value"] f1 fd1) (D5 : Df K mg "is_list" sIsLst ["value"] f5 fd5)
    (T : NeO.BinT K C fA "add") (bA : Binds K dA ["self", "other"] []) (GA : FnOk P w K mg base CX0 5 fA dA ["self", "other"] (spBin C addQ)) (B : Bl mg) :
    FnOk P w K mg base CX0 6 f fd ["cls", "numbers"] (spTotal K C) := by
  have G5 : FnOk P w K mg base CX0 1 f5 fd5 ["value"] (spIsLst K) := ok_isLst D5.F B
  have GI : FnOk P w K mg base CX0 2 fI dI ["self", "top", "bottom"] (spRInit C) := ok_rinit M.FI M.c D1 B
  obtain ⟨tk, b1⟩ := M.bI1
  refine F.ok sc_total (fun vs H Q E h => ?_) (fun cdv A outer s H vs Q E hr h => ?_)
  · obtain ⟨a, xs, qs, rfl, _⟩ := h
    rfl
  · obtain ⟨a, xs, qs, rfl, hxs, hl, hq, hs, q⟩ := h
    refine ⟨_, pss_cons (ps_if (pt_not (pt_val (pe_call G5 (hr.mono (by decide)) rfl D5.g D5.F.kp D5.b .nil pass0 (pa_cons (pv 1) pa_nil)))) pss_never pss_nil)
      (pss_cons (ps_set (i := 2) sc_total.nd rfl (Or.inl rfl) (NeO.pe_makeL (i := 0) M.mkr GI (hr.mono (by decide)) rfl (Or.inl rfl) b1 (dvs := [V.int 1]) (.cons ⟨tk, rfl⟩ .nil) pass0 (pa_cons pe_int pa_nil)))
      (pss_cons (ps_for PassesOwn.never rfl (pi_sq (pv 1)) (pg_name (i := 3) sc_total.nd rfl (Or.inl rfl))
        (pss_one (ps_set (i := 2) sc_total.nd rfl (Or.inl rfl) (pe_op (opR_or (NeO.op_binI (op := .Add) T.first T.own T.fn GA hr bA) (NeO.op_binT (op := .Add) T GA hr bA)) (pv 2) (pv 3)))))
      (pss_one (ps_ret (pv 2))))), ?_⟩
    refine ⟨_, rfl, _, some xs, rfl, .sq hxs, fun H1 s1 => ⟨true, rfl, iteF ?_⟩⟩
    refine ⟨rfl, fun x dx nx ndx nex => ?_⟩
    have sm : Same H1 (upd (upd H1 dx (.own x)) x (.ins C dx [])) := fun b o e => by
      rw [upd_ne (ne_of_none e nx), upd_ne (ne_of_none e ndx)]
      exact e
    refine ⟨x, dx, 0, 1, rfl, upd_same, by decide, by decide, fun H2 keep hr0 => ⟨rfl, ?_⟩⟩
    have s02 : Same H H2 := s1.trans fun b o e => keep b o (ne_of_none e nx) (sm b o e)
    rw [low_one] at hr0
    refine ⟨_, rfl, a, xs, rfl, same_a s02 hxs, fun it hit => for_sq hit (fun i σ G => ∃ (r : Addr) (v3 : Option V), σ = [some (V.ref C), some (V.ref a), some (V.ref r), v3] ∧ Same H G ∧ Same H2 G ∧ RatAt C G r (sumQ (qs.take i)))
      ⟨x, none, rfl, s02, (fun _ _ h => h), by simpa [sumQ] using hr0⟩ (fun i σ G _ z => by obtain ⟨_, _, _, _, z, _⟩ := z; exact z) ?_ ?_⟩
    · rintro i y σ G hy ⟨r, v3, rfl, sG, s2G, hG⟩
      have hi := lt_of_at hy
      obtain ⟨z, hz⟩ : ∃ z, qs[i]? = some z := ⟨qs[i]'(by omega), by simp [show i < qs.length by omega]⟩
      obtain ⟨hn, sz⟩ := hq i y z hy hz
      have es : sumQ (qs.take (i + 1)) = addQ (sumQ (qs.take i)) z := by
        unfold sumQ
        rw [take_at hz, List.foldl_append]
        rfl
      have sm1 := hs i (by omega)
      obtain ⟨dr, hr'⟩ := id hG
      rcases num_s hn sG with ⟨p, rfl, dp, hp⟩ | ⟨j, rfl, rfl⟩
      · refine ⟨_, rfl, _, rfl, .inl ⟨r, p, dr, dp, _, _, rfl, rfl, hr', hp, ?_⟩⟩
        exact ⟨r, .ref p, _, z, rfl, hG, .inl ⟨p, rfl, dp, hp⟩, sm1, sz, fun H' u s2 _ hu => ⟨u, rfl, u, _, rfl, sG.trans s2, s2G.trans s2, by rw [es]; exact hu⟩⟩
      · refine ⟨_, rfl, _, rfl, .inr ⟨r, dr, _, j, rfl, rfl, hr', ?_⟩⟩
        exact ⟨r, .int j, _, (j, 1), rfl, hG, .inr ⟨j, rfl, rfl⟩, sm1, sz, fun H' u s2 _ hu => ⟨u, rfl, u, _, rfl, sG.trans s2, s2G.trans s2, by rw [es]; exact hu⟩⟩
    · rintro σ G ⟨r, v3, rfl, sG, s2G, hG⟩
      rw [hl, List.take_length] at hG
      exact ⟨_, rfl, q G r sG hG⟩
end
end Tk

namespace Tk
open PySem PySem.Spec PyProof.Rows L2
/-! ## signs, quotients, comparisons, texts of Ratios -/
def sgnQ (x : Int) : Int := if x = 0 then 0 else if 0 < x then 1 else -1
def spSign (C : Addr) : Sp := fun vs H Q _ => ∃ (p : Addr) (x : Int × Int), vs = [.ref p] ∧ RatAt C H p x ∧ Q (.int (sgnQ x.1)) H
def spWhole (C : Addr) : Sp := fun vs H Q _ => ∃ (p : Addr) (x : Int × Int), vs = [.ref p] ∧ RatAt C H p x ∧ Q (.bl (decide (x.2 = 1))) H
def spNeg (C : Addr) : Sp := fun vs H Q _ => ∃ (p : Addr) (x : Int × Int), vs = [.ref p] ∧ RatAt C H p x ∧ Small x ∧ ∀ H' r, Same H H' → RatAt C H' r (lowQ (-x.1) x.2) → Q (.ref r) H'
def spSize (C : Addr) : Sp := fun vs H Q _ => ∃ (p : Addr) (x : Int × Int), vs = [.ref p] ∧ RatAt C H p x ∧ Small x ∧ ∀ H' r, Same H H' → RatAt C H' r (lowQ (if x.1 < 0 then -x.1 else x.1) x.2) → Q (.ref r) H'
def overQ (x y : Int × Int) : Int × Int := lowQ (x.1 * y.2) (x.2 * y.1)
def spOver (C : Addr) : Sp := fun vs H Q _ => ∃ (p : Addr) (v : V) (x y : Int × Int), vs = [.ref p, v] ∧ RatAt C H p x ∧ NumAt C H v y ∧ Small x ∧ Small y ∧ y.1 ≠ 0 ∧ y.1.natAbs.log2 < 4000 ∧
  ∀ H' r, Same H H' → RatAt C H' r (overQ x y) → Q (.ref r) H'
def spBelow (C : Addr) (g : Int → Bool) : Sp := fun vs H Q _ => ∃ (p : Addr) (v : V) (x y : Int × Int), vs = [.ref p, v] ∧ RatAt C H p x ∧ NumAt C H v y ∧ Small x ∧ Small y ∧ ∀ H', Same H H' → Q (.bl (g (sgnQ (subQ x y).1))) H'
/-- == with a Ratio or an int -/
def spREqV (C : Addr) : Sp := fun vs H Q _ => ∃ (p : Addr) (v : V) (x : Int × Int), vs = [.ref p, v] ∧ RatAt C H p x ∧ ((∃ (r : Addr) (y : Int × Int), v = .ref r ∧ RatAt C H r y ∧ Q (.bl (decide (x = y))) H) ∨ (∃ i : Int, v = .int i) ∧ Q (.bl false) H)
def shQ (x : Int × Int) : Str := if x.2 = 1 then toString x.1 else (toString x.1 : Str) ++ ("/" : Str) ++ (toString x.2 : Str)
def rpQ (x : Int × Int) : Str := ("Ratio(" : Str) ++ (toString x.1 : Str) ++ (", " : Str) ++ (toString x.2 : Str) ++ (")" : Str)
def Tiny (x : Int × Int) : Prop := x.1.natAbs < 2 ^ 200 ∧ x.2.natAbs < 2 ^ 200
def spRShow (C : Addr) (g : Int × Int → Str) : Sp := fun vs H Q _ => ∃ (p : Addr) (x : Int × Int), vs = [.ref p] ∧ RatAt C H p x ∧ Tiny x ∧ Q (.str (g x)) H
theorem int_len {i : Int} (h : i.natAbs < 2 ^ 200) : (toString i : Str).length ≤ 201 := by
  show (Str.ofString (toString i)).length ≤ 201
  have l : i.natAbs.log2 < 200 := by
    by_cases h0 : i.natAbs = 0
    · rw [h0]; simp
    · exact (Nat.log2_lt h0).mpr h
  have e := int_text_length_le (k := 200) (by decide) l
  rw [PySem.ofString_length]
  omega
theorem tiny_log {i : Int} (h : i.natAbs < 2 ^ 200) : i.natAbs.log2 < 1920 := by
  by_cases h0 : i.natAbs = 0
  · rw [h0]; simp
  · exact Nat.lt_of_lt_of_le ((Nat.log2_lt h0).mpr h) (by decide)
theorem str_e (a : Str) : Str.empty ++ a = a := by
  cases a
  rename_i c
  show Str.mk (#[] ++ c) = Str.mk c
  rw [Array.empty_append]
section
variable {P : Program} {w : World} {K : PySem.W.Frag} {mg : Str → Option Value} {base : Heap}
theorem sc_rsign : FnScope ["self"] ["self"] (defScope sRSign) := ⟨rfl, rfl, rfl, by decide +kernel, rfl, by decide +kernel, by decide +kernel⟩
theorem ok_rsign {f C : Addr} {fd : FuncData} (F : Fun K "sign" "Ratio.sign" sRSign f fd) (T : RtC K mg C) : FnOk P w K mg base CX0 1 f fd ["self"] (spSign C) := by
  refine F.ok sc_rsign (fun vs H Q E h => ?_) (fun cdv A outer s H vs Q E hr h => ?_)
  · obtain ⟨p, x, rfl, _⟩ := h
    rfl
  · obtain ⟨p, x, rfl, ⟨dx, hp⟩, q⟩ := h
    refine ⟨_, pss_cons (ps_if (pt_cmpR op_eq (pe_fld (pv 0) rfl) pe_int (nomark _)) (pss_one (ps_ret pe_int)) pss_nil)
      (pss_one (ps_ret (pe_ifExp (pt_cmpR op_gt (pe_fld (pv 0) rfl) pe_int (nomark _)) pe_int (pe_un un_neg pe_int)))), ?_⟩
    refine ⟨_, rfl, p, C, dx, _, _, rfl, hp, T.cl, T.nT, rf_top _ _, rfl, _, rfl, ?_⟩
    by_cases c : x.1 = 0
    · rw [show decide (V.int x.1 = V.int 0) = true from decide_eq_true (by rw [c])]
      rw [show sgnQ x.1 = 0 by unfold sgnQ; rw [if_pos c]] at q
      exact iteT q
    · rw [show decide (V.int x.1 = V.int 0) = false from decide_eq_false (fun e => c (V.int.inj e))]
      refine iteF ⟨_, rfl, p, C, dx, _, _, rfl, hp, T.cl, T.nT, rf_top _ _, _, _, rfl, rfl, _, rfl, ?_⟩
      by_cases d : 0 < x.1
      · rw [decide_eq_true d]
        rw [show sgnQ x.1 = 1 by unfold sgnQ; rw [if_neg c, if_pos d]] at q
        exact iteT q
      · rw [decide_eq_false d]
        rw [show sgnQ x.1 = -1 by unfold sgnQ; rw [if_neg c, if_neg d]] at q
        exact iteF ⟨_, rfl, q⟩
theorem sc_rneg : FnScope ["self"] ["self"] (defScope sRNeg) := ⟨rfl, rfl, rfl, by decide +kernel, rfl, by decide +kernel, by decide +kernel⟩
theorem ok_rneg {f f1 fI C : Addr} {fd fd1 dI : FuncData} (F : Fun K "__neg__" "Ratio.__neg__" sRNeg f fd) (M : RtM K mg C fI dI) (D1 : Df K mg "is_integer" sIsInt ["value"] f1 fd1) (B : Bl mg) : FnOk P w K mg base CX0 4 f fd ["self"] (spNeg C) := by
  have GI : FnOk P w K mg base CX0 2 fI dI ["self", "top", "bottom"] (spRInit C) := ok_rinit M.FI M.c D1 B
  refine F.ok sc_rneg (fun vs H Q E h => ?_) (fun cdv A outer s H vs Q E hr h => ?_)
  · obtain ⟨p, x, rfl, _⟩ := h
    rfl
  · obtain ⟨p, x, rfl, ⟨dx, hp⟩, sx, q⟩ := h
    refine ⟨_, pss_one (ps_ret (pe_make M.mkr GI hr rfl M.c.mgC M.bI .nil pass0 (pa_cons (pe_un un_neg (pe_fld (pv 0) rfl)) (pa_cons (pe_fld (pv 0) rfl) pa_nil)))), ?_⟩
    have e1 := sx.pos
    have e3 := sx.bot
    refine ⟨_, rfl, p, C, dx, _, _, rfl, hp, M.c.cl, M.c.nT, rf_top _ _, _, rfl, _, rfl, p, C, dx, _, _, rfl, hp, M.c.cl, M.c.nB, rf_bot _ _, fun z dz nz ndz nez => ?_⟩
    have sm : Same H (upd (upd H dz (.own z)) z (.ins C dz [])) := fun b o e => by
      rw [upd_ne (ne_of_none e nz), upd_ne (ne_of_none e ndz)]
      exact e
    refine ⟨z, dz, -x.1, x.2, rfl, upd_same, by omega, by omega, fun H' keep hr' => ⟨rfl, ?_⟩⟩
    exact q H' z (fun b o e => keep b o (ne_of_none e nz) (sm b o e)) hr'
theorem sc_rsize : FnScope ["self"] ["self"] (defScope sRSize) := ⟨rfl, rfl, rfl, by decide +kernel, rfl, by decide +kernel, by decide +kernel⟩
theorem ok_rsize {f f1 fI C : Addr} {fd fd1 dI : FuncData} (F : Fun K "size" "Ratio.size" sRSize f fd) (M : RtM K mg C fI dI) (D1 : Df K mg "is_integer" sIsInt ["value"] f1 fd1) (B : Bl mg) : FnOk P w K mg base CX0 4 f fd ["self"] (spSize C) := by
  have GI : FnOk P w K mg base CX0 2 fI dI ["self", "top", "bottom"] (spRInit C) := ok_rinit M.FI M.c D1 B
  refine F.ok sc_rsize (fun vs H Q E h => ?_) (fun cdv A outer s H vs Q E hr h => ?_)
  · obtain ⟨p, x, rfl, _⟩ := h
    rfl
  · obtain ⟨p, x, rfl, ⟨dx, hp⟩, sx, q⟩ := h
    refine ⟨_, pss_one (ps_ret (pe_make M.mkr GI hr rfl M.c.mgC M.bI .nil pass0 (pa_cons (pe_callB call_abs (by rfl) B.abs PyProof.Rows.boot_abs (pa_cons (pe_fld (pv 0) rfl) pa_nil)) (pa_cons (pe_fld (pv 0) rfl) pa_nil)))), ?_⟩
    have e1 := sx.pos
    have e3 := sx.bot
    refine ⟨_, rfl, p, C, dx, _, _, rfl, hp, M.c.cl, M.c.nT, rf_top _ _, _, rfl, _, rfl, p, C, dx, _, _, rfl, hp, M.c.cl, M.c.nB, rf_bot _ _, fun z dz nz ndz nez => ?_⟩
    have sm : Same H (upd (upd H dz (.own z)) z (.ins C dz [])) := fun b o e => by
      rw [upd_ne (ne_of_none e nz), upd_ne (ne_of_none e ndz)]
      exact e
    refine ⟨z, dz, _, x.2, rfl, upd_same, by omega, by omega, fun H' keep hr' => ⟨rfl, ?_⟩⟩
    exact q H' z (fun b o e => keep b o (ne_of_none e nz) (sm b o e)) hr'
theorem sc_rstr : FnScope ["self"] ["self"] (defScope sRStr) := ⟨rfl, rfl, rfl, by decide +kernel, rfl, by decide +kernel, by decide +kernel⟩
theorem ok_rstr {f C : Addr} {fd : FuncData} (F : Fun K "__str__" "Ratio.__str__" sRStr f fd) (T : RtC K mg C) (ms : mg "str" = none) : FnOk P w K mg base CX0 1 f fd ["self"] (spRShow C shQ) := by
  refine F.ok sc_rstr (fun vs H Q E h => ?_) (fun cdv A outer s H vs Q E hr h => ?_)
  · obtain ⟨p, x, rfl, _⟩ := h
    rfl
  · obtain ⟨p, x, rfl, ⟨dx, hp⟩, ⟨t1, t2⟩, q⟩ := h
    refine ⟨_, pss_cons (ps_if (pt_cmpR op_eq (pe_fld (pv 0) rfl) pe_int (nomark _)) (pss_one (ps_ret (pe_callTy call_str_int (by rfl) ms PySem.Pv.boot_str (pa_cons (pe_fld (pv 0) rfl) pa_nil)))) pss_nil)
      (pss_one (ps_ret (pe_joined (.cons (pe_fmt (pe_fld (pv 0) rfl)) (.cons pe_str (.cons (pe_fmt (pe_fld (pv 0) rfl)) .nil)))))), ?_⟩
    have a1 := int_len t1
    have a2 := int_len t2
    have sz : sizeLine = 16777216 := rfl
    have l0 : Str.empty.length = 0 := rfl
    have l1 : (("/" : String) : Str).length = 1 := rfl
    refine ⟨_, rfl, p, C, dx, _, _, rfl, hp, T.cl, T.nB, rf_bot _ _, rfl, _, rfl, ?_⟩
    by_cases c : x.2 = 1
    · rw [show decide (V.int x.2 = V.int 1) = true from decide_eq_true (by rw [c])]
      rw [show shQ x = toString x.1 by unfold shQ; rw [if_pos c]] at q
      exact iteT ⟨_, rfl, p, C, dx, _, _, rfl, hp, T.cl, T.nT, rf_top _ _, _, rfl, tiny_log t1, q⟩
    · rw [show decide (V.int x.2 = V.int 1) = false from decide_eq_false (fun e => c (V.int.inj e))]
      rw [show shQ x = Str.empty ++ (toString x.1 : Str) ++ ("/" : Str) ++ (toString x.2 : Str) by unfold shQ; rw [if_neg c, str_e]] at q
      refine iteF ⟨_, rfl, p, C, dx, _, _, rfl, hp, T.cl, T.nT, rf_top _ _, .inr ⟨_, rfl, tiny_log t1, _, rfl, by simp only [strLen_append]; omega, _, rfl, by simp only [strLen_append]; omega, ?_⟩⟩
      exact ⟨_, rfl, p, C, dx, _, _, rfl, hp, T.cl, T.nB, rf_bot _ _, .inr ⟨_, rfl, tiny_log t2, _, rfl, by simp only [strLen_append]; omega, q⟩⟩
theorem sc_rrepr : FnScope ["self"] ["self"] (defScope sRRepr) := ⟨rfl, rfl, rfl, by decide +kernel, rfl, by decide +kernel, by decide +kernel⟩
theorem ok_rrepr {f C : Addr} {fd : FuncData} (F : Fun K "__repr__" "Ratio.__repr__" sRRepr f fd) (T : RtC K mg C) : FnOk P w K mg base CX0 1 f fd ["self"] (spRShow C rpQ) := by
  refine F.ok sc_rrepr (fun vs H Q E h => ?_) (fun cdv A outer s H vs Q E hr h => ?_)
  · obtain ⟨p, x, rfl, _⟩ := h
    rfl
  · obtain ⟨p, x, rfl, ⟨dx, hp⟩, ⟨t1, t2⟩, q⟩ := h
    refine ⟨_, pss_one (ps_ret (pe_joined (.cons pe_str (.cons (pe_fmt (pe_fld (pv 0) rfl)) (.cons pe_str (.cons (pe_fmt (pe_fld (pv 0) rfl)) (.cons pe_str .nil))))))), ?_⟩
    have a1 := int_len t1
    have a2 := int_len t2
    have sz : sizeLine = 16777216 := rfl
    have l0 : Str.empty.length = 0 := rfl
    have l1 : (("Ratio(" : String) : Str).length = 6 := rfl
    have l2 : ((", " : String) : Str).length = 2 := rfl
    have l3 : ((")" : String) : Str).length = 1 := rfl
    rw [show rpQ x = Str.empty ++ ("Ratio(" : Str) ++ (toString x.1 : Str) ++ (", " : Str) ++ (toString x.2 : Str) ++ (")" : Str) by unfold rpQ; rw [str_e]] at q
    refine ⟨_, rfl, by simp only [strLen_append]; omega, ?_⟩
    refine ⟨_, rfl, p, C, dx, _, _, rfl, hp, T.cl, T.nT, rf_top _ _, .inr ⟨_, rfl, tiny_log t1, _, rfl, by simp only [strLen_append]; omega, _, rfl, by simp only [strLen_append]; omega, ?_⟩⟩
    exact ⟨_, rfl, p, C, dx, _, _, rfl, hp, T.cl, T.nB, rf_bot _ _, .inr ⟨_, rfl, tiny_log t2, _, rfl, by simp only [strLen_append]; omega, _, rfl, by simp only [strLen_append]; omega, q⟩⟩
theorem ok_reqV {f fI C : Addr} {fd dI : FuncData} (F : Fun K "__eq__" "Ratio.__eq__" sREq f fd) (M : RtM K mg C fI dI) (B : Bl mg) : FnOk P w K mg base CX0 1 f fd ["self", "other"] (spREqV C) := by
  refine F.ok sc_req (fun vs H Q E h => ?_) (fun cdv A outer s H vs Q E hr h => ?_)
  · obtain ⟨p, v, x, rfl, _⟩ := h
    rfl
  · obtain ⟨p, v, x, rfl, ⟨dx, hp⟩, h⟩ := h
    refine ⟨_, pss_one (ps_ret (pe_and (pe_callB (callR_or (C8.call_isC M.ins) call_isi) (by rfl) B.isi PyProof.Rows.boot_isinstance (pa_cons (pv 1) (pa_cons (pe_glob (v := .ref C) rfl M.c.mgC rfl) pa_nil)))
      (pe_and (pe_cmpR op_eq (pe_fld (pv 0) rfl) (pe_fld (pv 1) rfl) (nomark _)) (pe_one (pe_cmpR op_eq (pe_fld (pv 0) rfl) (pe_fld (pv 1) rfl) (nomark _)))))), ?_⟩
    rcases h with ⟨r, y, rfl, ⟨dr, hr'⟩, q⟩ | ⟨⟨i, rfl⟩, q⟩
    · refine ⟨_, rfl, .inl ⟨r, dr, _, rfl, hr', true, rfl, iteT ?_⟩⟩
      refine ⟨_, rfl, p, C, dx, _, _, rfl, hp, M.c.cl, M.c.nT, rf_top _ _, _, rfl, r, C, dr, _, _, rfl, hr', M.c.cl, M.c.nT, rf_top _ _, rfl, decide (x.1 = y.1), dec_v, ?_⟩
      by_cases c : x.1 = y.1
      · rw [decide_eq_true c]
        refine iteT ⟨_, rfl, p, C, dx, _, _, rfl, hp, M.c.cl, M.c.nB, rf_bot _ _, _, rfl, r, C, dr, _, _, rfl, hr', M.c.cl, M.c.nB, rf_bot _ _, rfl, ?_⟩
        have e : decide (V.int x.2 = V.int y.2) = decide (x = y) := by
          obtain ⟨a, b⟩ := x
          obtain ⟨a', b'⟩ := y
          simp only at c
          subst c
          simp
        rw [e]
        exact q
      · rw [decide_eq_false c]
        refine iteF ?_
        have e : decide (x = y) = false := decide_eq_false fun e => c (congrArg Prod.fst e)
        rw [e] at q
        exact q
    · exact ⟨_, rfl, .inr ⟨_, _, _, _, false, rfl, .own C, .base (.int i), M.kI, false, rfl, iteF q⟩⟩
abbrev sBelowNames : List Str := ["self", "other"]
end
end Tk

namespace Tk
open PySem PySem.Spec PyProof.Rows L2
/-- of two unlike things of a plan of this size: True -/
def spIsPair (K : PySem.W.Frag) : Sp := fun vs H Q _ => ∃ (n i j : Int) (t : Addr), vs = [.int n, .ref t] ∧ SqT K H t [.int i, .int j] ∧ 0 ≤ i ∧ i < n ∧ 0 ≤ j ∧ j < n ∧ i ≠ j ∧ ∀ H', Same H H' → Q (.bl true) H'
/-- pairs of unlike things -/
def Prs (n : Int) (ps : List (Int × Int)) : Prop := ps.Nodup ∧ ps.length < 60 ∧ ∀ p ∈ ps, 0 ≤ p.1 ∧ p.1 < n ∧ 0 ≤ p.2 ∧ p.2 < n ∧ p.1 ≠ p.2
def spArePairs (K : PySem.W.Frag) : Sp := fun vs H Q _ => ∃ (n : Int) (a : Addr) (ps : List (Int × Int)), vs = [.int n, .ref a] ∧ PA2 K H a ps ∧ Prs n ps ∧ ∀ H', Same H H' → Q (.bl true) H'
section
variable {P : Program} {w : World} {K : PySem.W.Frag} {mg : Str → Option Value} {base : Heap}
end
end Tk

/-! plain mathematics: lists of pairs, orders, reaching -/
namespace Tk
theorem nodup_le {α : Type} [DecidableEq α] : ∀ {l m : List α}, l.Nodup → (∀ x ∈ l, x ∈ m) → l.length ≤ m.length
  | [], _, _, _ => Nat.zero_le _
  | x :: l, m, hn, hs => by
    have hx : x ∈ m := hs x (List.mem_cons_self ..)
    have hn' := List.nodup_cons.mp hn
    have h := nodup_le (l := l) (m := m.erase x) hn'.2 (fun y hy => by
      have hne : y ≠ x := fun e => hn'.1 (e ▸ hy)
      exact (List.mem_erase_of_ne hne).mpr (hs y (List.mem_cons_of_mem _ hy)))
    have hl := List.length_erase_of_mem hx
    have hp : 0 < m.length := List.length_pos_of_mem hx
    simp only [List.length_cons]
    omega
theorem nodup_eq {α : Type} [DecidableEq α] {l m : List α} (hl : l.Nodup) (hm : m.Nodup) (h : ∀ x, x ∈ l ↔ x ∈ m) : l.length = m.length :=
  Nat.le_antisymm (nodup_le hl fun x hx => (h x).mp hx) (nodup_le hm fun x hx => (h x).mpr hx)
/-- the things of a plan of this size -/
def things (n : Nat) : List Int := (List.range n).map Int.ofNat
theorem mem_things {n : Nat} {x : Int} : x ∈ things n ↔ 0 ≤ x ∧ x < n := by
  unfold things
  rw [List.mem_map]
  constructor
  · rintro ⟨k, hk, rfl⟩
    have := List.mem_range.mp hk
    exact ⟨by simp, by simpa using this⟩
  · rintro ⟨h0, h1⟩
    exact ⟨x.toNat, List.mem_range.mpr (by omega), by simp; omega⟩
theorem things_nodup (n : Nat) : (things n).Nodup := by
  unfold things
  show List.Pairwise _ _
  rw [List.pairwise_map]
  exact List.Pairwise.imp (fun h e => h (Int.ofNat.inj e)) (List.nodup_range (n := n))
theorem things_len (n : Nat) : (things n).length = n := by simp [things]

/-- along the list each arrow goes from an earlier to a later place -/
structure Topo (n : Nat) (ps : List (Int × Int)) (o : List Int) : Prop where
  nd : o.Nodup
  mem : ∀ x, x ∈ o ↔ x ∈ things n
  at_ : ∀ p ∈ ps, ∀ i j : Nat, o[i]? = some p.1 → o[j]? = some p.2 → i < j
/-- some numbering rises along the arrows -/
def Acy (ps : List (Int × Int)) : Prop := ∃ r : Int → Nat, ∀ p ∈ ps, r p.1 < r p.2
/-- an order on its way: o told, l left -/
structure OInv (n : Nat) (ps : List (Int × Int)) (o l : List Int) : Prop where
  no : o.Nodup
  nl : l.Nodup
  dj : ∀ x ∈ o, x ∉ l
  al : ∀ x, x ∈ things n ↔ x ∈ o ∨ x ∈ l
  st : ∀ p ∈ ps, p.2 ∈ o → p.1 ∈ o
  at_ : ∀ p ∈ ps, ∀ i j : Nat, o[i]? = some p.1 → o[j]? = some p.2 → i < j
theorem oinv_0 (n : Nat) (ps : List (Int × Int)) : OInv n ps [] (things n) :=
  ⟨List.nodup_nil, things_nodup n, (fun _ h => nomatch h), (fun x => by simp), (fun _ _ h => nomatch h), (fun _ _ i j h => by simp at h)⟩
theorem oinv_end {n : Nat} {ps : List (Int × Int)} {o : List Int} (h : OInv n ps o []) : Topo n ps o :=
  ⟨h.no, fun x => by rw [h.al x]; simp, h.at_⟩
/-- some thing left that nothing left pushes -/
theorem has_free {l : List Int} {ps : List (Int × Int)} (ha : Acy ps) (hl : l ≠ []) : ∃ x ∈ l, ∀ p ∈ ps, p.1 ∈ l → p.2 ≠ x := by
  obtain ⟨r, hr⟩ := ha
  have : ∀ (k : Nat) (x : Int), x ∈ l → r x ≤ k → ∃ y ∈ l, ∀ p ∈ ps, p.1 ∈ l → p.2 ≠ y := by
    intro k
    induction k with
    | zero =>
      intro x hx h0
      refine ⟨x, hx, fun p hp _ e => ?_⟩
      have := hr p hp
      rw [e] at this
      omega
    | succ k ih =>
      intro x hx h0
      by_cases c : ∃ p ∈ ps, p.1 ∈ l ∧ p.2 = x
      · obtain ⟨p, hp, h1, h2⟩ := c
        have := hr p hp
        rw [h2] at this
        exact ih p.1 h1 (by omega)
      · exact ⟨x, hx, fun p hp h1 h2 => c ⟨p, hp, h1, h2⟩⟩
  cases l with
  | nil => exact absurd rfl hl
  | cons x l => exact this (r x) x (List.mem_cons_self ..) (Nat.le_refl _)
/-- the ends of the arrows from what is left -/
def pushedL (ps : List (Int × Int)) (l : List Int) : List Int := (ps.filter fun p => decide (p.1 ∈ l)).map (·.2)
def freeL (ps : List (Int × Int)) (l : List Int) : List Int := l.filter fun x => !decide (x ∈ pushedL ps l)
theorem mem_pushedL {ps : List (Int × Int)} {l : List Int} {x : Int} : x ∈ pushedL ps l ↔ ∃ p ∈ ps, p.1 ∈ l ∧ p.2 = x := by
  unfold pushedL
  simp only [List.mem_map, List.mem_filter, decide_eq_true_eq]
  constructor
  · rintro ⟨p, ⟨h1, h2⟩, h3⟩; exact ⟨p, h1, h2, h3⟩
  · rintro ⟨p, h1, h2, h3⟩; exact ⟨p, ⟨h1, h2⟩, h3⟩
theorem mem_freeL {ps : List (Int × Int)} {l : List Int} {x : Int} : x ∈ freeL ps l ↔ x ∈ l ∧ ∀ p ∈ ps, p.1 ∈ l → p.2 ≠ x := by
  unfold freeL
  simp only [List.mem_filter, Bool.not_eq_true', decide_eq_false_iff_not, mem_pushedL]
  constructor
  · rintro ⟨h1, h2⟩; exact ⟨h1, fun p hp h3 h4 => h2 ⟨p, hp, h3, h4⟩⟩
  · rintro ⟨h1, h2⟩; exact ⟨h1, fun ⟨p, hp, h3, h4⟩ => h2 p hp h3 h4⟩
theorem freeL_ne {ps : List (Int × Int)} {l : List Int} (ha : Acy ps) (hl : l ≠ []) : freeL ps l ≠ [] := by
  obtain ⟨x, h1, h2⟩ := has_free ha hl
  intro e
  have : x ∈ freeL ps l := mem_freeL.mpr ⟨h1, h2⟩
  rw [e] at this
  exact nomatch this
theorem oinv_step {n : Nat} {ps : List (Int × Int)} {o l : List Int} {x : Int} (h : OInv n ps o l) (hr : ∀ p ∈ ps, p.1 ∈ things n) (hx : x ∈ freeL ps l) : OInv n ps (o ++ [x]) (l.erase x) := by
  obtain ⟨h1, h2⟩ := mem_freeL.mp hx
  have xo : x ∉ o := fun z => h.dj x z h1
  have starts : ∀ p ∈ ps, p.2 = x → p.1 ∈ o := fun p hp e => by
    rcases (h.al p.1).mp (hr p hp) with z | z
    · exact z
    · exact absurd e (h2 p hp z)
  refine ⟨?_, h.nl.erase x, ?_, ?_, ?_, ?_⟩
  · rw [List.nodup_append]
    refine ⟨h.no, by simp, ?_⟩
    intro a ha b hb e
    simp at hb
    subst hb
    subst e
    exact xo ha
  · intro y hy z
    rcases List.mem_append.mp hy with q | q
    · exact h.dj y q (List.mem_of_mem_erase z)
    · simp at q
      subst q
      exact (List.Nodup.not_mem_erase h.nl) z
  · intro y
    rw [h.al y]
    constructor
    · rintro (q | q)
      · exact .inl (List.mem_append_left _ q)
      · by_cases e : y = x
        · exact .inl (List.mem_append_right _ (by simp [e]))
        · exact .inr ((List.mem_erase_of_ne e).mpr q)
    · rintro (q | q)
      · rcases List.mem_append.mp q with q | q
        · exact .inl q
        · simp at q
          exact .inr (q ▸ h1)
      · exact .inr (List.mem_of_mem_erase q)
  · intro p hp q
    rcases List.mem_append.mp q with q | q
    · exact List.mem_append_left _ (h.st p hp q)
    · simp at q
      exact List.mem_append_left _ (starts p hp q)
  · intro p hp i j hi hj
    by_cases jl : j < o.length
    · rw [List.getElem?_append_left jl] at hj
      have hs : p.1 ∈ o := h.st p hp (List.mem_of_getElem? hj)
      by_cases il : i < o.length
      · rw [List.getElem?_append_left il] at hi
        exact h.at_ p hp i j hi hj
      · rw [List.getElem?_append_right (by omega)] at hi
        have : i - o.length = 0 := by
          cases e : i - o.length with
          | zero => rfl
          | succ k => rw [e] at hi; simp at hi
        rw [this] at hi
        simp at hi
        exact absurd (hi ▸ hs) xo
    · rw [List.getElem?_append_right (by omega)] at hj
      have j0 : j - o.length = 0 := by
        cases e : j - o.length with
        | zero => rfl
        | succ k => rw [e] at hj; simp at hj
      rw [j0] at hj
      simp at hj
      have hs := starts p hp hj.symm
      by_cases il : i < o.length
      · omega
      · rw [List.getElem?_append_right (by omega)] at hi
        have : i - o.length = 0 := by
          cases e : i - o.length with
          | zero => rfl
          | succ k => rw [e] at hi; simp at hi
        rw [this] at hi
        simp at hi
        exact absurd (hi ▸ hs) xo
theorem topo_len {n : Nat} {ps : List (Int × Int)} {o : List Int} (h : Topo n ps o) : o.length = n := by
  rw [nodup_eq h.nd (things_nodup n) h.mem, things_len]
end Tk

namespace Tk
open PySem PySem.Spec PyProof.Rows L2

theorem dec_bl {i j : Int} : V.bl (decide (V.int i = V.int j)) = V.bl (decide (i = j)) := by simp
theorem pl_ks {K : PySem.W.Frag} {H : Hp} : ∀ {ps : List (Int × Int)} {xs : List V}, DpAll K H xs (ps.map dP) → ∃ ks : List (Addr × List Int), xs = ks.map (fun p => V.ref p.1) ∧ ks.map (·.2) = ps.map (fun p => [p.1, p.2]) ∧ ∀ p ∈ ks, SqT K H p.1 (p.2.map V.int)
  | [], _, h => by cases h; exact ⟨[], rfl, rfl, fun p hp => nomatch hp⟩
  | p :: ps, _, h => by
    cases h with
    | cons h1 h2 =>
      obtain ⟨t, rfl, ht⟩ := dP_inv h1
      obtain ⟨ks, rfl, e2, h3⟩ := pl_ks h2
      refine ⟨(t, [p.1, p.2]) :: ks, rfl, by simp [e2], ?_⟩
      intro q hq
      rcases List.mem_cons.mp hq with rfl | hq
      · exact ht
      · exact h3 q hq
theorem prs_ks {n : Int} {ps : List (Int × Int)} (h : Prs n ps) {ks : List (Addr × List Int)} (e : ks.map (·.2) = ps.map (fun p => [p.1, p.2])) : (ks.map (·.2)).Nodup ∧ ks.length < 60 := by
  constructor
  · rw [e]
    show List.Pairwise _ _
    rw [List.pairwise_map]
    refine List.Pairwise.imp (fun {a b} hne q => hne ?_) h.1
    simp at q
    exact Prod.ext q.1 q.2
  · have := congrArg List.length e
    simp at this
    rw [this]
    exact h.2.1
theorem inV_int (i : Int) : ∀ l : List Int, inV (.int i) (l.map V.int) = decide (i ∈ l)
  | [] => by simp [inV]
  | x :: l => by
    have ih := inV_int i l
    unfold inV at ih ⊢
    rw [List.map_cons, List.any_cons, ih]
    have e : eqV (.int x) (.int i) = decide (i = x) := by
      show (x == i) = decide (i = x)
      by_cases h : x = i
      · subst h; simp
      · have h' : ¬ i = x := fun e => h e.symm
        simp [h, h']
    rw [e]
    simp [List.mem_cons]
theorem flat_ints (l : List Int) : (l.map V.int).all flatV = true := by
  rw [List.all_map]
  exact List.all_eq_true.mpr fun x _ => rfl
theorem in_bl {i : Int} {l : List Int} : V.bl (if false = true then !inV (.int i) (l.map V.int) else inV (.int i) (l.map V.int)) = V.bl (decide (i ∈ l)) := by
  rw [← inV_int]; rfl
theorem notin_bl {i : Int} {l : List Int} : V.bl (if true = true then !inV (.int i) (l.map V.int) else inV (.int i) (l.map V.int)) = V.bl (!decide (i ∈ l)) := by
  rw [← inV_int]; rfl

def spOrdOf (K : PySem.W.Frag) : Sp := fun vs H Q _ => ∃ (n : Nat) (a : Addr) (ps : List (Int × Int)), vs = [.int n, .ref a] ∧ PL K H a ps ∧ n ≤ 60 ∧ Prs n ps ∧ Acy ps ∧
  ∀ H' p o, Same H H' → H p = none → H' p = some (.lst (o.map V.int)) → Topo n ps o → Q (.ref p) H'
section
variable {P : Program} {w : World} {K : PySem.W.Frag} {mg : Str → Option Value} {base : Heap}
end
end Tk

namespace Tk
open PySem PySem.Spec PyProof.Rows L2
theorem at0 {x : Int} {l : List Int} : atI ((x :: l).map V.int) (0 : Int) = some (V.int x) := atI_nat (j := 0) rfl
theorem rgV_things (n : Nat) : rgV 0 (n : Int) = (things n).map V.int := by
  unfold rgV things
  rw [List.map_map]
  have e : ((n : Int) - 0).toNat = n := by omega
  rw [e]
  refine List.map_congr_left fun k _ => ?_
  show V.int (0 + (k : Int)) = V.int (Int.ofNat k)
  rw [Int.zero_add]; rfl
theorem pushed_take {ps : List (Int × Int)} {l : List Int} {i : Nat} {p : Int × Int} (h : ps[i]? = some p) :
    (pushedL (ps.take (i + 1)) l) = if p.1 ∈ l then pushedL (ps.take i) l ++ [p.2] else pushedL (ps.take i) l := by
  unfold pushedL
  rw [take_at h, List.filter_append, List.map_append]
  by_cases c : p.1 ∈ l
  · simp [c]
  · simp [c]
theorem filter_take {l : List Int} {f : Int → Bool} {i : Nat} {x : Int} (h : l[i]? = some x) : (l.take (i + 1)).filter f = if f x = true then (l.take i).filter f ++ [x] else (l.take i).filter f := by
  rw [take_at h, List.filter_append]
  by_cases c : f x = true
  · simp [c]
  · simp [c]
theorem take_all {α : Type} {l : List α} {n : Nat} (h : l.length = n) : l.take n = l := by rw [← h, List.take_length]
theorem erase_ix {l : List Int} {x : Int} (hx : x ∈ l) : ∃ j : Nat, l[j]? = some x ∧ (∀ m : Nat, m < j → l[m]? ≠ some x) ∧ l.eraseIdx j = l.erase x := by
  induction l with
  | nil => exact nomatch hx
  | cons y l ih =>
    by_cases e : y = x
    · subst e
      exact ⟨0, by simp, fun m hm => by omega, by simp⟩
    · have hx' : x ∈ l := by
        rcases List.mem_cons.mp hx with q | q
        · exact absurd q.symm e
        · exact q
      obtain ⟨j, h1, h2, h3⟩ := ih hx'
      refine ⟨j + 1, by simpa using h1, ?_, ?_⟩
      · intro m hm
        cases m with
        | zero => simp [e]
        | succ m => simpa using h2 m (by omega)
      · have e' : (y == x) = false := by simpa using e
        simp [List.erase_cons, e', h3]
section
variable {P : Program} {w : World} {K : PySem.W.Frag} {mg : Str → Option Value} {base : Heap}
abbrev nOrd : List Str := ["size", "arrows", "order", "left", "pushed", "free", "start", "end", "thing"]
end
end Tk

namespace Tk
open PySem PySem.Spec PyProof.Rows L2
def spAreArr (K : PySem.W.Frag) : Sp := fun vs H Q _ => ∃ (n : Nat) (a : Addr) (ps : List (Int × Int)), vs = [.int n, .ref a] ∧ PL K H a ps ∧ n ≤ 60 ∧ Prs n ps ∧ Acy ps ∧ ∀ H', Same H H' → Q (.bl true) H'
def spAreTies (K : PySem.W.Frag) : Sp := fun vs H Q _ => ∃ (n : Int) (a : Addr) (ps : List (Int × Int)), vs = [.int n, .ref a] ∧ PA2 K H a ps ∧ Prs n ps ∧ (∀ p ∈ ps, p.1 < p.2) ∧ ∀ H', Same H H' → Q (.bl true) H'
def spIsSize : Sp := fun vs H Q _ => ∃ i : Int, vs = [.int i] ∧ Q (.bl (decide (0 ≤ i) && decide (i ≤ 6))) H
def spChkSize : Sp := fun vs H Q _ => ∃ i : Int, vs = [.int i] ∧ 0 ≤ i ∧ i ≤ 6 ∧ Q .non H
section
variable {P : Program} {w : World} {K : PySem.W.Frag} {mg : Str → Option Value} {base : Heap}
theorem sc_isSize : FnScope ["value"] ["value"] (defScope sIsSize) := ⟨rfl, rfl, rfl, by decide +kernel, rfl, by decide +kernel, by decide +kernel⟩
theorem ok_isSize {f f1 f2 : Addr} {fd fd1 fd2 : FuncData} {tk : Tok} (F : Fun K "is_size" "is_size" sIsSize f fd) (D1 : Df K mg "is_integer" sIsInt ["value"] f1 fd1) (D2 : Df K mg "is_count" sIsCnt ["value"] f2 fd2)
    (hm : mg "MOST_THINGS" = some (.int 6 tk)) (B : Bl mg) : FnOk P w K mg base CX0 3 f fd ["value"] spIsSize := by
  have G2 : FnOk P w K mg base CX0 2 f2 fd2 ["value"] (spIsCnt K) := ok_isCnt D2.F D1 B
  refine F.ok sc_isSize (fun vs H Q E h => ?_) (fun cdv A outer s H vs Q E hr h => ?_)
  · obtain ⟨i, rfl, _⟩ := h
    rfl
  · obtain ⟨i, rfl, q⟩ := h
    refine ⟨_, pss_one (ps_ret (pe_and (pe_call G2 hr rfl D2.g D2.F.kp D2.b .nil pass0 (pa_cons (pv 0) pa_nil)) (pe_one (pe_cmpR op_le (pv 0) (pe_glob (v := .int 6) rfl hm ⟨_, rfl⟩) (nomark _))))), ?_⟩
    refine ⟨_, rfl, .int i, some i, rfl, .int i, _, rfl, ?_⟩
    show if decide (0 ≤ i) = true then _ else _
    by_cases h0 : 0 ≤ i
    · rw [decide_eq_true h0] at q ⊢
      rw [Bool.true_and] at q
      exact iteT ⟨_, rfl, _, _, rfl, rfl, q⟩
    · rw [decide_eq_false h0] at q ⊢
      exact iteF q
theorem sc_chkSize : FnScope ["size"] ["size"] (defScope sChkSize) := ⟨rfl, rfl, rfl, by decide +kernel, rfl, by decide +kernel, by decide +kernel⟩
theorem ok_chkSize {f f3 : Addr} {fd fd3 : FuncData} (F : Fun K "check_size" "check_size" sChkSize f fd) (D3 : Df K mg "is_size" sIsSize ["value"] f3 fd3) (G3 : FnOk P w K mg base CX0 3 f3 fd3 ["value"] spIsSize) :
    FnOk P w K mg base CX0 4 f fd ["size"] spChkSize := by
  refine F.ok sc_chkSize (fun vs H Q E h => ?_) (fun cdv A outer s H vs Q E hr h => ?_)
  · obtain ⟨i, rfl, _⟩ := h
    rfl
  · obtain ⟨i, rfl, h0, h1, q⟩ := h
    refine ⟨_, pss_one (ps_if (pt_not (pt_val (pe_call G3 hr rfl D3.g D3.F.kp D3.b .nil pass0 (pa_cons (pv 0) pa_nil)))) pss_never pss_nil), ?_⟩
    refine ⟨_, rfl, i, rfl, _, rfl, ?_⟩
    rw [decide_eq_true h0, decide_eq_true h1]
    exact iteF q
end
end Tk

namespace Tk
open PySem PySem.Spec PyProof.Rows L2
/-! ## Plan -/
theorem k_as : ¬ (("_arrows" : Str) = "_size") := by decide +kernel
theorem k_ts : ¬ (("_ties" : Str) = "_size") := by decide +kernel
theorem k_ta : ¬ (("_ties" : Str) = "_arrows") := by decide +kernel
theorem k_sa : ¬ (("_size" : Str) = "_arrows") := by decide +kernel
theorem k_st : ¬ (("_size" : Str) = "_ties") := by decide +kernel
theorem k_at : ¬ (("_arrows" : Str) = "_ties") := by decide +kernel
def pf (n : Int) (a t : Addr) : List (Str × V) := putF "_ties" (.ref t) (putF "_arrows" (.ref a) (putF "_size" (.int n) []))
theorem pf_size (n : Int) (a t : Addr) : (pf n a t).lookup ("_size" : Str) = some (.int n) := by
  unfold pf
  rw [lookup_putF, if_neg k_st, lookup_putF, if_neg k_sa, lookup_putF, if_pos rfl]
theorem pf_arr (n : Int) (a t : Addr) : (pf n a t).lookup ("_arrows" : Str) = some (.ref a) := by
  unfold pf
  rw [lookup_putF, if_neg k_at, lookup_putF, if_pos rfl]
theorem pf_ties (n : Int) (a t : Addr) : (pf n a t).lookup ("_ties" : Str) = some (.ref t) := by
  unfold pf
  rw [lookup_putF, if_pos rfl]
theorem pf_no (n : Int) (a t : Addr) {m : Str} (h1 : ¬ m = "_size") (h2 : ¬ m = "_arrows") (h3 : ¬ m = "_ties") : (pf n a t).lookup m = none := by
  unfold pf
  rw [lookup_putF, if_neg h3, lookup_putF, if_neg h2, lookup_putF, if_neg h1]
  all_goals rfl
theorem putF_len (f : Str) (v : V) : ∀ fs : List (Str × V), (putF f v fs).length ≤ fs.length + 1
  | [] => by simp [putF]
  | (g, x) :: r => by
    unfold putF
    split
    · simp
    · have := putF_len f v r
      simp; omega
/-- ps' is ps, sorted -/
def SortOf (ps ps' : List (Int × Int)) : Prop := ps'.Perm ps ∧ ps'.Pairwise fun p q => SrtO.lexB q p = false
def SrtPs (A : List (Int × Int)) : Prop := A.Pairwise fun p q => SrtO.lexB q p = false
theorem lex_anti {p q : Int × Int} (h : SrtO.lexB q p = false) (g : SrtO.lexB p q = false) : p = q := by
  have h1 : ¬ SrtO.lexB q p = true := by rw [h]; simp
  have g1 : ¬ SrtO.lexB p q = true := by rw [g]; simp
  rw [SrtO.lexB_iff] at h1 g1
  exact Prod.ext (by omega) (by omega)
theorem pairs_one {A B : List (Int × Int)} (s1 : SrtPs A) (n1 : A.Nodup) (s2 : SrtPs B) (n2 : B.Nodup) (m : ∀ p, p ∈ A ↔ p ∈ B) : A = B :=
  List.Perm.eq_of_pairwise (fun a b _ _ h1 h2 => lex_anti h1 h2) s1 s2 ((List.perm_ext_iff_of_nodup n1 n2).mpr m)
/-- a Plan stands at p -/
structure PlanAt (K : PySem.W.Frag) (C : Addr) (H : Hp) (p : Addr) (n : Nat) (as ts : List (Int × Int)) : Prop where
  ob : ∃ dx a t, H p = some (.ins C dx (pf n a t)) ∧ PL K H a as ∧ PL K H t ts
  n6 : n ≤ 6
  pa : Prs n as
  ac : Acy as
  pt : Prs n ts
  lt : ∀ q ∈ ts, q.1 < q.2
  sa : SrtPs as
  st : SrtPs ts
theorem plan_s {K : PySem.W.Frag} {C : Addr} {H H' : Hp} {p : Addr} {n : Nat} {as ts : List (Int × Int)} (h : PlanAt K C H p n as ts) (e : Same H H') : PlanAt K C H' p n as ts := by
  obtain ⟨⟨dx, a, t, h1, h2, h3⟩, n6, h4, h5, h6, h7, h8, h9⟩ := h
  exact ⟨⟨dx, a, t, e _ _ h1, pl_s h2 e, pl_s h3 e⟩, n6, h4, h5, h6, h7, h8, h9⟩
theorem prs_perm {n : Int} {ps qs : List (Int × Int)} (h : Prs n ps) (e : qs.Perm ps) : Prs n qs :=
  ⟨e.nodup_iff.mpr h.1, by rw [e.length_eq]; exact h.2.1, fun p hp => h.2.2 p (e.mem_iff.mp hp)⟩
theorem acy_perm {ps qs : List (Int × Int)} (h : Acy ps) (e : qs.Perm ps) : Acy qs := let ⟨r, hr⟩ := h; ⟨r, fun p hp => hr p (e.mem_iff.mp hp)⟩
/-- the pair that a value is in a heap -/
def prV (H : Hp) : V → Int × Int
  | .ref t => match H t with
    | some (.tup [.int i, .int j]) => (i, j)
    | _ => (0, 0)
  | _ => (0, 0)
theorem prV_eq {H : Hp} {t : Addr} {i j : Int} (h : H t = some (.tup [.int i, .int j])) : prV H (.ref t) = (i, j) := by
  unfold prV
  simp only [h]
/-- __init__ of a fresh Plan -/
def spInit (K : PySem.W.Frag) (C : Addr) : Sp := fun vs H Q _ => ∃ (p dx a t : Addr) (n : Nat) (as ts : List (Int × Int)), vs = [.ref p, .int n, .ref a, .ref t] ∧ H p = some (.ins C dx []) ∧ PL K H a as ∧ PA2 K H t ts ∧
  n ≤ 6 ∧ Prs n as ∧ Acy as ∧ Prs n ts ∧ (∀ q ∈ ts, q.1 < q.2) ∧
  ∀ H' as' ts', (∀ b o, b ≠ p → H b = some o → H' b = some o) → SortOf as as' → SortOf ts ts' → PlanAt K C H' p n as' ts' → Q .non H'
/-- facts of the class -/
structure PlC (K : PySem.W.Frag) (mg : Str → Option Value) (C : Addr) : Prop where
  cl : Cls K C
  nS : NoAttr K C "_size"
  nA : NoAttr K C "_arrows"
  nT : NoAttr K C "_ties"
  mgC : mg "Plan" = some (.ref C)
/-- [(i, j) for i, j in pairs], all tuples new, sorted -/
theorem sort_pairs {K : PySem.W.Frag} {H2 : Hp} {xs ys : List V} {ps : List (Int × Int)} (hl : xs.length = ps.length)
    (h : ∀ (i : Nat) (x : V), xs[i]? = some x → ∃ (t : Addr) (p : Int × Int), x = V.ref t ∧ ps[i]? = some p ∧ H2 t = some (.tup [.int p.1, .int p.2])) (s : SrtO.Srtd (ltP (prV H2)) ys) (b : SrtO.Stb (ltP (prV H2)) ys xs) :
    SortOf ps (ys.map (prV H2)) ∧ DpAll K H2 ys ((ys.map (prV H2)).map dP) := by
  have e : xs.map (prV H2) = ps := by
    refine List.ext_getElem? fun i => ?_
    rw [List.getElem?_map]
    cases hx : xs[i]? with
    | none =>
      have : ps[i]? = none := by
        rw [List.getElem?_eq_none_iff] at hx ⊢
        omega
      rw [this]; rfl
    | some x =>
      obtain ⟨t, p, rfl, hp, ht⟩ := h i x hx
      rw [hp]
      show some (prV H2 (.ref t)) = some p
      rw [prV_eq ht]
  refine ⟨⟨?_, ?_⟩, ?_⟩
  · rw [← e]
    exact b.perm.map _
  · rw [List.pairwise_map]
    exact s
  · have all : ∀ y ∈ ys, ∃ (t : Addr) (p : Int × Int), y = V.ref t ∧ H2 t = some (.tup [.int p.1, .int p.2]) := fun y hy => by
      obtain ⟨i, hi⟩ := List.getElem?_of_mem (b.perm.mem_iff.mp hy)
      obtain ⟨t, p, e1, _, e2⟩ := h i y hi
      exact ⟨t, p, e1, e2⟩
    clear s b e h hl
    induction ys with
    | nil => exact .nil
    | cons y ys ih =>
      obtain ⟨t, p, rfl, ht⟩ := all y (List.mem_cons_self ..)
      refine .cons ?_ (ih fun z hz => all z (List.mem_cons_of_mem _ hz))
      rw [prV_eq ht]
      exact dP_mk (st_of ht)

/-! what is no object stays where only the object changes -/
section
variable {K : PySem.W.Frag} {Ga Gb : Hp} {p C' dx' : Addr} {fs : List (Str × V)}
theorem obj_rd (hp : Ga p = some (.ins C' dx' fs)) (kp : ∀ b o, b ≠ p → Ga b = some o → Gb b = some o) {c : Addr} {u : HO} (nu : ∀ C' dx' fs, u ≠ .ins C' dx' fs) (h : Rd Ga c u) : Rd Gb c u := by
  rcases h with h | ⟨o, h⟩
  · exact .inl (kp _ _ (fun e => by rw [e, hp] at h; exact nu _ _ _ (Option.some.inj h).symm) h)
  · exact .inr ⟨o, kp _ _ (fun e => by rw [e, hp] at h; cases h) h⟩
theorem obj_l (hp : Ga p = some (.ins C' dx' fs)) (kp : ∀ b o, b ≠ p → Ga b = some o → Gb b = some o) {c : Addr} {ys : List V} (h : SqL K Ga c ys) : SqL K Gb c ys := h.elim (fun h => .inl (obj_rd hp kp (fun _ _ _ e => nomatch e) h)) .inr
theorem obj_t (hp : Ga p = some (.ins C' dx' fs)) (kp : ∀ b o, b ≠ p → Ga b = some o → Gb b = some o) {c : Addr} {ys : List V} (h : SqT K Ga c ys) : SqT K Gb c ys := h.elim (fun h => .inl (obj_rd hp kp (fun _ _ _ e => nomatch e) h)) .inr
theorem obj_d (hp : Ga p = some (.ins C' dx' fs)) (kp : ∀ b o, b ≠ p → Ga b = some o → Gb b = some o) : ∀ {ps : List (Int × Int)} {xs : List V}, DpAll K Ga xs (ps.map dP) → DpAll K Gb xs (ps.map dP)
  | [], _, h => by cases h; exact .nil
  | z :: zs, _, h => by
    cases h with
    | cons g1 g2 =>
      obtain ⟨t, rfl, ht⟩ := dP_inv g1
      exact .cons (dP_mk (obj_t hp kp ht)) (obj_d hp kp g2)
theorem obj_pl (hp : Ga p = some (.ins C' dx' fs)) (kp : ∀ b o, b ≠ p → Ga b = some o → Gb b = some o) {b : Addr} {ps : List (Int × Int)} (h : PL K Ga b ps) : PL K Gb b ps := let ⟨xs, h1, h2⟩ := h; ⟨xs, obj_l hp kp h1, obj_d hp kp h2⟩
theorem obj_pa2 (hp : Ga p = some (.ins C' dx' fs)) (kp : ∀ b o, b ≠ p → Ga b = some o → Gb b = some o) {b : Addr} {ps : List (Int × Int)} (h : PA2 K Ga b ps) : PA2 K Gb b ps := let ⟨xs, h1, h2⟩ := h; ⟨xs, h1.elim (fun h => .inl (obj_l hp kp h)) (fun h => .inr (obj_t hp kp h)), obj_d hp kp h2⟩
end
section
variable {P : Program} {w : World} {K : PySem.W.Frag} {mg : Str → Option Value} {base : Heap}
abbrev nInit : List Str := ["self", "size", "arrows", "ties", "start", "end", "low", "high"]
end
end Tk

namespace Tk
/-- along the pairs one comes from a to b -/
inductive Reach (ps : List (Int × Int)) (a : Int) : Int → Prop
  | refl : Reach ps a a
  | tail {b c : Int} : Reach ps a b → (b, c) ∈ ps → Reach ps a c
theorem Reach.trans {ps : List (Int × Int)} {a b c : Int} (h : Reach ps a b) (g : Reach ps b c) : Reach ps a c := by
  induction g with
  | refl => exact h
  | tail _ hp ih => exact .tail ih hp
theorem Reach.head {ps : List (Int × Int)} {a b c : Int} (h : (a, b) ∈ ps) (g : Reach ps b c) : Reach ps a c := Reach.trans (.tail .refl h) g
theorem Reach.sub {ps qs : List (Int × Int)} {a b : Int} (h : Reach ps a b) (s : ∀ p ∈ ps, p ∈ qs) : Reach qs a b := by
  induction h with
  | refl => exact .refl
  | tail _ hp ih => exact .tail ih (s _ hp)
def swp (p : Int × Int) : Int × Int := (p.2, p.1)
theorem Reach.swap {ps : List (Int × Int)} {a b : Int} (h : Reach ps a b) : Reach (ps.map swp) b a := by
  induction h with
  | refl => exact .refl
  | @tail b c _ hp ih =>
    have : (c, b) ∈ ps.map swp := List.mem_map.mpr ⟨(b, c), hp, rfl⟩
    exact Reach.head this ih
theorem swp_swp (ps : List (Int × Int)) : (ps.map swp).map swp = ps := by
  rw [List.map_map]
  have : swp ∘ swp = id := by funext p; rfl
  rw [this, List.map_id]
theorem reach_swap {ps : List (Int × Int)} {a b : Int} : Reach (ps.map swp) a b ↔ Reach ps b a :=
  ⟨fun h => by have := h.swap; rw [swp_swp] at this; exact this, Reach.swap⟩
/-- a search on its way -/
structure RInv (n : Nat) (ps : List (Int × Int)) (st : Int) (fo wa : List Int) : Prop where
  nd : fo.Nodup
  th : ∀ x ∈ fo, x ∈ things n
  ss : st ∈ fo
  re : ∀ x ∈ fo, Reach ps st x
  wf : ∀ x ∈ wa, x ∈ fo
  cl : ∀ x ∈ fo, x ∉ wa → ∀ p ∈ ps, p.1 = x → p.2 ∈ fo
def freshL (ps : List (Int × Int)) (fo : List Int) (x : Int) : List Int := (ps.filter fun p => decide (p.1 = x) && !decide (p.2 ∈ fo)).map (·.2)
theorem mem_freshL {ps : List (Int × Int)} {fo : List Int} {x y : Int} : y ∈ freshL ps fo x ↔ (x, y) ∈ ps ∧ y ∉ fo := by
  unfold freshL
  simp only [List.mem_map, List.mem_filter, Bool.and_eq_true, decide_eq_true_eq, Bool.not_eq_true', decide_eq_false_iff_not]
  constructor
  · rintro ⟨⟨a, b⟩, ⟨h1, h2, h3⟩, rfl⟩
    simp at h2
    subst h2
    exact ⟨h1, h3⟩
  · rintro ⟨h1, h2⟩
    exact ⟨(x, y), ⟨h1, rfl, h2⟩, rfl⟩
theorem freshL_nodup {ps : List (Int × Int)} (hn : ps.Nodup) (fo : List Int) (x : Int) : (freshL ps fo x).Nodup := by
  unfold freshL
  show List.Pairwise _ _
  rw [List.pairwise_map]
  have h : (ps.filter fun p => decide (p.1 = x) && !decide (p.2 ∈ fo)).Nodup := hn.filter _
  refine List.Pairwise.imp_of_mem (fun {a b} ha hb hne e => hne ?_) h
  have h1 := (List.mem_filter.mp ha).2
  have h2 := (List.mem_filter.mp hb).2
  simp at h1 h2
  exact Prod.ext (h1.1.trans h2.1.symm) e
theorem rinv_0 {n : Nat} {ps : List (Int × Int)} {st : Int} (h : st ∈ things n) : RInv n ps st [st] [st] :=
  ⟨by simp, (fun x hx => by simp at hx; exact hx ▸ h), by simp, (fun x hx => by simp at hx; rw [hx]; exact .refl), (fun x hx => hx), (fun x hx hw => absurd hx hw)⟩
theorem rinv_step {n : Nat} {ps : List (Int × Int)} {st x : Int} {fo wa : List Int} (h : RInv n ps st fo (wa ++ [x])) (hn : ps.Nodup) (hr : ∀ p ∈ ps, p.2 ∈ things n) :
    RInv n ps st (fo ++ freshL ps fo x) (wa ++ freshL ps fo x) := by
  have hx : x ∈ fo := h.wf x (by simp)
  refine ⟨?_, ?_, ?_, ?_, ?_, ?_⟩
  · rw [List.nodup_append]
    refine ⟨h.nd, freshL_nodup hn fo x, ?_⟩
    intro a ha b hb e
    subst e
    exact (mem_freshL.mp hb).2 ha
  · intro y hy
    rcases List.mem_append.mp hy with q | q
    · exact h.th y q
    · exact hr _ (mem_freshL.mp q).1
  · exact List.mem_append_left _ h.ss
  · intro y hy
    rcases List.mem_append.mp hy with q | q
    · exact h.re y q
    · exact .tail (h.re x hx) (mem_freshL.mp q).1
  · intro y hy
    rcases List.mem_append.mp hy with q | q
    · exact List.mem_append_left _ (h.wf y (List.mem_append_left _ q))
    · exact List.mem_append_right _ q
  · intro y hy hw p hp e
    have hw1 : y ∉ wa := fun q => hw (List.mem_append_left _ q)
    have hw2 : y ∉ freshL ps fo x := fun q => hw (List.mem_append_right _ q)
    have hy' : y ∈ fo := by
      rcases List.mem_append.mp hy with q | q
      · exact q
      · exact absurd q hw2
    by_cases c : y = x
    · by_cases d : p.2 ∈ fo
      · exact List.mem_append_left _ d
      · refine List.mem_append_right _ (mem_freshL.mpr ⟨?_, d⟩)
        have : (x, p.2) = p := Prod.ext (by show x = p.1; rw [e, c]) rfl
        rw [this]; exact hp
    · refine List.mem_append_left _ (h.cl y hy' (fun q => ?_) p hp e)
      rcases List.mem_append.mp q with q | q
      · exact hw1 q
      · simp at q
        exact c q
theorem rinv_end {n : Nat} {ps : List (Int × Int)} {st : Int} {fo : List Int} (h : RInv n ps st fo []) (y : Int) : y ∈ fo ↔ Reach ps st y := by
  refine ⟨h.re y, fun r => ?_⟩
  induction r with
  | refl => exact h.ss
  | tail _ hp ih => exact h.cl _ ih (by simp) _ hp rfl
theorem rinv_len {n : Nat} {ps : List (Int × Int)} {st : Int} {fo wa : List Int} (h : RInv n ps st fo wa) : fo.length ≤ n := by
  have := nodup_le h.nd (m := things n) (fun x hx => h.th x hx)
  rw [things_len] at this
  exact this
/-- two rising lists with the same members -/
theorem rise_eq : ∀ {l m : List Int}, l.Pairwise (· < ·) → m.Pairwise (· < ·) → (∀ x, x ∈ l ↔ x ∈ m) → l = m
  | [], [], _, _, _ => rfl
  | [], y :: m, _, _, h => absurd ((h y).mpr (List.mem_cons_self ..)) (by simp)
  | x :: l, [], _, _, h => absurd ((h x).mp (List.mem_cons_self ..)) (by simp)
  | x :: l, y :: m, hl, hm, h => by
    have hl' := List.pairwise_cons.mp hl
    have hm' := List.pairwise_cons.mp hm
    have e : x = y := by
      have h1 := (h x).mp (List.mem_cons_self ..)
      have h2 := (h y).mpr (List.mem_cons_self ..)
      rcases List.mem_cons.mp h1 with q | q
      · exact q
      · rcases List.mem_cons.mp h2 with r | r
        · exact r.symm
        · have a := hm'.1 x q
          have b := hl'.1 y r
          omega
    subst e
    refine congrArg (x :: ·) (rise_eq hl'.2 hm'.2 fun z => ?_)
    constructor
    · intro hz
      rcases List.mem_cons.mp ((h z).mp (List.mem_cons_of_mem _ hz)) with q | q
      · have := hl'.1 z hz
        omega
      · exact q
    · intro hz
      rcases List.mem_cons.mp ((h z).mpr (List.mem_cons_of_mem _ hz)) with q | q
      · have := hm'.1 z hz
        omega
      · exact q
theorem things_rise (n : Nat) : (things n).Pairwise (· < ·) := by
  unfold things
  rw [List.pairwise_map]
  exact List.Pairwise.imp (fun h => by simpa using h) (List.pairwise_lt_range (n := n))
theorem le_nodup_lt {l : List Int} (h : l.Pairwise (· ≤ ·)) (n : l.Nodup) : l.Pairwise (· < ·) := by
  have : l.Pairwise (fun a b => a ≤ b ∧ a ≠ b) := List.Pairwise.and h n
  exact this.imp fun h => by omega
/-- earlier in the order -/
theorem topo_reach {n : Nat} {ps : List (Int × Int)} {o : List Int} (h : Topo n ps o) (hr : ∀ p ∈ ps, p.1 ∈ things n ∧ p.2 ∈ things n) {a b : Int} (r : Reach ps a b) (ha : a ∈ things n) :
    b ∈ things n ∧ (a ≠ b → ∀ i j : Nat, o[i]? = some a → o[j]? = some b → i < j) := by
  induction r with
  | refl => exact ⟨ha, fun q => absurd rfl q⟩
  | @tail b c _ hp ih =>
    refine ⟨(hr _ hp).2, fun _ i j hi hj => ?_⟩
    obtain ⟨k, hk⟩ := List.getElem?_of_mem ((h.mem b).mpr ih.1)
    have kj := h.at_ _ hp k j hk hj
    by_cases e : a = b
    · subst e
      have ik : i = k := by
        have hi' := List.getElem?_eq_some_iff.mp hi
        have hk' := List.getElem?_eq_some_iff.mp hk
        obtain ⟨hi1, hi2⟩ := hi'
        obtain ⟨hk1, hk2⟩ := hk'
        exact (List.getElem_inj h.nd).mp (hi2.trans hk2.symm)
      omega
    · have := ih.2 e i k hi hk
      omega
theorem acy_irr {ps : List (Int × Int)} (h : Acy ps) {a b : Int} (r1 : Reach ps a b) (r2 : Reach ps b a) : a = b := by
  obtain ⟨r, hr⟩ := h
  have le : ∀ {x y : Int}, Reach ps x y → x = y ∨ r x < r y := by
    intro x y q
    induction q with
    | refl => exact .inl rfl
    | tail _ hp ih =>
      have := hr _ hp
      simp at this
      rcases ih with e | l
      · right; rw [e]; exact this
      · right; omega
  rcases le r1 with e | l1
  · exact e
  · rcases le r2 with e | l2
    · exact e.symm
    · omega
end Tk

namespace Tk
open PySem PySem.Spec PyProof.Rows L2
/-- tuples that stand for the first k pairs -/
def TA (G : Hp) (acc : List V) (ps : List (Int × Int)) (k : Nat) : Prop :=
  acc.length = k ∧ ∀ (i : Nat) (x : V), acc[i]? = some x → ∃ (t : Addr) (z : Int × Int), x = V.ref t ∧ ps[i]? = some z ∧ G t = some (.tup [.int z.1, .int z.2])
theorem ta_0 (G : Hp) (ps : List (Int × Int)) : TA G [] ps 0 := ⟨rfl, fun i x h => by simp at h⟩
theorem ta_put {G : Hp} {acc : List V} {ps : List (Int × Int)} {k : Nat} {D v : Addr} {z : Int × Int} {o : List V} (h : TA G acc ps k) (hD : G D = some (.lst o)) (hv : G v = none) (hz : ps[k]? = some z) :
    TA (upd (upd G v (.tup [.int z.1, .int z.2])) D (.lst (acc ++ [.ref v]))) (acc ++ [.ref v]) ps (k + 1) := by
  obtain ⟨hl, ha⟩ := h
  have nvD : v ≠ D := fun e => by rw [e, hD] at hv; cases hv
  refine ⟨by simp [hl], fun m x hm => ?_⟩
  by_cases c : m < acc.length
  · rw [List.getElem?_append_left c] at hm
    obtain ⟨t, w, e1, e2, e3⟩ := ha m x hm
    have n1 : t ≠ v := fun e => by rw [e, hv] at e3; cases e3
    have n2 : t ≠ D := fun e => by rw [e, hD] at e3; cases e3
    exact ⟨t, w, e1, e2, by rw [upd_ne n2, upd_ne n1]; exact e3⟩
  · rw [List.getElem?_append_right (by omega)] at hm
    have m0 : m - acc.length = 0 := by
      cases e : m - acc.length with
      | zero => rfl
      | succ k => rw [e] at hm; simp at hm
    rw [m0] at hm
    simp at hm
    have em : m = k := by omega
    subst em
    exact ⟨v, z, hm.symm, hz, by rw [upd_ne nvD, upd_same]⟩
theorem ta_dps {K : PySem.W.Frag} {G : Hp} : ∀ {acc : List V} {ps : List (Int × Int)}, TA G acc ps ps.length → DpAll K G acc (ps.map dP) := by
  intro acc ps
  induction ps generalizing acc with
  | nil =>
    intro h
    have : acc = [] := List.length_eq_zero_iff.mp h.1
    subst this
    exact .nil
  | cons p ps ih =>
    intro h
    cases acc with
    | nil => have := h.1; simp at this
    | cons x acc =>
      obtain ⟨t, z, e1, e2, e3⟩ := h.2 0 x (by simp)
      simp at e2
      subst e2
      rw [e1]
      refine .cons (dP_mk (st_of e3)) (ih ⟨by have := h.1; simpa using this, fun i y hy => ?_⟩)
      obtain ⟨t', z', f1, f2, f3⟩ := h.2 (i + 1) y (by simpa using hy)
      exact ⟨t', z', f1, by simpa using f2, f3⟩
theorem ta_s {G G' : Hp} {acc : List V} {ps : List (Int × Int)} {k : Nat} (h : TA G acc ps k) (e : Same G G') : TA G' acc ps k :=
  ⟨h.1, fun i x hx => let ⟨t, z, a, b, c⟩ := h.2 i x hx; ⟨t, z, a, b, e _ _ c⟩⟩

/-- a list, new or not, of pairs -/
abbrev PM (K : PySem.W.Frag) (H : Hp) (a : Addr) (ps : List (Int × Int)) : Prop := ∃ xs, H a = some (.lst xs) ∧ DpAll K H xs (ps.map dP)
theorem pm_pl {K : PySem.W.Frag} {H : Hp} {a : Addr} {ps : List (Int × Int)} (h : PM K H a ps) : PL K H a ps := let ⟨xs, h1, h2⟩ := h; ⟨xs, sl_of h1, h2⟩
theorem pm_s {K : PySem.W.Frag} {H H' : Hp} {a : Addr} {ps : List (Int × Int)} (h : PM K H a ps) (e : Same H H') : PM K H' a ps := let ⟨xs, h1, h2⟩ := h; ⟨xs, e _ _ h1, dps_s h2 e⟩
def spReached (K : PySem.W.Frag) : Sp := fun vs H Q _ => ∃ (n : Nat) (a : Addr) (st : Int) (ps : List (Int × Int)), vs = [.ref a, .int st] ∧ PL K H a ps ∧ n ≤ 60 ∧ Prs n ps ∧ st ∈ things n ∧
  ∀ (H' : Hp) (p : Addr) (fo : List Int), Same H H' → H p = none → H' p = some (.lst (fo.map V.int)) → fo.Nodup → (∀ x ∈ fo, x ∈ things n) → (∀ y, y ∈ fo ↔ Reach ps st y) → Q (.ref p) H'
def spArr (K : PySem.W.Frag) (C : Addr) : Sp := fun vs H Q _ => ∃ (p : Addr) (n : Nat) (as ts : List (Int × Int)), vs = [.ref p] ∧ PlanAt K C H p n as ts ∧ ∀ H' l, Same H H' → H l = none → PM K H' l as → Q (.ref l) H'
def spChkPlan (C : Addr) : Sp := fun vs H Q _ => ∃ (p dx : Addr) (fs : List (Str × V)), vs = [.ref p] ∧ H p = some (.ins C dx fs) ∧ Q .non H
section
variable {P : Program} {w : World} {K : PySem.W.Frag} {mg : Str → Option Value} {base : Heap}
abbrev nReach : List Str := ["pairs", "start", "found", "waiting", "thing", "fresh", "here", "end"]
end
end Tk

/-! plain mathematics of lots -/
namespace Tk
def turnL (ps : List (Int × Int)) : List (Int × Int) := ps.map swp
def both (ps : List (Int × Int)) : List (Int × Int) := ps ++ turnL ps
def withinL (ps : List (Int × Int)) (lot : List Int) : List (Int × Int) := ps.filter fun p => decide (p.1 ∈ lot) && decide (p.2 ∈ lot)
theorem mem_turnL {ps : List (Int × Int)} {x y : Int} : (x, y) ∈ turnL ps ↔ (y, x) ∈ ps := by
  unfold turnL
  rw [List.mem_map]
  constructor
  · rintro ⟨⟨a, b⟩, h, e⟩
    have e1 : b = x := congrArg Prod.fst e
    have e2 : a = y := congrArg Prod.snd e
    rw [← e1, ← e2]; exact h
  · intro h
    exact ⟨(y, x), h, rfl⟩
theorem mem_both {ps : List (Int × Int)} {x y : Int} : (x, y) ∈ both ps ↔ (x, y) ∈ ps ∨ (y, x) ∈ ps := by
  unfold both
  rw [List.mem_append, mem_turnL]
theorem mem_withinL {ps : List (Int × Int)} {lot : List Int} {x y : Int} : (x, y) ∈ withinL ps lot ↔ (x, y) ∈ ps ∧ x ∈ lot ∧ y ∈ lot := by
  unfold withinL
  simp
theorem both_sym {ps : List (Int × Int)} {a b : Int} (h : Reach (both ps) a b) : Reach (both ps) b a := by
  induction h with
  | refl => exact .refl
  | tail _ hp ih => exact Reach.head (mem_both.mpr ((mem_both.mp hp).symm)) ih
/-- who leads to whom within a lot, turned about -/
def upIn (as : List (Int × Int)) (lot : List Int) : List (Int × Int) := turnL (withinL as lot)
theorem mem_upIn {as : List (Int × Int)} {lot : List Int} {x y : Int} : (x, y) ∈ upIn as lot ↔ (y, x) ∈ as ∧ y ∈ lot ∧ x ∈ lot := by
  unfold upIn
  rw [mem_turnL, mem_withinL]
theorem reach_in {ps : List (Int × Int)} {lot : List Int} {a b : Int} (h : Reach ps a b) (ha : a ∈ lot) (s : ∀ p ∈ ps, p.2 ∈ lot) : b ∈ lot := by
  cases h with
  | refl => exact ha
  | tail _ hp => exact s _ hp
theorem up_in {as : List (Int × Int)} {lot : List Int} {a b : Int} (h : Reach (upIn as lot) a b) (ha : a ∈ lot) : b ∈ lot :=
  reach_in h ha fun ⟨x, y⟩ hp => (mem_upIn.mp hp).2.1
/-- all of the lot lead to x within it -/
def IsHead (as : List (Int × Int)) (lot : List Int) (x : Int) : Prop := ∀ y ∈ lot, Reach (upIn as lot) x y
noncomputable def headB (as : List (Int × Int)) (lot : List Int) (x : Int) : Bool := @decide (IsHead as lot x) (Classical.propDecidable _)
theorem headB_iff {as : List (Int × Int)} {lot : List Int} {x : Int} : headB as lot x = true ↔ IsHead as lot x := by
  unfold headB
  exact @decide_eq_true_iff _ (Classical.propDecidable _)
noncomputable def headsL (as : List (Int × Int)) (lot : List Int) : List Int := lot.filter (headB as lot)
/-- a search from x that ended has as many as the lot just if all of the lot are met -/
theorem met_all {ps : List (Int × Int)} {lot fo : List Int} {x : Int} (nl : lot.Nodup) (nf : fo.Nodup) (hf : ∀ y, y ∈ fo ↔ Reach ps x y) (inn : ∀ y, Reach ps x y → y ∈ lot) : fo.length = lot.length ↔ ∀ y ∈ lot, Reach ps x y := by
  constructor
  · intro e y hy
    refine (hf y).mp (Classical.byContradiction fun c => ?_)
    have := nodup_le (l := y :: fo) (m := lot) (List.nodup_cons.mpr ⟨c, nf⟩) (fun z hz => by
      rcases List.mem_cons.mp hz with q | q
      · exact q ▸ hy
      · exact inn z ((hf z).mp q))
    rw [List.length_cons] at this
    omega
  · intro h
    exact nodup_eq nf nl fun y => ⟨fun hy => inn y ((hf y).mp hy), fun hy => (hf y).mpr (h y hy)⟩
theorem le_lt {l : List Int} (h : l.Pairwise (· ≤ ·)) (n : l.Nodup) : l.Pairwise (· < ·) := by
  induction l with
  | nil => exact .nil
  | cons x l ih =>
    have h1 := List.pairwise_cons.mp h
    have n1 := List.nodup_cons.mp n
    refine List.pairwise_cons.mpr ⟨fun y hy => ?_, ih h1.2 n1.2⟩
    have a := h1.1 y hy
    have b : x ≠ y := fun e => n1.1 (e ▸ hy)
    omega
theorem lt_nd {l : List Int} (h : l.Pairwise (· < ·)) : l.Nodup := List.Pairwise.imp (fun {a b} c e => by omega) h
/-- sorted, it is the lot just if all of the lot are met -/
theorem met_sorted {ps : List (Int × Int)} {lot fo ns : List Int} {x : Int} (rl : lot.Pairwise (· < ·)) (nf : fo.Nodup) (hf : ∀ y, y ∈ fo ↔ Reach ps x y) (inn : ∀ y, Reach ps x y → y ∈ lot) (pm : ns.Perm fo) (so : ns.Pairwise (· ≤ ·)) : ns = lot ↔ ∀ y ∈ lot, Reach ps x y := by
  constructor
  · rintro rfl y hy
    exact (hf y).mp (pm.mem_iff.mp hy)
  · intro h
    refine rise_eq (le_lt so (pm.nodup_iff.mpr nf)) rl fun y => ?_
    rw [pm.mem_iff, hf]
    exact ⟨inn y, h y⟩
theorem reach_iff {ps qs : List (Int × Int)} {lot : List Int} {a b : Int} (ha : a ∈ lot) (sp : ∀ x y, x ∈ lot → ((x, y) ∈ ps ↔ (x, y) ∈ qs)) (inn : ∀ p ∈ qs, p.2 ∈ lot) : Reach ps a b ↔ Reach qs a b := by
  constructor
  · intro h
    induction h with
    | refl => exact .refl
    | tail _ hp ih => exact .tail ih ((sp _ _ (reach_in ih ha inn)).mp hp)
  · intro h
    induction h with
    | refl => exact .refl
    | tail g hp ih => exact .tail ih ((sp _ _ (reach_in g ha inn)).mpr hp)
/-- the law's pairs: from each to what leads to it and lies in the lot -/
def upLaw (as : List (Int × Int)) (lot : List Int) : List (Int × Int) := turnL (as.filter fun p => decide (p.1 ∈ lot))
theorem mem_upLaw {as : List (Int × Int)} {lot : List Int} {x y : Int} : (x, y) ∈ upLaw as lot ↔ (y, x) ∈ as ∧ y ∈ lot := by
  unfold upLaw
  rw [mem_turnL]
  simp
theorem up_law {as : List (Int × Int)} {lot : List Int} {a b : Int} (ha : a ∈ lot) : Reach (upLaw as lot) a b ↔ Reach (upIn as lot) a b :=
  reach_iff ha (fun x y hx => by rw [mem_upLaw, mem_upIn]; exact ⟨fun h => ⟨h.1, h.2, hx⟩, fun h => ⟨h.1, h.2.1⟩⟩) fun ⟨x, y⟩ hp => (mem_upIn.mp hp).2.1
def tieIn (ts : List (Int × Int)) (lot : List Int) : List (Int × Int) := both (withinL ts lot)
theorem mem_tieIn {ts : List (Int × Int)} {lot : List Int} {x y : Int} : (x, y) ∈ tieIn ts lot ↔ ((x, y) ∈ ts ∨ (y, x) ∈ ts) ∧ x ∈ lot ∧ y ∈ lot := by
  unfold tieIn
  rw [mem_both, mem_withinL, mem_withinL]
  constructor
  · rintro (h | h)
    · exact ⟨.inl h.1, h.2⟩
    · exact ⟨.inr h.1, h.2.2, h.2.1⟩
  · rintro ⟨h | h, hx, hy⟩
    · exact .inl ⟨h, hx, hy⟩
    · exact .inr ⟨h, hy, hx⟩
theorem tie_in {ts : List (Int × Int)} {lot : List Int} {a b : Int} (h : Reach (tieIn ts lot) a b) (ha : a ∈ lot) : b ∈ lot := reach_in h ha fun ⟨x, y⟩ hp => (mem_tieIn.mp hp).2.2
def tieLaw (ts : List (Int × Int)) (lot : List Int) : List (Int × Int) := (both ts).filter fun p => decide (p.2 ∈ lot)
theorem mem_tieLaw {ts : List (Int × Int)} {lot : List Int} {x y : Int} : (x, y) ∈ tieLaw ts lot ↔ ((x, y) ∈ ts ∨ (y, x) ∈ ts) ∧ y ∈ lot := by
  unfold tieLaw
  rw [List.mem_filter, mem_both]
  simp
theorem tie_law {ts : List (Int × Int)} {lot : List Int} {a b : Int} (ha : a ∈ lot) : Reach (tieLaw ts lot) a b ↔ Reach (tieIn ts lot) a b :=
  reach_iff ha (fun x y hx => by rw [mem_tieLaw, mem_tieIn]; exact ⟨fun h => ⟨h.1, hx, h.2⟩, fun h => ⟨h.1, h.2.2⟩⟩) fun ⟨x, y⟩ hp => (mem_tieIn.mp hp).2.2
def HangsP (ts : List (Int × Int)) : List Int → Prop
  | [] => True
  | x :: l => ∀ y ∈ x :: l, Reach (tieIn ts (x :: l)) x y
noncomputable def hangB (ts : List (Int × Int)) (lot : List Int) : Bool := @decide (HangsP ts lot) (Classical.propDecidable _)
theorem hangB_iff {ts : List (Int × Int)} {lot : List Int} : hangB ts lot = true ↔ HangsP ts lot := by
  unfold hangB
  exact @decide_eq_true_iff _ (Classical.propDecidable _)
/-- two heads of one lot are one -/
theorem up_rank {as : List (Int × Int)} {lot : List Int} {r : Int → Nat} (hr : ∀ p ∈ as, r p.1 < r p.2) {a b : Int} (h : Reach (upIn as lot) a b) : a = b ∨ r b < r a := by
  induction h with
  | refl => exact .inl rfl
  | tail _ hp ih =>
    have := hr _ (mem_upIn.mp hp).1
    rcases ih with e | e
    · subst e; exact .inr this
    · exact .inr (Nat.lt_trans this e)
theorem head_one {as : List (Int × Int)} {lot : List Int} (ac : Acy as) {x y : Int} (hx : x ∈ lot) (hy : y ∈ lot) (h1 : IsHead as lot x) (h2 : IsHead as lot y) : x = y := by
  obtain ⟨r, hr⟩ := ac
  rcases up_rank hr (h1 y hy) with e | e
  · exact e
  · rcases up_rank hr (h2 x hx) with e2 | e2
    · exact e2.symm
    · omega
theorem filter_one {l : List Int} {f : Int → Bool} (nd : l.Nodup) (h : ∀ x ∈ l, ∀ y ∈ l, f x = true → f y = true → x = y) : (l.filter f).length ≤ 1 := by
  have n := nd.filter f
  cases e : l.filter f with
  | nil => simp
  | cons a t =>
    cases t with
    | nil => simp
    | cons b t =>
      rw [e] at n
      have ha : a ∈ l.filter f := by rw [e]; simp
      have hb : b ∈ l.filter f := by rw [e]; simp
      have := h a (List.mem_filter.mp ha).1 b (List.mem_filter.mp hb).1 (List.mem_filter.mp ha).2 (List.mem_filter.mp hb).2
      exact absurd this (by have := (List.nodup_cons.mp n).1; simp at this; exact this.1)
theorem heads_one {as : List (Int × Int)} {lot : List Int} (ac : Acy as) (nd : lot.Nodup) : (headsL as lot).length ≤ 1 :=
  filter_one nd fun _ hx _ hy h1 h2 => head_one ac hx hy (headB_iff.mp h1) (headB_iff.mp h2)
/-- the first of a list for which f holds -/
def firstOf (f : Int → Bool) (l : List Int) : Option Int := (l.filter f).head?
/-! searches with a place behind which all is done -/
structure LInv (n : Nat) (ps : List (Int × Int)) (st : Int) (fo : List Int) (k : Nat) : Prop where
  nd : fo.Nodup
  th : ∀ x ∈ fo, x ∈ things n
  ss : st ∈ fo
  re : ∀ x ∈ fo, Reach ps st x
  cl : ∀ (i : Nat) (x : Int), i < k → fo[i]? = some x → ∀ p ∈ ps, p.1 = x → p.2 ∈ fo
  kl : k ≤ fo.length
theorem linv_0 {n : Nat} {ps : List (Int × Int)} {st : Int} (h : st ∈ things n) : LInv n ps st [st] 0 :=
  ⟨by simp, (fun x hx => by simp at hx; exact hx ▸ h), by simp, (fun x hx => by simp at hx; rw [hx]; exact .refl), (fun i x hi => by omega), by simp⟩
theorem linv_len {n : Nat} {ps : List (Int × Int)} {st : Int} {fo : List Int} {k : Nat} (h : LInv n ps st fo k) : fo.length ≤ n := by
  have := nodup_le h.nd (m := things n) (fun x hx => h.th x hx)
  rw [things_len] at this
  exact this
theorem linv_more {n : Nat} {ps : List (Int × Int)} {st x : Int} {fo fr : List Int} {k : Nat} (h : LInv n ps st fo k) (hx : fo[k]? = some x) (nd : fr.Nodup) (hr : ∀ p ∈ ps, p.2 ∈ things n) (hf : ∀ y, y ∈ fr ↔ (x, y) ∈ ps ∧ y ∉ fo) : LInv n ps st (fo ++ fr) (k + 1) := by
  have xm : x ∈ fo := List.mem_of_getElem? hx
  have kl : k < fo.length := (List.getElem?_eq_some_iff.mp hx).1
  refine ⟨?_, ?_, List.mem_append_left _ h.ss, ?_, ?_, ?_⟩
  · rw [List.nodup_append]
    exact ⟨h.nd, nd, fun a ha b hb e => ((hf b).mp hb).2 (e ▸ ha)⟩
  · intro y hy
    rcases List.mem_append.mp hy with q | q
    · exact h.th y q
    · exact hr _ ((hf y).mp q).1
  · intro y hy
    rcases List.mem_append.mp hy with q | q
    · exact h.re y q
    · exact .tail (h.re x xm) ((hf y).mp q).1
  · intro i y hi hy p hp e
    rw [List.getElem?_append_left (by omega)] at hy
    by_cases c : i = k
    · subst c
      rw [hx] at hy
      have exy : x = y := Option.some.inj hy
      by_cases d : p.2 ∈ fo
      · exact List.mem_append_left _ d
      · refine List.mem_append_right _ ((hf p.2).mpr ⟨?_, d⟩)
        have : (x, p.2) = p := Prod.ext (by show x = p.1; rw [e, exy]) rfl
        rw [this]; exact hp
    · exact List.mem_append_left _ (h.cl i y (by omega) hy p hp e)
  · rw [List.length_append]; omega
theorem linv_end {n : Nat} {ps : List (Int × Int)} {st : Int} {fo : List Int} {k : Nat} (h : LInv n ps st fo k) (hk : ¬ k < fo.length) (y : Int) : y ∈ fo ↔ Reach ps st y := by
  refine ⟨h.re y, fun r => ?_⟩
  induction r with
  | refl => exact h.ss
  | tail _ hp ih =>
    obtain ⟨i, hi⟩ := List.getElem?_of_mem ih
    have : i < fo.length := (List.getElem?_eq_some_iff.mp hi).1
    exact h.cl i _ (by omega) hi _ hp rfl
/-- the same, one by one: what is put while the ends of x are gone through -/
structure HInv (n : Nat) (ps : List (Int × Int)) (st x : Int) (fo0 fo : List Int) (dn : List (Int × Int)) : Prop where
  pre : fo0 <+: fo
  nd : fo.Nodup
  th : ∀ y ∈ fo, y ∈ things n
  re : ∀ y ∈ fo, Reach ps st y
  cl : ∀ p ∈ dn, p.1 = x → p.2 ∈ fo
theorem hinv_0 {n : Nat} {ps : List (Int × Int)} {st x : Int} {fo : List Int} {k : Nat} (h : LInv n ps st fo k) : HInv n ps st x fo fo [] := ⟨List.prefix_refl _, h.nd, h.th, h.re, fun _ hp => nomatch hp⟩
theorem hinv_put {n : Nat} {ps : List (Int × Int)} {st x y : Int} {fo0 fo : List Int} {dn : List (Int × Int)} (h : HInv n ps st x fo0 fo dn) (hx : Reach ps st x) (hp : (x, y) ∈ ps) (hy : y ∈ things n) (nf : y ∉ fo) : HInv n ps st x fo0 (fo ++ [y]) (dn ++ [(x, y)]) := by
  refine ⟨h.pre.trans (List.prefix_append _ _), ?_, ?_, ?_, ?_⟩
  · rw [List.nodup_append]
    exact ⟨h.nd, by simp, fun a ha b hb e => nf (by rw [← List.mem_singleton.mp hb, ← e]; exact ha)⟩
  · intro z hz
    rcases List.mem_append.mp hz with q | q
    · exact h.th z q
    · rw [List.mem_singleton.mp q]; exact hy
  · intro z hz
    rcases List.mem_append.mp hz with q | q
    · exact h.re z q
    · rw [List.mem_singleton.mp q]; exact .tail hx hp
  · intro p hp' e
    rcases List.mem_append.mp hp' with q | q
    · exact List.mem_append_left _ (h.cl p q e)
    · rw [List.mem_singleton.mp q]; simp
theorem hinv_no {n : Nat} {ps : List (Int × Int)} {st x : Int} {fo0 fo : List Int} {dn : List (Int × Int)} (h : HInv n ps st x fo0 fo dn) {p : Int × Int} (c : p.1 = x → p.2 ∈ fo) : HInv n ps st x fo0 fo (dn ++ [p]) :=
  ⟨h.pre, h.nd, h.th, h.re, fun q hq e => by
    rcases List.mem_append.mp hq with z | z
    · exact h.cl q z e
    · rw [List.mem_singleton.mp z] at e ⊢; exact c e⟩
theorem pre_at {fo0 fo : List Int} (h : fo0 <+: fo) {i : Nat} {x : Int} (e : fo0[i]? = some x) : fo[i]? = some x := by
  obtain ⟨t, rfl⟩ := h
  rw [List.getElem?_append_left (List.getElem?_eq_some_iff.mp e).1]
  exact e
theorem hinv_end {n : Nat} {ps : List (Int × Int)} {st x : Int} {fo0 fo : List Int} {dn : List (Int × Int)} {k : Nat} (h0 : LInv n ps st fo0 k) (hx : fo0[k]? = some x) (h : HInv n ps st x fo0 fo dn) (full : ∀ p ∈ ps, p.1 = x → p ∈ dn) : LInv n ps st fo (k + 1) := by
  have kl : k < fo0.length := (List.getElem?_eq_some_iff.mp hx).1
  refine ⟨h.nd, h.th, h.pre.subset h0.ss, h.re, ?_, Nat.le_trans kl h.pre.length_le⟩
  intro i y hi hy p hp e
  by_cases c : i = k
  · subst c
    rw [pre_at h.pre hx] at hy
    have exy : x = y := Option.some.inj hy
    exact h.cl p (full p hp (by rw [e, exy])) (by rw [e, exy])
  · have hi0 : i < fo0.length := by omega
    have e0 : fo0[i]? = some fo0[i] := List.getElem?_eq_getElem hi0
    rw [pre_at h.pre e0] at hy
    exact h.pre.subset (h0.cl i y (by omega) (by rw [e0]; exact hy) p hp e)
/-! all lots -/
def Lot (n : Nat) (l : List Int) : Prop := l.Pairwise (· < ·) ∧ ∀ x ∈ l, x ∈ things n
def allLots : Nat → List (List Int)
  | 0 => [[]]
  | k + 1 => allLots k ++ (allLots k).map (· ++ [Int.ofNat k])
theorem allLots_len : ∀ n, (allLots n).length = 2 ^ n
  | 0 => rfl
  | k + 1 => by
    unfold allLots
    rw [List.length_append, List.length_map, allLots_len k, Nat.pow_succ]
    omega
theorem lot_up {k : Nat} {l : List Int} (h : Lot k l) : Lot (k + 1) l := ⟨h.1, fun x hx => by
  have := mem_things.mp (h.2 x hx)
  exact mem_things.mpr ⟨this.1, by omega⟩⟩
theorem lot_put {k : Nat} {l : List Int} (h : Lot k l) : Lot (k + 1) (l ++ [Int.ofNat k]) := by
  refine ⟨List.pairwise_append.mpr ⟨h.1, by simp, fun a ha b hb => ?_⟩, fun x hx => ?_⟩
  · rw [List.mem_singleton.mp hb]
    exact (mem_things.mp (h.2 a ha)).2
  · rcases List.mem_append.mp hx with q | q
    · exact (lot_up h).2 x q
    · rw [List.mem_singleton.mp q]
      exact mem_things.mpr ⟨Int.ofNat_nonneg k, by show (k : Int) < ((k + 1 : Nat) : Int); omega⟩
theorem allLots_lot : ∀ {n : Nat} {l : List Int}, l ∈ allLots n → Lot n l
  | 0, l, h => by
    unfold allLots at h
    rw [List.mem_singleton.mp h]
    exact ⟨.nil, fun _ hx => nomatch hx⟩
  | k + 1, l, h => by
    unfold allLots at h
    rcases List.mem_append.mp h with q | q
    · exact lot_up (allLots_lot q)
    · obtain ⟨m, hm, rfl⟩ := List.mem_map.mp q
      exact lot_put (allLots_lot hm)
theorem lot_allLots : ∀ {n : Nat} {l : List Int}, Lot n l → l ∈ allLots n
  | 0, l, h => by
    cases l with
    | nil => exact List.mem_singleton.mpr rfl
    | cons x l =>
      have := mem_things.mp (h.2 x (List.mem_cons_self ..))
      omega
  | k + 1, l, h => by
    unfold allLots
    rcases List.eq_nil_or_concat l with rfl | ⟨m, x, rfl⟩
    · exact List.mem_append_left _ (lot_allLots ⟨.nil, fun _ hx => nomatch hx⟩)
    · rw [List.concat_eq_append] at h ⊢
      obtain ⟨a, b, c⟩ := List.pairwise_append.mp h.1
      have hx := mem_things.mp (h.2 x (by simp))
      have hm : ∀ y ∈ m, y ∈ things k := fun y hy => by
        have h1 := mem_things.mp (h.2 y (List.mem_append_left _ hy))
        have h2 := c y hy x (by simp)
        exact mem_things.mpr ⟨h1.1, by omega⟩
      by_cases e : x = Int.ofNat k
      · refine List.mem_append_right _ (List.mem_map.mpr ⟨m, lot_allLots ⟨a, hm⟩, by rw [e]⟩)
      · refine List.mem_append_left _ (lot_allLots ⟨h.1, fun y hy => ?_⟩)
        rcases List.mem_append.mp hy with q | q
        · exact hm y q
        · rw [List.mem_singleton.mp q]
          have e' : ¬ x = (k : Int) := e
          exact mem_things.mpr ⟨hx.1, by omega⟩
theorem mem_allLots {n : Nat} {l : List Int} : l ∈ allLots n ↔ Lot n l := ⟨allLots_lot, lot_allLots⟩
theorem lot_len {n : Nat} {l : List Int} (h : Lot n l) : l.length ≤ n := by
  have := nodup_le (lt_nd h.1) (m := things n) h.2
  rw [things_len] at this
  exact this
end Tk

namespace Tk
open PySem PySem.Spec PyProof.Rows L2
theorem units65 {k : Nat} {A : Around} (r : Room k A) : A.units + 65 < cLine := by have := r.un; omega
/-! lists of lists -/
def LsAt (G : Hp) : List V → List (List Int) → Prop
  | [], [] => True
  | x :: xs, o :: os => (∃ r : Addr, x = .ref r ∧ G r = some (.lst (o.map V.int))) ∧ LsAt G xs os
  | _, _ => False
theorem ls_s {G G' : Hp} (e : Same G G') : ∀ {xs : List V} {os : List (List Int)}, LsAt G xs os → LsAt G' xs os
  | [], [], _ => trivial
  | x :: xs, o :: os, ⟨⟨r, h1, h2⟩, h3⟩ => ⟨⟨r, h1, e _ _ h2⟩, ls_s e h3⟩
  | [], _ :: _, h => h.elim
  | _ :: _, [], h => h.elim
theorem ls_app {G : Hp} : ∀ {xs ys : List V} {os ps : List (List Int)}, LsAt G xs os → LsAt G ys ps → LsAt G (xs ++ ys) (os ++ ps)
  | [], _, [], _, _, h => h
  | x :: xs, _, o :: os, _, ⟨h1, h2⟩, h => ⟨h1, ls_app h2 h⟩
  | [], _, _ :: _, _, h, _ => h.elim
  | _ :: _, _, [], _, h, _ => h.elim
theorem ls_len {G : Hp} : ∀ {xs : List V} {os : List (List Int)}, LsAt G xs os → xs.length = os.length
  | [], [], _ => rfl
  | x :: xs, o :: os, ⟨_, h2⟩ => by simp [ls_len h2]
  | [], _ :: _, h => h.elim
  | _ :: _, [], h => h.elim
theorem ls_at {G : Hp} : ∀ {xs : List V} {os : List (List Int)}, LsAt G xs os → ∀ {i : Nat} {x : V}, xs[i]? = some x → ∃ (o : List Int) (r : Addr), os[i]? = some o ∧ x = .ref r ∧ G r = some (.lst (o.map V.int))
  | [], [], _, _, _, h => by simp at h
  | x :: xs, o :: os, ⟨⟨r, h1, h2⟩, h3⟩, i, y, h => by
    cases i with
    | zero => simp at h; subst h; exact ⟨o, r, by simp, h1, h2⟩
    | succ i => simp at h; simpa using ls_at h3 h
  | [], _ :: _, h, _, _, _ => h.elim
  | _ :: _, [], h, _, _, _ => h.elim
theorem ls_mut {G : Hp} {D : Addr} {u : HO} : ∀ {xs : List V} {os : List (List Int)}, LsAt G xs os → (∀ x ∈ xs, x ≠ .ref D) → LsAt (upd G D u) xs os
  | [], [], _, _ => trivial
  | x :: xs, o :: os, ⟨⟨r, h1, h2⟩, h3⟩, n => ⟨⟨r, h1, by
      have : r ≠ D := fun e => n x (List.mem_cons_self ..) (by rw [h1, e])
      rw [upd_ne this]; exact h2⟩, ls_mut h3 fun y hy => n y (List.mem_cons_of_mem _ hy)⟩
  | [], _ :: _, h, _ => h.elim
  | _ :: _, [], h, _ => h.elim
theorem ls_dp {K : PySem.W.Frag} {G : Hp} : ∀ {xs : List V} {os : List (List Int)}, LsAt G xs os → DpAll K G xs (os.map fun o => PyData.list (o.map .int))
  | [], [], _ => .nil
  | x :: xs, o :: os, ⟨⟨r, h1, h2⟩, h3⟩ => by
    rw [h1]
    exact .cons (.lst (sl_of h2) (dps_ints o)) (ls_dp h3)
  | [], _ :: _, h => h.elim
  | _ :: _, [], h => h.elim
/-- the lists stand at places that are new -/
def FreshL (H : Hp) (xs : List V) : Prop := xs.Nodup ∧ ∀ x ∈ xs, ∃ r : Addr, x = .ref r ∧ H r = none
theorem things_succ (k : Nat) : things (k + 1) = things k ++ [Int.ofNat k] := by
  unfold things
  rw [List.range_succ, List.map_append]; rfl
theorem any_pairs {x y : Int} : ∀ {ps : List (Int × Int)}, ((ps.map dP).any fun z => PyData.eqv z (dP (x, y))) = decide ((x, y) ∈ ps)
  | [] => by simp
  | p :: ps => by
    have ih := any_pairs (x := x) (y := y) (ps := ps)
    rw [List.map_cons, List.any_cons, ih]
    have e : PyData.eqv (dP p) (dP (x, y)) = decide ((x, y) = p) := by
      obtain ⟨u, v⟩ := p
      simp [dP, PyData.eqv, PyData.eqvAll]
      by_cases c1 : u = x
      · subst c1
        by_cases c2 : v = y
        · subst c2; simp
        · have : ¬ y = v := fun e => c2 e.symm
          simp [c2, this]
      · have : ¬ x = u := fun e => c1 e.symm
        simp [c1, this]
    rw [e]
    simp [List.mem_cons]
theorem shaped_pair (p : Int × Int) : SeqAt.shaped (dP p) = true := by
  simp [SeqAt.shaped, dP, PyData.canLay0, PyData.canLayAll0, PyData.depth, PyData.depthAll]
theorem plain_pairs : ∀ ps : List (Int × Int), PyData.canLayAll0 (ps.map dP) = true
  | [] => rfl
  | p :: ps => by
    show (PyData.canLay0 (dP p) && PyData.canLayAll0 (ps.map dP)) = true
    rw [plain_pairs ps]; rfl
theorem depth_pairs : ∀ ps : List (Int × Int), PyData.depthAll (ps.map dP) ≤ 3
  | [] => by simp [PyData.depthAll]
  | p :: ps => by
    have h := depth_pairs ps
    have h2 : PyData.depth (dP p) ≤ 3 := by simp [dP, PyData.depth, PyData.depthAll]
    simp only [List.map_cons, PyData.depthAll]
    omega
theorem shaped_pairs (ps : List (Int × Int)) : SeqAt.shaped (.list (ps.map dP)) = true := by
  unfold SeqAt.shaped
  rw [Bool.and_eq_true_iff]
  refine ⟨by rw [PyData.canLay0]; exact plain_pairs ps, decide_eq_true ?_⟩
  have := depth_pairs ps
  rw [PyData.depth]
  omega
theorem prs_mk {n : Nat} {ps : List (Int × Int)} (n6 : n ≤ 6) (nd : ps.Nodup) (h : ∀ p ∈ ps, 0 ≤ p.1 ∧ p.1 < n ∧ 0 ≤ p.2 ∧ p.2 < n ∧ p.1 ≠ p.2) : Prs n ps := by
  refine ⟨nd, ?_, h⟩
  have h1 := nodup_le nd (m := (things n).flatMap fun x => (things n).map fun y => (x, y)) (fun p hp => by
    obtain ⟨a, b, c, d, _⟩ := h p hp
    exact List.mem_flatMap.mpr ⟨p.1, mem_things.mpr ⟨a, b⟩, List.mem_map.mpr ⟨p.2, mem_things.mpr ⟨c, d⟩, rfl⟩⟩)
  have h2 : ∀ l : List Int, (l.flatMap fun x => (things n).map fun y => (x, y)).length = l.length * n := by
    intro l
    induction l with
    | nil => simp
    | cons x l ih =>
      rw [List.flatMap_cons, List.length_append, ih, List.length_map, things_len, List.length_cons, Nat.succ_mul]
      omega
  rw [h2, things_len] at h1
  have h3 : n * n ≤ 6 * 6 := Nat.mul_le_mul n6 n6
  omega
theorem prs_both {n : Nat} {ts : List (Int × Int)} (n6 : n ≤ 6) (h : Prs n ts) (lt : ∀ p ∈ ts, p.1 < p.2) : Prs n (both ts) := by
  refine prs_mk n6 ?_ ?_
  · unfold both
    rw [List.nodup_append]
    refine ⟨h.1, ?_, ?_⟩
    · unfold turnL
      show List.Pairwise _ _
      rw [List.pairwise_map]
      refine List.Pairwise.imp (fun {a b} hne e => hne ?_) h.1
      have e' := congrArg swp e
      exact e'
    · intro a ha b hb e
      obtain ⟨c, hc, rfl⟩ := List.mem_map.mp hb
      subst e
      have h1 := lt _ ha
      have h2 := lt _ hc
      simp [swp] at h1
      omega
  · intro p hp
    rcases mem_both.mp hp with c | c
    · exact h.2.2 p c
    · obtain ⟨a1, a2, a3, a4, a5⟩ := h.2.2 _ c
      exact ⟨a3, a4, a1, a2, fun e => a5 e.symm⟩
def spTies (K : PySem.W.Frag) (C : Addr) : Sp := fun vs H Q _ => ∃ (p : Addr) (n : Nat) (as ts : List (Int × Int)), vs = [.ref p] ∧ PlanAt K C H p n as ts ∧ ∀ H' l, Same H H' → H l = none → PM K H' l ts → Q (.ref l) H'
section
variable {P : Program} {w : World} {K : PySem.W.Frag} {mg : Str → Option Value} {base : Heap}
end
end Tk

namespace Tk
open PySem PySem.Spec PyProof.Rows L2
theorem prs_sub {n : Int} {ps qs : List (Int × Int)} (h : Prs n ps) (s : qs.Sublist ps) : Prs n qs := ⟨h.1.sublist s, Nat.lt_of_le_of_lt s.length_le h.2.1, fun p hp => h.2.2 p (s.subset hp)⟩
theorem prs_turn {n : Int} {ps : List (Int × Int)} (h : Prs n ps) : Prs n (turnL ps) := by
  refine ⟨?_, by unfold turnL; rw [List.length_map]; exact h.2.1, fun p hp => ?_⟩
  · unfold turnL
    show List.Pairwise _ _
    rw [List.pairwise_map]
    refine List.Pairwise.imp (fun {a b} hne e => hne ?_) h.1
    have e' := congrArg swp e
    exact e'
  · obtain ⟨q, hq, rfl⟩ := List.mem_map.mp hp
    obtain ⟨a1, a2, a3, a4, a5⟩ := h.2.2 q hq
    exact ⟨a3, a4, a1, a2, fun e => a5 e.symm⟩
/-- ints read off values, where all are ints -/
def EachV (K : PySem.W.Frag) (H : Hp) : List V → List (Option Int) → Prop
  | [], [] => True
  | x :: xs, o :: os => IntV K H x o ∧ EachV K H xs os
  | _, _ => False
theorem each_len {K : PySem.W.Frag} {H : Hp} : ∀ {xs : List V} {os : List (Option Int)}, EachV K H xs os → xs.length = os.length
  | [], [], _ => rfl
  | x :: xs, o :: os, ⟨_, h⟩ => by simp [each_len h]
  | [], _ :: _, h => h.elim
  | _ :: _, [], h => h.elim
theorem each_at {K : PySem.W.Frag} {H : Hp} : ∀ {xs : List V} {os : List (Option Int)}, EachV K H xs os → ∀ {i : Nat} {x : V}, xs[i]? = some x → ∃ o, os[i]? = some o ∧ IntV K H x o
  | [], [], _, _, _, h => by simp at h
  | x :: xs, o :: os, ⟨h1, h2⟩, i, y, h => by
    cases i with
    | zero => simp at h; subst h; exact ⟨o, by simp, h1⟩
    | succ i => simp at h; simpa using each_at h2 h
  | [], _ :: _, h, _, _, _ => h.elim
  | _ :: _, [], h, _, _, _ => h.elim
theorem each_s {K : PySem.W.Frag} {H H' : Hp} (e : Same H H') : ∀ {xs : List V} {os : List (Option Int)}, EachV K H xs os → EachV K H' xs os
  | [], [], _ => trivial
  | x :: xs, o :: os, ⟨h1, h2⟩ => ⟨intv_s h1 e, each_s e h2⟩
  | [], _ :: _, h => h.elim
  | _ :: _, [], h => h.elim
theorem each_ints {K : PySem.W.Frag} {H : Hp} : ∀ (l : List Int), EachV K H (l.map V.int) (l.map some)
  | [] => trivial
  | x :: l => ⟨.int x, each_ints l⟩
theorem each_some {K : PySem.W.Frag} {H : Hp} : ∀ {xs : List V} {os : List (Option Int)}, EachV K H xs os → (∀ o ∈ os, o.isSome = true) → ∃ l : List Int, xs = l.map V.int ∧ os = l.map some
  | [], [], _, _ => ⟨[], rfl, rfl⟩
  | x :: xs, o :: os, ⟨h1, h2⟩, h => by
    obtain ⟨l, rfl, rfl⟩ := each_some h2 fun z hz => h z (List.mem_cons_of_mem _ hz)
    have ho := h o (List.mem_cons_self ..)
    cases h1 with
    | int i => exact ⟨i :: l, rfl, rfl⟩
    | bl b => cases ho
    | oth h k => cases ho
  | [], _ :: _, h, _ => h.elim
  | _ :: _, [], h, _ => h.elim
theorem some_inj : ∀ {l m : List Int}, l.map some = m.map some → l = m
  | [], [], _ => rfl
  | [], _ :: _, h => nomatch h
  | _ :: _, [], h => nomatch h
  | a :: l, b :: m, h => by
    have h1 := List.cons.inj h
    rw [Option.some.inj h1.1, some_inj h1.2]
/-- what is asked of a value that may be a lot: what it is, and a bound on its length -/
inductive LotV (K : PySem.W.Frag) (H : Hp) : V → Option (List (Option Int)) → Prop
  | sq {a : Addr} {xs : List V} {os : List (Option Int)} (h : SqA K H a xs) (e : EachV K H xs os) (few : xs.length < 60) : LotV K H (.ref a) (some os)
  | no {v : V} (h : SqV K H v none) : LotV K H v none
theorem lotv_s {K : PySem.W.Frag} {H H' : Hp} {v : V} {o : Option (List (Option Int))} (h : LotV K H v o) (e : Same H H') : LotV K H' v o := by
  cases h with
  | sq h g few => exact .sq (same_a e h) (each_s e g) few
  | no h => exact .no (sqv_s h e)
theorem lotv_lot {K : PySem.W.Frag} {H : Hp} {a : Addr} {l : List Int} (h : SqA K H a (l.map V.int)) (few : l.length < 60) : LotV K H (.ref a) (some (l.map some)) := .sq h (each_ints l) (by rw [List.length_map]; exact few)
/-- unlike things -/
def ThingsO (n : Nat) (o : Option (List (Option Int))) (l : List Int) : Prop := o = some (l.map some) ∧ l.Nodup ∧ ∀ x ∈ l, x ∈ things n
def spAreThings (K : PySem.W.Frag) : Sp := fun vs H Q _ => ∃ (n : Nat) (v : V) (o : Option (List (Option Int))), vs = [.int n, v] ∧ LotV K H v o ∧ ∀ (H' : Hp) (b : Bool), Same H H' → (b = true ↔ ∃ l, ThingsO n o l) → Q (.bl b) H'
/-- a lot -/
def LotO (n : Nat) (o : Option (List (Option Int))) (l : List Int) : Prop := o = some (l.map some) ∧ Lot n l
def spIsRising (K : PySem.W.Frag) : Sp := fun vs H Q _ => ∃ (n : Nat) (v : V) (o : Option (List (Option Int))), vs = [.int n, v] ∧ n ≤ 6 ∧ LotV K H v o ∧ ∀ (H' : Hp) (b : Bool), Same H H' → (b = true ↔ ∃ l, LotO n o l) → Q (.bl b) H'
def spIsLotOf (K : PySem.W.Frag) (C : Addr) : Sp := fun vs H Q _ => ∃ (p : Addr) (n : Nat) (as ts : List (Int × Int)) (v : V) (o : Option (List (Option Int))), vs = [.ref p, v] ∧ PlanAt K C H p n as ts ∧ LotV K H v o ∧
  ∀ (H' : Hp) (b : Bool), Same H H' → (b = true ↔ ∃ l, LotO n o l) → Q (.bl b) H'
def spChkLot (K : PySem.W.Frag) (C : Addr) : Sp := fun vs H Q _ => ∃ (p a : Addr) (n : Nat) (as ts : List (Int × Int)) (l : List Int), vs = [.ref p, .ref a] ∧ PlanAt K C H p n as ts ∧ SqA K H a (l.map V.int) ∧ Lot n l ∧ ∀ H', Same H H' → Q .non H'
def spTurned (K : PySem.W.Frag) : Sp := fun vs H Q _ => ∃ (a : Addr) (ps : List (Int × Int)), vs = [.ref a] ∧ PL K H a ps ∧ ps.length < 60 ∧ ∀ H' p, Same H H' → H p = none → PM K H' p (turnL ps) → Q (.ref p) H'
def spBoth (K : PySem.W.Frag) : Sp := fun vs H Q _ => ∃ (a : Addr) (ps : List (Int × Int)), vs = [.ref a] ∧ PM K H a ps ∧ ps.length < 60 ∧ ∀ H' p, Same H H' → H p = none → PM K H' p (both ps) → Q (.ref p) H'
def spWithin (K : PySem.W.Frag) : Sp := fun vs H Q _ => ∃ (a b : Addr) (ps : List (Int × Int)) (l : List Int), vs = [.ref a, .ref b] ∧ PL K H a ps ∧ ps.length < 60 ∧ SqA K H b (l.map V.int) ∧ ∀ H' p, Same H H' → H p = none → PM K H' p (withinL ps l) → Q (.ref p) H'
theorem inA_bl {K : PySem.W.Frag} {H : Hp} {b : Addr} {l : List Int} (h : SqA K H b (l.map V.int)) : SqL K H b (l.map V.int) ∨ SqT K H b (l.map V.int) := h
section
variable {P : Program} {w : World} {K : PySem.W.Frag} {mg : Str → Option Value} {base : Heap}
theorem within_take {ps : List (Int × Int)} {l : List Int} {i : Nat} {p : Int × Int} (h : ps[i]? = some p) : withinL (ps.take (i + 1)) l = if p.1 ∈ l ∧ p.2 ∈ l then withinL (ps.take i) l ++ [p] else withinL (ps.take i) l := by
  unfold withinL
  rw [take_at h, List.filter_append]
  by_cases c : p.1 ∈ l ∧ p.2 ∈ l
  · rw [if_pos c]; simp [c.1, c.2]
  · rw [if_neg c]
    by_cases c1 : p.1 ∈ l
    · have c2 : ¬ p.2 ∈ l := fun z => c ⟨c1, z⟩
      simp [c2]
    · simp [c1]
end
end Tk

namespace Tk
open PySem PySem.Spec PyProof.Rows L2
def topV : List Int → V
  | [] => .non
  | x :: _ => .int x
def spHead (K : PySem.W.Frag) (C : Addr) : Sp := fun vs H Q _ => ∃ (p a : Addr) (n : Nat) (as ts : List (Int × Int)) (l : List Int), vs = [.ref p, .ref a] ∧ PlanAt K C H p n as ts ∧ SqA K H a (l.map V.int) ∧ Lot n l ∧ ∀ H', Same H H' → Q (topV (headsL as l)) H'
def spHangs (K : PySem.W.Frag) (C : Addr) : Sp := fun vs H Q _ => ∃ (p a : Addr) (n : Nat) (as ts : List (Int × Int)) (l : List Int), vs = [.ref p, .ref a] ∧ PlanAt K C H p n as ts ∧ SqA K H a (l.map V.int) ∧ Lot n l ∧ ∀ H', Same H H' → Q (.bl (hangB ts l)) H'
theorem eqv_ints : ∀ {l m : List Int}, PyData.eqvAll (l.map .int) (m.map .int) = decide (l = m)
  | [], [] => by simp [PyData.eqvAll]
  | [], _ :: _ => by simp [PyData.eqvAll]
  | _ :: _, [] => by simp [PyData.eqvAll]
  | a :: l, b :: m => by
    rw [List.map_cons, List.map_cons, PyData.eqvAll, eqv_ints (l := l) (m := m)]
    have e : PyData.eqv (.int a) (.int b) = decide (a = b) := by
      rw [PyData.eqv]
      by_cases c : a = b
      · subst c; simp
      · simp [c]
    rw [e]
    by_cases c : a = b
    · simp [c]
    · simp [c]
theorem eqv_lints {l m : List Int} : PyData.eqv (.list (l.map .int)) (.list (m.map .int)) = decide (l = m) := by
  rw [PyData.eqv, eqv_ints]
theorem shaped_ints (l : List Int) : SeqAt.shaped (.list (l.map .int)) = true := by
  unfold SeqAt.shaped
  rw [Bool.and_eq_true_iff]
  have h1 : PyData.canLayAll0 (l.map .int) = true := by
    induction l with
    | nil => rfl
    | cons a l ih => rw [List.map_cons, PyData.canLayAll0, ih]; rfl
  have h2 : PyData.depthAll (l.map .int) = 0 := by
    induction l with
    | nil => rfl
    | cons a l ih =>
      rw [List.map_cons, PyData.depthAll]
      have h3 : PyData.canLayAll0 (l.map .int) = true := by
        rw [List.map_cons, PyData.canLayAll0] at h1
        exact (Bool.and_eq_true_iff.mp h1).2
      rw [ih h3]; rfl
  refine ⟨by rw [PyData.canLay0]; exact h1, decide_eq_true ?_⟩
  rw [PyData.depth, h2]
  decide
theorem lot_sorted {n : Nat} {l s : List Int} (th : l.Nodup ∧ ∀ x ∈ l, x ∈ things n) (pm : s.Perm l) (so : s.Pairwise (· ≤ ·)) : l = s ↔ Lot n l := by
  constructor
  · intro e
    subst e
    exact ⟨le_lt so th.1, th.2⟩
  · intro h
    exact rise_eq h.1 (le_lt so (pm.nodup_iff.mpr th.1)) fun x => pm.mem_iff.symm
end Tk

namespace Tk
open PySem PySem.Spec PyProof.Rows L2
/-! ## the law's own draws -/
def PotOk (x y : Int) : Prop := 0 ≤ x ∧ 0 ≤ y ∧ y < 4294967296
/-- all but what stands at a is as it was -/
def SmX (a : Addr) (H H' : Hp) : Prop := ∀ b o, b ≠ a → H b = some o → H' b = some o
theorem SmX.refl (a : Addr) (H : Hp) : SmX a H H := fun _ _ _ h => h
theorem SmX.trans {a : Addr} {H H1 H2 : Hp} (h : SmX a H H1) (g : SmX a H1 H2) : SmX a H H2 := fun b o hb e => g b o hb (h b o hb e)
theorem smx_of {a : Addr} {H H1 : Hp} (h : Same H H1) : SmX a H H1 := fun b o _ e => h b o e
theorem smx_upd {a : Addr} {H : Hp} {o : HO} : SmX a H (upd H a o) := fun b o hb e => by rw [upd_ne hb]; exact e
theorem smx_mut {a p : Addr} {H H' : Hp} {o : HO} (e : SmX a H H') (h : H p = none) : SmX a H (upd H' p o) := by
  intro b u hb hu
  rw [upd_ne (ne_of_none hu h)]
  exact e b u hb hu
theorem smx_free {a p : Addr} {H H' : Hp} (e : SmX a H H') (hp : p ≠ a) (h : H' p = none) : H p = none := by
  cases q : H p with
  | none => rfl
  | some o => rw [e p o hp q] at h; cases h
/-- a pot of draws at a -/
def Pot (H : Hp) (a : Addr) : Prop := ∃ x y, H a = some (.lst [.int x, .int y]) ∧ PotOk x y
theorem smx_l {K : PySem.W.Frag} {a : Addr} {H H' : Hp} {p : Addr} {xs : List V} (e : SmX a H H') (n : p ≠ a) (h : SqL K H p xs) : SqL K H' p xs := by
  rcases h with (h | ⟨o, h⟩) | h
  · exact .inl (.inl (e _ _ n h))
  · exact .inl (.inr ⟨o, e _ _ n h⟩)
  · exact .inr h
theorem smx_t {K : PySem.W.Frag} {a : Addr} {H H' : Hp} {p : Addr} {xs : List V} (pa : Pot H a) (e : SmX a H H') (h : SqT K H p xs) : SqT K H' p xs := by
  obtain ⟨x, y, ha, _⟩ := pa
  rcases h with (h | ⟨o, h⟩) | h
  · exact .inl (.inl (e _ _ (fun q => by rw [q, ha] at h; cases h) h))
  · exact .inl (.inr ⟨o, e _ _ (fun q => by rw [q, ha] at h; cases h) h⟩)
  · exact .inr h
theorem fnok_weak {P : Program} {w : World} {K : PySem.W.Frag} {mg : Str → Option Value} {base : Heap} {cx : CXT} {k : Nat} {f : Addr} {fd : FuncData} {ps : List Str} {sp sp' : Sp} (h : FnOk P w K mg base cx k f fd ps sp) (wk : ∀ vs H Q E, sp' vs H Q E → sp vs H Q E) : FnOk P w K mg base cx k f fd ps sp' :=
  ⟨fun vs H Q E z => h.len vs H Q E (wk _ _ _ _ z), fun A outer s H args us vs Q E r e b v z => h.run A outer s H args us vs Q E r e b v (wk _ _ _ _ z)⟩
def spPot (K : PySem.W.Frag) : Sp := fun vs H Q _ => ∃ (a : Addr) (ns : List Int), vs = [.ref a, .int 0] ∧ SqL K H a (ns.map V.int) ∧
  ∀ (H' : Hp) (p : Addr), Same H H' → H p = none → Pot H' p → Q (.ref p) H'
def spDraw : Sp := fun vs H Q _ => ∃ (a : Addr) (m : Int), vs = [.ref a, .int m] ∧ Pot H a ∧ 0 < m ∧ m < 1073741824 ∧
  ∀ (H' : Hp) (d : Int), SmX a H H' → Pot H' a → 0 ≤ d → d < m → Q (.int d) H'
section
variable {P : Program} {w : World} {K : PySem.W.Frag} {mg : Str → Option Value} {base : Heap}
abbrev nPot : List Str := ["_law_script", "_law_k", "_law_cell"]
theorem sc_pot : FnScope nPot ["_law_script", "_law_k"] (defScope sPot) := ⟨rfl, rfl, rfl, by decide +kernel, rfl, by decide +kernel, by decide +kernel⟩
theorem potok_end (c j : Int) (m : Int) (h0 : 0 < m) (h1 : m < 4294967295) : PotOk (if j > 0 then j else 0) (c % m + 1) := by
  have a := Int.emod_nonneg c (show m ≠ 0 by omega)
  have b := Int.emod_lt_of_pos c h0
  refine ⟨?_, by omega, by omega⟩
  split <;> omega
theorem ok_pot {f : Addr} {fd : FuncData} (F : Fun K "_law_pot" "_law_pot" sPot f fd) (B : Bl mg) : FnOk P w K mg base CX0 1 f fd ["_law_script", "_law_k"] (spPot K) := by
  refine F.ok sc_pot (fun vs H Q E h => ?_) (fun cdv A outer s H vs Q E hr h => ?_)
  · obtain ⟨a, ns, rfl, _⟩ := h
    rfl
  · obtain ⟨a, ns, rfl, ha, q⟩ := h
    refine ⟨_, pss_cons (ps_set (i := 2) sc_pot.nd rfl (Or.inl rfl) (pe_op op_add (pe_op op_mul pe_int (pv 1)) pe_int))
      (pss_cons (ps_if (pt_cmpR op_lt (pv 1) (pe_callB call_len_seq (by rfl) B.len PySem.boot_len (pa_cons (pv 0) pa_nil)) (nomark _))
          (pss_one (ps_set (i := 2) sc_pot.nd rfl (Or.inl rfl) (pe_callB call_abs (by rfl) B.abs PyProof.Rows.boot_abs (pa_cons (pe_ix ix_list (pv 0) (pv 1) (fun _ _ => rfl)) pa_nil)))) pss_nil)
      (pss_one (ps_ret (pe_lst (pa_cons (pe_callB (call_max2 rfl) (by rfl) B.max PyProof.Rows.boot_max (pa_cons pe_int (pa_cons (pe_op op_sub (pv 2) (pe_op op_pow pe_int pe_int)) pa_nil)))
        (pa_cons (pe_op op_add (pe_op op_mod (pe_op op_mul (pe_callTy call_int1 (by rfl) B.int PyProof.Rows.boot_int (pa_cons (pe_op op_add (pe_op op_mod (pe_callTy call_int1 (by rfl) B.int PyProof.Rows.boot_int (pa_cons (pv 2) pa_nil)) pe_int) pe_int) pa_nil))
          (pe_op op_pow (pe_op op_add (pe_op op_mul pe_int (pv 1)) pe_int) pe_int)) pe_int) pe_int) pa_nil)))))), ?_⟩
    refine ⟨_, rfl, _, _, rfl, rfl, .inl ⟨by decide, by decide⟩, _, _, rfl, rfl, ?_⟩
    refine ⟨_, rfl, _, rfl, a, _, rfl, .inl ha, _, _, rfl, rfl, _, rfl, ?_⟩
    refine ite2 (fun hk => ?_) (fun hk => ?_)
    · cases ns with
      | nil => simp at hk
      | cons n ns =>
        refine ⟨_, rfl, _, rfl, a, _, _, _, rfl, rfl, ha, at0, n, rfl, ?_⟩
        refine ⟨_, rfl, _, _, rfl, rfl, ⟨by decide, by decide, by decide⟩, _, _, rfl, rfl, _, _, rfl, ?_⟩
        refine ⟨_, rfl, .inl ⟨_, rfl, _, _, rfl, rfl, (show (0 : Int) < 2147483549 by decide), _, _, rfl, rfl, .inl ⟨_, rfl, ?_⟩⟩⟩
        refine ⟨_, rfl, _, _, rfl, rfl, .inl ⟨by decide, by decide⟩, _, _, rfl, rfl, _, _, rfl, rfl, ⟨by decide, by decide, by decide⟩, _, _, rfl, rfl, ?_, _, _, rfl, rfl, (show (0 : Int) < 2147483477 by decide), _, _, rfl, rfl, ?_⟩
        · have b0 := Int.emod_nonneg (if n < 0 then -n else n) (show (2147483549 : Int) ≠ 0 by decide)
          have b1 := Int.emod_lt_of_pos (if n < 0 then -n else n) (show (0 : Int) < 2147483549 by decide)
          exact .inl ⟨by omega, by omega⟩
        · refine ⟨szle (by show 2 ≤ 100000; decide), fun r hr => ?_⟩
          exact q _ r (same_new hr) hr ⟨_, _, upd_same, potok_end _ _ 2147483477 (by decide) (by decide)⟩
    · refine ⟨_, rfl, _, _, rfl, rfl, ⟨by decide, by decide, by decide⟩, _, _, rfl, rfl, _, _, rfl, ?_⟩
      generalize (137 * 0 + 71 : Int) = c
      refine ⟨_, rfl, .inl ⟨_, rfl, _, _, rfl, rfl, (show (0 : Int) < 2147483549 by decide), _, _, rfl, rfl, .inl ⟨_, rfl, ?_⟩⟩⟩
      refine ⟨_, rfl, _, _, rfl, rfl, .inl ⟨by decide, by decide⟩, _, _, rfl, rfl, _, _, rfl, rfl, ⟨by decide, by decide, by decide⟩, _, _, rfl, rfl, ?_, _, _, rfl, rfl, (show (0 : Int) < 2147483477 by decide), _, _, rfl, rfl, ?_⟩
      · have b0 := Int.emod_nonneg c (show (2147483549 : Int) ≠ 0 by decide)
        have b1 := Int.emod_lt_of_pos c (show (0 : Int) < 2147483549 by decide)
        exact .inl ⟨by omega, by omega⟩
      · refine ⟨szle (by show 2 ≤ 100000; decide), fun r hr => ?_⟩
        exact q _ r (same_new hr) hr ⟨_, _, upd_same, potok_end _ _ 2147483477 (by decide) (by decide)⟩
abbrev nDraw : List Str := ["_law_pot_here", "_law_room", "_law_digit"]
theorem sc_draw : FnScope nDraw ["_law_pot_here", "_law_room"] (defScope sDraw) := ⟨rfl, rfl, rfl, by decide +kernel, rfl, by decide +kernel, by decide +kernel⟩
theorem at_0 {x y : V} : atI [x, y] (0 : Int) = some x := rfl
theorem at_1 {x y : V} : atI [x, y] (1 : Int) = some y := rfl
theorem ok_draw {f : Addr} {fd : FuncData} (F : Fun K "_law_draw" "_law_draw" sDraw f fd) (B : Bl mg) : FnOk P w K mg base CX0 1 f fd ["_law_pot_here", "_law_room"] spDraw := by
  refine F.ok sc_draw (fun vs H Q E h => ?_) (fun cdv A outer s H vs Q E hr h => ?_)
  · obtain ⟨a, m, rfl, _⟩ := h
    rfl
  · obtain ⟨a, m, rfl, ⟨x, y, ha, hx, hy0, hy1⟩, m0, m1, q⟩ := h
    refine ⟨_, pss_cons (ps_if (pt_cmpR op_gt (pe_ix ix_list (pv 0) pe_int (fun _ _ => rfl)) pe_int (nomark _))
        (pss_cons (ps_asg (pe_callB call_divmod (by rfl) B.divmod PyProof.Rows.boot_divmod (pa_cons (pe_ix ix_list (pv 0) pe_int (fun _ _ => rfl)) (pa_cons (pv 1) pa_nil)))
            (pg_tup rfl (pgs_cons (pg_sub (pv 0) pe_int set_list) (pgs_cons (pg_name (i := 2) sc_draw.nd rfl (Or.inl rfl)) pgs_nil))))
          (pss_one (ps_ret (pv 2)))) pss_nil)
      (pss_cons (ps_asg (pe_op op_mod (pe_callTy call_int1 (by rfl) B.int PyProof.Rows.boot_int (pa_cons (pe_op op_add (pe_op op_mul (pe_ix ix_list (pv 0) pe_int (fun _ _ => rfl)) pe_int) pe_int) pa_nil)) pe_int) (pg_sub (pv 0) pe_int set_list))
      (pss_one (ps_ret (pe_op op_mod (pe_callTy call_int1 (by rfl) B.int PyProof.Rows.boot_int (pa_cons (pe_op op_fdiv (pe_op op_mod (pe_callTy call_int1 (by rfl) B.int PyProof.Rows.boot_int (pa_cons (pe_op op_mul (pe_ix ix_list (pv 0) pe_int (fun _ _ => rfl)) (pe_ix ix_list (pv 0) pe_int (fun _ _ => rfl))) pa_nil)) pe_int) pe_int) pa_nil)) (pv 1))))), ?_⟩
    refine ⟨_, rfl, a, _, _, _, rfl, rfl, sl_of ha, at_0, _, _, rfl, rfl, _, rfl, ?_⟩
    refine ite2 (fun h => ?_) (fun h => ?_)
    · refine ⟨_, rfl, a, _, _, _, rfl, rfl, sl_of ha, at_0, _, rfl, _, _, rfl, ⟨m0, m1⟩, fun t ht => ?_⟩
      have nta : t ≠ a := fun e => by rw [e, ha] at ht; cases ht
      refine ⟨t, _, rfl, st_of upd_same, rfl, _, _, rfl, _, rfl, a, _, _, 0, rfl, rfl, (by rw [upd_ne nta.symm]; exact ha), rfl, _, _, rfl, rfl, ?_⟩
      refine ⟨_, rfl, q _ _ ((smx_of (same_new ht)).trans smx_upd) ⟨_, _, upd_same, ?_, hy0, hy1⟩ (Int.emod_nonneg x (by omega)) (Int.emod_lt_of_pos x m0)⟩
      exact Int.ediv_nonneg hx (by omega)
    · refine ⟨_, rfl, a, _, _, _, rfl, rfl, sl_of ha, at_1, _, _, rfl, rfl, .inl ⟨by omega, by omega⟩, _, _, rfl, rfl, .inl ⟨_, rfl, _, _, rfl, rfl, (show (0 : Int) < 2147483587 by decide), _, rfl, a, _, _, 1, rfl, rfl, ha, rfl, ?_⟩⟩
      have b0 := Int.emod_nonneg (y * 48271 + 18150) (show (2147483587 : Int) ≠ 0 by decide)
      have b1 := Int.emod_lt_of_pos (y * 48271 + 18150) (show (0 : Int) < 2147483587 by decide)
      refine ⟨_, rfl, a, _, _, _, rfl, rfl, sl_of upd_same, at_1, _, rfl, a, _, _, _, rfl, rfl, sl_of upd_same, at_1, _, _, rfl, rfl, .inl ⟨by omega, by omega⟩, .inl ⟨_, rfl, _, _, rfl, rfl, (show (0 : Int) < 2147483549 by decide), _, _, rfl, rfl, ⟨by decide, by decide⟩, .inl ⟨_, rfl, _, rfl, _, _, rfl, rfl, m0, ?_⟩⟩⟩
      exact q _ _ smx_upd ⟨_, _, upd_same, hx, b0, by omega⟩ (Int.emod_nonneg _ (by omega)) (Int.emod_lt_of_pos _ m0)
end
end Tk

namespace Tk
open PySem PySem.Spec PyProof.Rows L2
abbrev sLowR : Stmt := top 38
abbrev sSumR : Stmt := top 39
abbrev sByR : Stmt := top 40
abbrev sLessR : Stmt := top 41
abbrev sTotR : Stmt := top 42
abbrev sRtPair : Stmt := top 51
abbrev sRtPairs : Stmt := top 52
/-! ## the law's own fractions -/
/-- a tuple of two ints -/
def PairAt (K : PySem.W.Frag) (H : Hp) (p : Addr) (q : Int × Int) : Prop := SqT K H p [.int q.1, .int q.2]
theorem pair_sR {K : PySem.W.Frag} {H H' : Hp} {p : Addr} {q : Int × Int} (h : PairAt K H p q) (e : Same H H') : PairAt K H' p q := same_t e h
/-- a new tuple of two ints -/
def NewPair (K : PySem.W.Frag) (H : Hp) (Q : VK) (q : Int × Int) : Prop := ∀ (H' : Hp) (r : Addr), Same H H' → H r = none → PairAt K H' r q → Q (.ref r) H'
def spLowR (K : PySem.W.Frag) : Sp := fun vs H Q _ => ∃ t b : Int, vs = [.int t, .int b] ∧ b ≠ 0 ∧ b.natAbs.log2 < 9000 ∧ NewPair K H Q (lowQ t b)
def spTwoR (K : PySem.W.Frag) (g : Int × Int → Int × Int → Int × Int) : Sp := fun vs H Q _ => ∃ (p r : Addr) (x y : Int × Int), vs = [.ref p, .ref r] ∧ PairAt K H p x ∧ PairAt K H r y ∧ Small x ∧ Small y ∧ NewPair K H Q (g x y)
def spOverR (K : PySem.W.Frag) : Sp := fun vs H Q _ => ∃ (p r : Addr) (x y : Int × Int), vs = [.ref p, .ref r] ∧ PairAt K H p x ∧ PairAt K H r y ∧ Small x ∧ Small y ∧ y.1 ≠ 0 ∧ y.1.natAbs.log2 < 4000 ∧ NewPair K H Q (overQ x y)
def spTotR (K : PySem.W.Frag) : Sp := fun vs H Q _ => ∃ (a : Addr) (xs : List V) (qs : List (Int × Int)), vs = [.ref a] ∧ SqL K H a xs ∧ xs.length = qs.length ∧ (∀ (i : Nat) (x : V) (q : Int × Int), xs[i]? = some x → qs[i]? = some q → ∃ p, x = .ref p ∧ PairAt K H p q ∧ Small q) ∧
  (∀ i, i ≤ qs.length → Small (sumQ (qs.take i))) ∧ ∀ (H' : Hp) (r : Addr), Same H H' → PairAt K H' r (sumQ qs) → Q (.ref r) H'
def spPairR (K : PySem.W.Frag) (C : Addr) : Sp := fun vs H Q _ => ∃ (p : Addr) (q : Int × Int), vs = [.ref p] ∧ RatAt C H p q ∧ NewPair K H Q q
def spPairsR (K : PySem.W.Frag) (C : Addr) : Sp := fun vs H Q _ => ∃ (a : Addr) (xs : List V) (qs : List (Int × Int)), vs = [.ref a] ∧ H a = some (.lst xs) ∧ xs.length = qs.length ∧ xs.length ≤ 1000 ∧ (∀ (i : Nat) (x : V) (q : Int × Int), xs[i]? = some x → qs[i]? = some q → ∃ p, x = .ref p ∧ RatAt C H p q) ∧
  ∀ (H' : Hp) (r : Addr), Same H H' → H r = none → Dp K H' (.ref r) (.list (qs.map dP)) → Q (.ref r) H'
def spShownR (K : PySem.W.Frag) : Sp := fun vs H Q _ => ∃ (p : Addr) (q : Int × Int), vs = [.ref p] ∧ PairAt K H p q ∧ Tiny q ∧ Q (.str (shQ q)) H
section
variable {P : Program} {w : World} {K : PySem.W.Frag} {mg : Str → Option Value} {base : Heap}
abbrev nLowR : List Str := ["_law_top", "_law_bottom", "_law_one", "_law_other"]
theorem sc_lowR : FnScope nLowR ["_law_top", "_law_bottom"] (defScope sLowR) := ⟨rfl, rfl, rfl, by decide +kernel, rfl, by decide +kernel, by decide +kernel⟩
theorem ok_lowR {f : Addr} {fd : FuncData} (F : Fun K "_law_low" "_law_low" sLowR f fd) (B : Bl mg) : FnOk P w K mg base CX0 1 f fd ["_law_top", "_law_bottom"] (spLowR K) := by
  refine F.ok sc_lowR (fun vs H Q E h => ?_) (fun cdv A outer s H vs Q E hr h => ?_)
  · obtain ⟨t, b, rfl, _⟩ := h
    rfl
  · obtain ⟨t, b, rfl, b0, bl, q⟩ := h
    refine ⟨_, pss_cons (ps_par (i := 2) (j := 3) rfl sc_lowR.nd rfl rfl (by decide) rfl rfl (pa_cons (pe_callB call_abs (by rfl) B.abs PyProof.Rows.boot_abs (pa_cons (pv 0) pa_nil)) (pa_cons (pe_callB call_abs (by rfl) B.abs PyProof.Rows.boot_abs (pa_cons (pv 1) pa_nil)) pa_nil)) (by rfl))
      (pss_cons (ps_while PassesOwn.never (pt_cmpR op_gt (pv 3) pe_int (nomark _))
        (pss_one (ps_par (i := 2) (j := 3) rfl sc_lowR.nd rfl rfl (by decide) rfl rfl (pa_cons (pv 3) (pa_cons (pe_op op_mod (pe_callTy call_int1 (by rfl) B.int PyProof.Rows.boot_int (pa_cons (pv 2) pa_nil)) (pv 3)) pa_nil)) (by rfl))))
      (pss_cons (ps_set (i := 2) sc_lowR.nd rfl (Or.inl rfl) (pe_ifExp (pt_cmpR op_gt (pv 1) pe_int (nomark _)) (pv 2) (pe_op op_sub pe_int (pv 2))))
      (pss_one (ps_ret (pe_tup (pa_cons (pe_op op_fdivWN (pv 0) (pv 2)) (pa_cons (pe_op op_fdivWN (pv 1) (pv 2)) pa_nil))))))), ?_⟩
    have ab : ∀ x : Int, (if x < 0 then -x else x) = (x.natAbs : Int) := fun x => by split <;> omega
    refine ⟨_, rfl, t, rfl, _, rfl, b, rfl, _, _, rfl, ?_⟩
    rw [ab, ab]
    refine ⟨fun m σ G => ∃ u v : Nat, σ = [some (V.int t), some (V.int b), some (V.int (u : Int)), some (V.int (v : Int))] ∧ G = H ∧ Nat.gcd u v = Nat.gcd t.natAbs b.natAbs ∧ v = m, ⟨_, t.natAbs, b.natAbs, rfl, rfl, rfl, rfl⟩, ?_⟩
    rintro m σ G ⟨u, v, rfl, rfl, hg, rfl⟩
    refine ⟨_, rfl, _, _, rfl, rfl, _, rfl, ?_⟩
    refine ite2 (fun c => ?_) (fun c => ?_)
    · have v0 : 0 < v := by
        have := of_decide_eq_true c
        omega
      refine ⟨_, fun σ' H' z => z, ?_⟩
      refine ⟨_, rfl, _, rfl, .inl ⟨_, rfl, _, rfl, _, _, rfl, rfl, (show (0 : Int) < (v : Int) by omega), _, _, rfl, u % v, Nat.mod_lt _ v0, v, u % v, rfl, rfl, ?_, rfl⟩⟩
      rw [Nat.gcd_comm, ← hg, Nat.gcd_comm u v, Nat.gcd_rec v u]
    · have v0 : v = 0 := by
        cases v with
        | zero => rfl
        | succ v => exact absurd (decide_eq_true (show (0 : Int) < ((v + 1 : Nat) : Int) by omega)) c
      subst v0
      rw [Nat.gcd_zero_right] at hg
      subst hg
      have gl : (comQ t b).natAbs.log2 < 9000 := by
        rw [com_abs]
        exact log2_monoR (Nat.le_of_dvd (by omega) (Nat.gcd_dvd_right _ _)) bl
      have cd : ∀ x : Int, CDivWN x (comQ t b) := fun x => ⟨com_ne b0, gl⟩
      have fin : ∀ z : Int, z = comQ t b → tRet (tTup (tCons (tOp (rI CDivWN fun i j => V.int (i.fdiv j)) (tVar 0) (tVar 2)) (tCons (tOp (rI CDivWN fun i j => V.int (i.fdiv j)) (tVar 1) (tVar 2)) tNil))) { nx := fun _ H' => Q V.non H', rt := Q } [some (V.int t), some (V.int b), some (V.int z), some (V.int ((0 : Nat) : Int))] G := fun z ez => by
        rw [ez]
        refine ⟨_, rfl, _, rfl, _, _, rfl, rfl, cd t, _, rfl, _, rfl, _, _, rfl, rfl, cd b, szle (by show 2 ≤ 100000; decide), fun r hr0 => ?_⟩
        exact q _ r (same_new hr0) hr0 (st_of upd_same)
      refine ⟨_, rfl, _, _, rfl, rfl, _, rfl, ?_⟩
      refine ite2 (fun c2 => ?_) (fun c2 => ?_)
      · exact ⟨_, rfl, fin _ (by unfold comQ; rw [if_pos (of_decide_eq_true c2)])⟩
      · refine ⟨_, rfl, _, _, rfl, rfl, fin _ ?_⟩
        unfold comQ
        rw [if_neg (fun z => c2 (decide_eq_true z))]
        omega
theorem at_i0 {x y : V} : atI [x, y] 0 = some x := rfl
theorem at_i1 {x y : V} : atI [x, y] 1 = some y := rfl
theorem sc_sumR : FnScope ["_law_one", "_law_other"] ["_law_one", "_law_other"] (defScope sSumR) := ⟨rfl, rfl, rfl, by decide +kernel, rfl, by decide +kernel, by decide +kernel⟩
theorem ok_sumR {f f1 : Addr} {fd fd1 : FuncData} (F : Fun K "_law_sum" "_law_sum" sSumR f fd) (D1 : Df K mg "_law_low" sLowR ["_law_top", "_law_bottom"] f1 fd1) (B : Bl mg) : FnOk P w K mg base CX0 2 f fd ["_law_one", "_law_other"] (spTwoR K addQ) := by
  have G1 : FnOk P w K mg base CX0 1 f1 fd1 ["_law_top", "_law_bottom"] (spLowR K) := ok_lowR D1.F B
  refine F.ok sc_sumR (fun vs H Q E h => ?_) (fun cdv A outer s H vs Q E hr h => ?_)
  · obtain ⟨p, r, x, y, rfl, _⟩ := h
    rfl
  · obtain ⟨p, r, x, y, rfl, hp, hr', sx, sy, q⟩ := h
    refine ⟨_, pss_one (ps_ret (pe_call G1 hr rfl D1.g D1.F.kp D1.b .nil pass0 (pa_cons (pe_op op_add (pe_op op_mulW (pe_ix ix_tup (pv 0) pe_int (fun _ _ => rfl)) (pe_ix ix_tup (pv 1) pe_int (fun _ _ => rfl))) (pe_op op_mulW (pe_ix ix_tup (pv 1) pe_int (fun _ _ => rfl)) (pe_ix ix_tup (pv 0) pe_int (fun _ _ => rfl))))
      (pa_cons (pe_op op_mulW (pe_ix ix_tup (pv 0) pe_int (fun _ _ => rfl)) (pe_ix ix_tup (pv 1) pe_int (fun _ _ => rfl))) pa_nil)))), ?_⟩
    obtain ⟨b0, bl⟩ := small_bot sx sy
    have e1 := sx.top
    have e2 := sy.top
    have e3 := sx.bot
    have e4 := sy.bot
    refine ⟨_, rfl, p, _, _, _, rfl, rfl, hp, at_i0, _, rfl, r, _, _, _, rfl, rfl, hr', at_i1, _, _, rfl, rfl, (by unfold CMulW; omega), _, rfl, r, _, _, _, rfl, rfl, hr', at_i0, _, rfl, p, _, _, _, rfl, rfl, hp, at_i1, _, _, rfl, rfl, (by unfold CMulW; omega), _, _, rfl, rfl, ?_⟩
    exact ⟨_, rfl, p, _, _, _, rfl, rfl, hp, at_i1, _, rfl, r, _, _, _, rfl, rfl, hr', at_i1, _, _, rfl, rfl, (by unfold CMulW; omega), _, _, rfl, Int.ne_of_gt b0, bl, q⟩
theorem sc_byR : FnScope ["_law_one", "_law_other"] ["_law_one", "_law_other"] (defScope sByR) := ⟨rfl, rfl, rfl, by decide +kernel, rfl, by decide +kernel, by decide +kernel⟩
theorem ok_byR {f f1 : Addr} {fd fd1 : FuncData} (F : Fun K "_law_by" "_law_by" sByR f fd) (D1 : Df K mg "_law_low" sLowR ["_law_top", "_law_bottom"] f1 fd1) (B : Bl mg) : FnOk P w K mg base CX0 2 f fd ["_law_one", "_law_other"] (spTwoR K mulQ) := by
  have G1 : FnOk P w K mg base CX0 1 f1 fd1 ["_law_top", "_law_bottom"] (spLowR K) := ok_lowR D1.F B
  refine F.ok sc_byR (fun vs H Q E h => ?_) (fun cdv A outer s H vs Q E hr h => ?_)
  · obtain ⟨p, r, x, y, rfl, _⟩ := h
    rfl
  · obtain ⟨p, r, x, y, rfl, hp, hr', sx, sy, q⟩ := h
    refine ⟨_, pss_one (ps_ret (pe_call G1 hr rfl D1.g D1.F.kp D1.b .nil pass0 (pa_cons (pe_op op_mulW (pe_ix ix_tup (pv 0) pe_int (fun _ _ => rfl)) (pe_ix ix_tup (pv 1) pe_int (fun _ _ => rfl)))
      (pa_cons (pe_op op_mulW (pe_ix ix_tup (pv 0) pe_int (fun _ _ => rfl)) (pe_ix ix_tup (pv 1) pe_int (fun _ _ => rfl))) pa_nil)))), ?_⟩
    obtain ⟨b0, bl⟩ := small_bot sx sy
    have e1 := sx.top
    have e2 := sy.top
    have e3 := sx.bot
    have e4 := sy.bot
    refine ⟨_, rfl, p, _, _, _, rfl, rfl, hp, at_i0, _, rfl, r, _, _, _, rfl, rfl, hr', at_i0, _, _, rfl, rfl, (by unfold CMulW; omega), ?_⟩
    exact ⟨_, rfl, p, _, _, _, rfl, rfl, hp, at_i1, _, rfl, r, _, _, _, rfl, rfl, hr', at_i1, _, _, rfl, rfl, (by unfold CMulW; omega), _, _, rfl, Int.ne_of_gt b0, bl, q⟩
theorem small_neg {y : Int × Int} (h : Small y) : Small (0 - y.1, y.2) := ⟨h.pos, h.bot, by
  have := h.top
  show (0 - y.1).natAbs.log2 < 100000
  rw [show (0 - y.1).natAbs = y.1.natAbs by omega]
  exact this⟩
theorem add_neg (x y : Int × Int) : addQ x (0 - y.1, y.2) = subQ x y := by
  unfold addQ subQ
  congr 1
  show x.1 * y.2 + (0 - y.1) * x.2 = _
  rw [Int.zero_sub, Int.neg_mul]
  omega
theorem sc_lessR : FnScope ["_law_one", "_law_other"] ["_law_one", "_law_other"] (defScope sLessR) := ⟨rfl, rfl, rfl, by decide +kernel, rfl, by decide +kernel, by decide +kernel⟩
theorem ok_lessR {f f1 : Addr} {fd fd1 : FuncData} (F : Fun K "_law_less" "_law_less" sLessR f fd) (D1 : Df K mg "_law_sum" sSumR ["_law_one", "_law_other"] f1 fd1) (G1 : FnOk P w K mg base CX0 2 f1 fd1 ["_law_one", "_law_other"] (spTwoR K addQ)) : FnOk P w K mg base CX0 3 f fd ["_law_one", "_law_other"] (spTwoR K subQ) := by
  refine F.ok sc_lessR (fun vs H Q E h => ?_) (fun cdv A outer s H vs Q E hr h => ?_)
  · obtain ⟨p, r, x, y, rfl, _⟩ := h
    rfl
  · obtain ⟨p, r, x, y, rfl, hp, hr', sx, sy, q⟩ := h
    refine ⟨_, pss_one (ps_ret (pe_call G1 hr rfl D1.g D1.F.kp D1.b .nil pass0 (pa_cons (pv 0) (pa_cons (pe_tup (pa_cons (pe_op op_sub pe_int (pe_ix ix_tup (pv 1) pe_int (fun _ _ => rfl))) (pa_cons (pe_ix ix_tup (pv 1) pe_int (fun _ _ => rfl)) pa_nil))) pa_nil)))), ?_⟩
    refine ⟨_, rfl, _, rfl, r, _, _, _, rfl, rfl, hr', at_i0, _, _, rfl, rfl, _, rfl, r, _, _, _, rfl, rfl, hr', at_i1, szle (by show 2 ≤ 100000; decide), fun t ht => ?_⟩
    have s1 := same_new (o := .tup [V.int (0 - y.1), V.int y.2]) ht
    refine ⟨p, t, x, (0 - y.1, y.2), rfl, pair_sR hp s1, st_of upd_same, sx, small_neg sy, fun H' z s2 hz hz2 => ?_⟩
    rw [add_neg] at hz2
    exact q H' z (s1.trans s2) (s1.free hz) hz2
theorem sc_totR : FnScope ["_law_some", "_law_found", "_law_one"] ["_law_some"] (defScope sTotR) := ⟨rfl, rfl, rfl, by decide +kernel, rfl, by decide +kernel, by decide +kernel⟩
theorem ok_totR {f f1 : Addr} {fd fd1 : FuncData} (F : Fun K "_law_total" "_law_total" sTotR f fd) (D1 : Df K mg "_law_sum" sSumR ["_law_one", "_law_other"] f1 fd1) (G1 : FnOk P w K mg base CX0 2 f1 fd1 ["_law_one", "_law_other"] (spTwoR K addQ)) : FnOk P w K mg base CX0 3 f fd ["_law_some"] (spTotR K) := by
  refine F.ok sc_totR (fun vs H Q E h => ?_) (fun cdv A outer s H vs Q E hr h => ?_)
  · obtain ⟨a, xs, qs, rfl, _⟩ := h
    rfl
  · obtain ⟨a, xs, qs, rfl, ha, hl, hq, hs, q⟩ := h
    refine ⟨_, pss_cons (ps_set (i := 1) sc_totR.nd rfl (Or.inl rfl) (pe_tup (pa_cons pe_int (pa_cons pe_int pa_nil))))
      (pss_cons (ps_for PassesOwn.never rfl (pi_list (pv 0)) (pg_name (i := 2) sc_totR.nd rfl (Or.inl rfl))
        (pss_one (ps_set (i := 1) sc_totR.nd rfl (Or.inl rfl) (pe_call G1 hr rfl D1.g D1.F.kp D1.b .nil pass0 (pa_cons (pv 1) (pa_cons (pv 2) pa_nil))))))
      (pss_one (ps_ret (pv 1)))), ?_⟩
    refine ⟨szle (by show 2 ≤ 100000; decide), fun t ht => ?_⟩
    have s1 := same_new (o := .tup [V.int 0, V.int 1]) ht
    have ht' : PairAt K (upd H t (.tup [V.int 0, V.int 1])) t (0, 1) := st_of upd_same
    generalize upd H t (.tup [V.int 0, V.int 1]) = H1 at s1 ht'
    refine ⟨_, rfl, a, rfl, ⟨xs, same_l s1 ha⟩, for_list (K := K) (a := a) (xs := xs) (fun i σ G => ∃ (r : Addr) (v2 : Option V), σ = [some (V.ref a), some (V.ref r), v2] ∧ Same H1 G ∧ PairAt K G r (sumQ (qs.take i))) ⟨t, none, rfl, fun _ _ h => h, by simpa [sumQ] using ht'⟩ (fun i σ G _ z => by obtain ⟨_, _, _, z, _⟩ := z; exact same_l z (same_l s1 ha)) ?_ ?_⟩
    · rintro i y σ G hy ⟨r, v2, rfl, sG, hG⟩
      have hi := lt_of_at hy
      obtain ⟨z, hz⟩ : ∃ z, qs[i]? = some z := ⟨qs[i]'(by omega), by simp [show i < qs.length by omega]⟩
      obtain ⟨p, rfl, hp, sz⟩ := hq i y z hy hz
      have es : sumQ (qs.take (i + 1)) = addQ (sumQ (qs.take i)) z := by
        unfold sumQ
        rw [take_at hz, List.foldl_append]
        rfl
      refine ⟨_, rfl, _, rfl, r, p, sumQ (qs.take i), z, rfl, hG, pair_sR hp (s1.trans sG), hs i (by omega), sz, fun H' u s2 _ hu => ⟨u, _, rfl, sG.trans s2, ?_⟩⟩
      rw [es]
      exact hu
    · rintro σ G ⟨r, v2, rfl, sG, hG⟩
      rw [hl, List.take_length] at hG
      exact ⟨_, rfl, q G r (s1.trans sG) hG⟩
end
end Tk

namespace Tk
open PySem PySem.Spec PyProof.Rows L2
section
variable {P : Program} {w : World} {K : PySem.W.Frag} {mg : Str → Option Value} {base : Heap}
theorem sc_pairR : FnScope ["_law_value"] ["_law_value"] (defScope sRtPair) := ⟨rfl, rfl, rfl, by decide +kernel, rfl, by decide +kernel, by decide +kernel⟩
theorem ok_pairR {f fI C pT gT pB gB : Addr} {fd dI dT dB : FuncData} (F : Fun K "_law_pair" "_law_pair" sRtPair f fd) (M : RtM K mg C fI dI) (Z : RtP K C pT gT pB gB dT dB) (B : Bl mg) : FnOk P w K mg base CX0 3 f fd ["_law_value"] (spPairR K C) := by
  have GT : FnOk P w K mg base CX0 1 gT dT ["self"] (getSp C "_top") := ok_rtop Z.FT M.c
  have GB : FnOk P w K mg base CX0 1 gB dB ["self"] (getSp C "_bottom") := ok_rbot Z.FB M.c
  refine F.ok sc_pairR (fun vs H Q E h => ?_) (fun cdv A outer s H vs Q E hr h => ?_)
  · obtain ⟨p, x, rfl, _⟩ := h
    rfl
  · obtain ⟨p, x, rfl, ⟨dx, hp⟩, q⟩ := h
    refine ⟨_, pss_one (ps_ret (pe_ifExp (pt_val (pe_callB (C8.call_isC M.ins) (by rfl) B.isi PyProof.Rows.boot_isinstance (pa_cons (pv 0) (pa_cons (pe_glob (v := .ref C) rfl M.c.mgC rfl) pa_nil))))
      (pe_tup (pa_cons (pe_prop (pv 0) M.c.cl Z.pt GT hr Z.bT .nil pass0 rfl) (pa_cons (pe_prop (pv 0) M.c.cl Z.pb GB hr Z.bB .nil pass0 rfl) pa_nil))) pe_non)), ?_⟩
    refine ⟨_, rfl, p, dx, _, rfl, hp, true, rfl, iteT ?_⟩
    refine ⟨_, rfl, p, dx, _, rfl, hp, p, dx, _, _, rfl, hp, rf_top _ _, _, rfl, p, dx, _, rfl, hp, p, dx, _, _, rfl, hp, rf_bot _ _, szle (by show 2 ≤ 100000; decide), fun t ht => ?_⟩
    exact q _ t (same_new ht) ht (st_of upd_same)
abbrev nPairsR : List Str := ["_law_value", "_law_one"]
theorem sc_pairsR : FnScope nPairsR ["_law_value"] (defScope sRtPairs) := ⟨rfl, rfl, rfl, by decide +kernel, rfl, by decide +kernel, by decide +kernel⟩
theorem ok_pairsR {f f1 C : Addr} {fd fd1 : FuncData} (F : Fun K "_law_pairs" "_law_pairs" sRtPairs f fd) (D1 : Df K mg "_law_pair" sRtPair ["_law_value"] f1 fd1) (G1 : FnOk P w K mg base CX0 3 f1 fd1 ["_law_value"] (spPairR K C)) (B : Bl mg) : FnOk P w K mg base CX0 4 f fd ["_law_value"] (spPairsR K C) := by
  refine F.ok sc_pairsR (fun vs H Q E h => ?_) (fun cdv A outer s H vs Q E hr h => ?_)
  · obtain ⟨a, xs, qs, rfl, _⟩ := h
    rfl
  · obtain ⟨a, xs, qs, rfl, ha, hl, few, hq, q⟩ := h
    refine ⟨_, pss_one (ps_ret (pe_ifExp (pt_val (pe_callB call_isi (by rfl) B.isi PyProof.Rows.boot_isinstance (pa_cons (pv 0) (pa_cons (pe_bltn (v := .ty "list") (by rfl) B.list PyProof.Rows.boot_list rfl) pa_nil))))
      (pe_lc (own := [("_law_one", 1)]) (g := gName 1) (tt := tYes) (te := tCall (spPairR K C) [] E0 (tCons (tVar 1) tNil)) rfl sc_pairsR.nd (pi_list (pv 0)) (blkOk_by (N := nPairsR) (sc := defScope sRtPairs) (by decide +kernel)) (fun _ _ _ _ _ => pg_name (i := 1) sc_pairsR.nd rfl (Or.inl rfl)) (fun _ _ _ _ _ => pts_nil)
        (fun _ _ _ _ _ => pe_call G1 hr rfl D1.g D1.F.kp D1.b .nil pass0 (pa_cons (pv 1) pa_nil))) pe_non)), ?_⟩
    refine ⟨_, rfl, V.ref a, V.ty "list", _, _, true, rfl, .ty _, .base (TyOf.lst ha), (by unfold PySem.W.kitOne; rw [if_pos (by simp)]), true, rfl, iteT ?_⟩
    refine ⟨_, rfl, a, rfl, ⟨xs, sl_of ha⟩, fun D hD => ?_⟩
    refine lc_list (xs := xs) (fun k G => Same H G ∧ ∃ acc, G D = some (.lst acc) ∧ acc.length = k ∧ ∀ (i : Nat) (x : V), acc[i]? = some x → ∃ (t : Addr) (z : Int × Int), x = .ref t ∧ qs[i]? = some z ∧ PairAt K G t z ∧ t ≠ D) ⟨same_new hD, [], upd_same, rfl, fun i x h => by simp at h⟩ (fun k G _ z => sl_of (z.1 _ _ ha)) ?_ ?_
    · rintro k x G hx ⟨sG, acc, hacc, hlen, hall⟩
      have hk := lt_of_at hx
      obtain ⟨z, hz⟩ : ∃ z, qs[k]? = some z := ⟨qs[k]'(by omega), by simp [show k < qs.length by omega]⟩
      obtain ⟨p, rfl, hp⟩ := hq k x z hx hz
      refine ⟨rfl, _, rfl, p, z, rfl, rat_s hp sG, fun G2 t s2 ht0 ht => ?_⟩
      have ntD : t ≠ D := fun e => by rw [e, hacc] at ht0; cases ht0
      have mt : ∀ {u : Addr} {ys : List V}, u ≠ D → SqT K G2 u ys → SqT K (upd G2 D (.lst (acc ++ [.ref t]))) u ys := fun {u ys} n h => by
        rcases h with (h | ⟨z, h⟩) | h
        · exact .inl (.inl (by rw [upd_ne n]; exact h))
        · exact .inl (.inr ⟨z, by rw [upd_ne n]; exact h⟩)
        · exact .inr h
      refine ⟨acc, s2 _ _ hacc, szlt (by omega), same_mut (sG.trans s2) hD, acc ++ [.ref t], upd_same, by simp [hlen], fun i y hi => ?_⟩
      by_cases c : i < acc.length
      · rw [List.getElem?_append_left c] at hi
        obtain ⟨u, w', e1, e2, e3, e4⟩ := hall i y hi
        exact ⟨u, w', e1, e2, mt e4 (pair_sR e3 s2), e4⟩
      · rw [List.getElem?_append_right (by omega)] at hi
        have e0 : i - acc.length = 0 := by
          cases e : i - acc.length with
          | zero => rfl
          | succ n => rw [e] at hi; simp at hi
        rw [e0] at hi
        simp at hi
        have : i = k := by omega
        subst this
        exact ⟨t, z, hi.symm, hz, mt ntD ht, ntD⟩
    · rintro G ⟨sG, acc, hacc, hlen, hall⟩
      refine q G D sG hD (.lst (sl_of hacc) ?_)
      have key : ∀ (ys : List V) (zs : List (Int × Int)), ys.length = zs.length → (∀ (i : Nat) (x : V), ys[i]? = some x → ∃ (t : Addr) (z : Int × Int), x = .ref t ∧ zs[i]? = some z ∧ PairAt K G t z) → DpAll K G ys (zs.map dP) := by
        intro ys
        induction ys with
        | nil => intro zs e _; cases zs with
          | nil => exact .nil
          | cons _ _ => simp at e
        | cons y ys ih =>
          intro zs e h
          cases zs with
          | nil => simp at e
          | cons z zs =>
            obtain ⟨t, z', e1, e2, e3⟩ := h 0 y rfl
            simp at e2
            subst e2
            subst e1
            exact .cons (dP_mk e3) (ih zs (by simpa using e) fun i x hx => by simpa using h (i + 1) x (by simpa using hx))
      exact key acc qs (by omega) fun i x hx => by
        obtain ⟨t, z, e1, e2, e3, _⟩ := hall i x hx
        exact ⟨t, z, e1, e2, e3⟩
end
end Tk

/-! plain mathematics of greatest lots -/
namespace Tk
theorem reach_mono {ps qs : List (Int × Int)} {a b : Int} (s : ∀ p ∈ ps, p ∈ qs) (h : Reach ps a b) : Reach qs a b := by
  induction h with
  | refl => exact .refl
  | tail _ hp ih => exact .tail ih (s _ hp)
theorem things_lt (n : Nat) : (things n).Pairwise (· < ·) := by
  unfold things
  rw [List.pairwise_map]
  exact List.Pairwise.imp (fun {a b} h => by show (a : Int) < (b : Int); omega) List.pairwise_lt_range
theorem up_mono {as : List (Int × Int)} {l m : List Int} (s : ∀ y ∈ l, y ∈ m) {a b : Int} (h : Reach (upIn as l) a b) : Reach (upIn as m) a b :=
  reach_mono (fun ⟨x, y⟩ hp => by rw [mem_upIn] at hp ⊢; exact ⟨hp.1, s _ hp.2.1, s _ hp.2.2⟩) h
theorem tie_mono {ts : List (Int × Int)} {l m : List Int} (s : ∀ y ∈ l, y ∈ m) {a b : Int} (h : Reach (tieIn ts l) a b) : Reach (tieIn ts m) a b :=
  reach_mono (fun ⟨x, y⟩ hp => by rw [mem_tieIn] at hp ⊢; exact ⟨hp.1, s _ hp.2.1, s _ hp.2.2⟩) h
theorem tie_sym {ts : List (Int × Int)} {l : List Int} {a b : Int} (h : Reach (tieIn ts l) a b) : Reach (tieIn ts l) b a := both_sym h
theorem reach_trans {ps : List (Int × Int)} {a b c : Int} (h : Reach ps a b) (g : Reach ps b c) : Reach ps a c := by
  induction g with
  | refl => exact h
  | tail _ hp ih => exact .tail ih hp
/-- a lot with the head x that hangs together -/
structure Good (n : Nat) (as ts : List (Int × Int)) (x : Int) (l : List Int) : Prop where
  lot : Lot n l
  mem : x ∈ l
  up : IsHead as l x
  tie : ∀ y ∈ l, Reach (tieIn ts l) x y
theorem hang_iff {ts : List (Int × Int)} {l : List Int} {x : Int} (hx : x ∈ l) : hangB ts l = true ↔ ∀ y ∈ l, Reach (tieIn ts l) x y := by
  rw [hangB_iff]
  cases l with
  | nil => cases hx
  | cons z l =>
    constructor
    · exact fun h y hy => reach_trans (tie_sym (h x hx)) (h y hy)
    · exact fun h y hy => reach_trans (tie_sym (h z (List.mem_cons_self ..))) (h y hy)
noncomputable def inGl (n : Nat) (as ts : List (Int × Int)) (x y : Int) : Bool := @decide (∃ l, Good n as ts x l ∧ y ∈ l) (Classical.propDecidable _)
noncomputable def gl (n : Nat) (as ts : List (Int × Int)) (x : Int) : List Int := (things n).filter (inGl n as ts x)
theorem mem_gl {n : Nat} {as ts : List (Int × Int)} {x y : Int} : y ∈ gl n as ts x ↔ ∃ l, Good n as ts x l ∧ y ∈ l := by
  unfold gl
  rw [List.mem_filter]
  unfold inGl
  rw [@decide_eq_true_iff _ (Classical.propDecidable _)]
  exact ⟨fun h => h.2, fun h => ⟨let ⟨l, g, hy⟩ := h; g.lot.2 y hy, h⟩⟩
theorem gl_lot {n : Nat} {as ts : List (Int × Int)} {x : Int} : Lot n (gl n as ts x) := ⟨(things_lt n).sublist List.filter_sublist, fun _ hy => (List.mem_filter.mp hy).1⟩
theorem good_one {n : Nat} {as ts : List (Int × Int)} {x : Int} (hx : x ∈ things n) : Good n as ts x [x] :=
  ⟨⟨by simp, fun y hy => by rw [List.mem_singleton.mp hy]; exact hx⟩, by simp, fun y hy => by rw [List.mem_singleton.mp hy]; exact .refl, fun y hy => by rw [List.mem_singleton.mp hy]; exact .refl⟩
theorem good_sub {n : Nat} {as ts : List (Int × Int)} {x : Int} {l : List Int} (h : Good n as ts x l) : ∀ y ∈ l, y ∈ gl n as ts x := fun y hy => mem_gl.mpr ⟨l, h, hy⟩
theorem gl_good {n : Nat} {as ts : List (Int × Int)} {x : Int} (hx : x ∈ things n) : Good n as ts x (gl n as ts x) := by
  refine ⟨gl_lot, mem_gl.mpr ⟨[x], good_one hx, by simp⟩, fun y hy => ?_, fun y hy => ?_⟩
  · obtain ⟨l, g, hl⟩ := mem_gl.mp hy
    exact up_mono (good_sub g) (g.up y hl)
  · obtain ⟨l, g, hl⟩ := mem_gl.mp hy
    exact tie_mono (good_sub g) (g.tie y hl)
theorem gl_eq {n : Nat} {as ts : List (Int × Int)} {x : Int} {l : List Int} (h : Good n as ts x l) (all : ∀ m, Good n as ts x m → ∀ y ∈ m, y ∈ l) : l = gl n as ts x :=
  rise_eq h.lot.1 gl_lot.1 fun y => ⟨good_sub h y, fun hy => let ⟨m, g, hm⟩ := mem_gl.mp hy; all m g y hm⟩
/-- two lots of one head make one -/
theorem good_both {n : Nat} {as ts : List (Int × Int)} {x : Int} {l m k : List Int} (h : Good n as ts x l) (g : Good n as ts x m) (rk : k.Pairwise (· < ·)) (e : ∀ y, y ∈ k ↔ y ∈ l ∨ y ∈ m) : Good n as ts x k := by
  refine ⟨⟨rk, fun y hy => ?_⟩, (e x).mpr (.inl h.mem), fun y hy => ?_, fun y hy => ?_⟩
  · exact ((e y).mp hy).elim (h.lot.2 y) (g.lot.2 y)
  · rcases (e y).mp hy with z | z
    · exact up_mono (fun w hw => (e w).mpr (.inl hw)) (h.up y z)
    · exact up_mono (fun w hw => (e w).mpr (.inr hw)) (g.up y z)
  · rcases (e y).mp hy with z | z
    · exact tie_mono (fun w hw => (e w).mpr (.inl hw)) (h.tie y z)
    · exact tie_mono (fun w hw => (e w).mpr (.inr hw)) (g.tie y z)
/-- one step of leaving out -/
def StepG (as ts : List (Int × Int)) (x : Int) (l fo m : List Int) : Prop := (∀ y, y ∈ fo ↔ Reach (withinL (turnL as) l) x y) ∧ ∀ y, y ∈ m ↔ Reach (withinL (both ts) fo) x y
theorem wt_up {as : List (Int × Int)} {l : List Int} {a b : Int} : Reach (withinL (turnL as) l) a b ↔ Reach (upIn as l) a b := by
  constructor
  · exact reach_mono fun ⟨x, y⟩ hp => by
      rw [mem_withinL, mem_turnL] at hp
      rw [mem_upIn]
      exact ⟨hp.1, hp.2.2, hp.2.1⟩
  · exact reach_mono fun ⟨x, y⟩ hp => by
      rw [mem_withinL, mem_turnL]
      rw [mem_upIn] at hp
      exact ⟨hp.1, hp.2.2, hp.2.1⟩
theorem wb_tie {ts : List (Int × Int)} {l : List Int} {a b : Int} : Reach (withinL (both ts) l) a b ↔ Reach (tieIn ts l) a b := by
  constructor
  · exact reach_mono fun ⟨x, y⟩ hp => by
      rw [mem_withinL, mem_both] at hp
      rw [mem_tieIn]
      exact hp
  · exact reach_mono fun ⟨x, y⟩ hp => by
      rw [mem_withinL, mem_both]
      rw [mem_tieIn] at hp
      exact hp
section
variable {n : Nat} {as ts : List (Int × Int)} {x : Int} {l fo m : List Int}
theorem step_sub (h : StepG as ts x l fo m) (hx : x ∈ l) : (∀ y ∈ fo, y ∈ l) ∧ (∀ y ∈ m, y ∈ fo) ∧ x ∈ m :=
  ⟨fun y hy => up_in (wt_up.mp ((h.1 y).mp hy)) hx, fun y hy => tie_in (wb_tie.mp ((h.2 y).mp hy)) ((h.1 x).mpr .refl), (h.2 x).mpr .refl⟩
theorem step_keep (h : StepG as ts x l fo m) {k : List Int} (g : Good n as ts x k) (s : ∀ y ∈ k, y ∈ l) : ∀ y ∈ k, y ∈ m := by
  have s1 : ∀ y ∈ k, y ∈ fo := fun y hy => (h.1 y).mpr (wt_up.mpr (up_mono s (g.up y hy)))
  exact fun y hy => (h.2 y).mpr (wb_tie.mpr (tie_mono s1 (g.tie y hy)))
theorem step_fix (h : StepG as ts x l fo l) (lot : Lot n l) (hx : x ∈ l) : Good n as ts x l := by
  obtain ⟨s1, s2, _⟩ := step_sub h hx
  refine ⟨lot, hx, fun y hy => wt_up.mp ((h.1 y).mp (s2 y hy)), fun y hy => ?_⟩
  exact tie_mono s1 (wb_tie.mp ((h.2 y).mp hy))
end
/-- a lot that is barred -/
structure Bar (n : Nat) (as ts : List (Int × Int)) (l : List Int) : Prop where
  lot : Lot n l
  two : 1 < l.length
  hang : hangB ts l = true
  head : headsL as l ≠ []
theorem bar_good {n : Nat} {as ts : List (Int × Int)} {l : List Int} (h : Bar n as ts l) : ∃ x, Good n as ts x l := by
  cases e : headsL as l with
  | nil => exact absurd e h.head
  | cons x t =>
    have hx : x ∈ headsL as l := by rw [e]; exact List.mem_cons_self ..
    obtain ⟨h1, h2⟩ := List.mem_filter.mp hx
    exact ⟨x, h.lot, h1, headB_iff.mp h2, (hang_iff h1).mp h.hang⟩
theorem good_bar {n : Nat} {as ts : List (Int × Int)} {x : Int} {l : List Int} (h : Good n as ts x l) (two : 1 < l.length) : Bar n as ts l := by
  refine ⟨h.lot, two, (hang_iff h.mem).mpr h.tie, fun e => ?_⟩
  have : x ∈ headsL as l := List.mem_filter.mpr ⟨h.mem, headB_iff.mpr h.up⟩
  rw [e] at this
  cases this
/-- plain: all greatest lots are of one thing -/
def PlainP (n : Nat) (as ts : List (Int × Int)) : Prop := ∀ x ∈ things n, (gl n as ts x).length ≤ 1
noncomputable def plainB (n : Nat) (as ts : List (Int × Int)) : Bool := @decide (PlainP n as ts) (Classical.propDecidable _)
theorem plainB_iff {n : Nat} {as ts : List (Int × Int)} : plainB n as ts = true ↔ PlainP n as ts := by
  unfold plainB
  exact @decide_eq_true_iff _ (Classical.propDecidable _)
theorem plain_bars {n : Nat} {as ts : List (Int × Int)} : PlainP n as ts ↔ ∀ l, ¬ Bar n as ts l := by
  constructor
  · intro h l b
    obtain ⟨x, g⟩ := bar_good b
    have := nodup_le (lt_nd g.lot.1) (m := gl n as ts x) (good_sub g)
    have := h x (g.lot.2 x g.mem)
    have := b.two
    omega
  · intro h x hx
    refine Nat.not_lt.mp fun c => h _ (good_bar (gl_good hx) c)
end Tk

namespace Tk
/-! parts by ties -/
noncomputable def bR (ps : List (Int × Int)) (i y : Int) : Bool := @decide (Reach ps i y) (Classical.propDecidable _)
theorem bR_iff {ps : List (Int × Int)} {i y : Int} : bR ps i y = true ↔ Reach ps i y := by
  unfold bR
  exact @decide_eq_true_iff _ (Classical.propDecidable _)
noncomputable def cl (n : Nat) (ts : List (Int × Int)) (t : Int) : List Int := (things n).filter (bR (both ts) t)
theorem mem_cl {n : Nat} {ts : List (Int × Int)} {t y : Int} : y ∈ cl n ts t ↔ y ∈ things n ∧ Reach (both ts) t y := by
  unfold cl
  rw [List.mem_filter, bR_iff]
theorem cl_eq {n : Nat} {ts : List (Int × Int)} {t y : Int} (h : Reach (both ts) t y) : cl n ts t = cl n ts y := by
  refine List.filter_congr fun z _ => ?_
  have : Reach (both ts) t z ↔ Reach (both ts) y z := ⟨fun r => (both_sym h).trans r, fun r => h.trans r⟩
  rw [Bool.eq_iff_iff, bR_iff, bR_iff]
  exact this
noncomputable def isHd (n : Nat) (ts : List (Int × Int)) (t : Int) : Bool := decide ((cl n ts t).headD (-1) = t)
/-- the parts, told in the sequence of their least things -/
noncomputable def partsL (n : Nat) (ts : List (Int × Int)) : List (List Int) := ((things n).filter (isHd n ts)).map (cl n ts)
theorem hd_mem {l : List Int} (h : l ≠ []) : l.headD (-1) ∈ l := by
  cases l with
  | nil => exact absurd rfl h
  | cons x l => simp
theorem cl_self {n : Nat} {ts : List (Int × Int)} {x : Int} (hx : x ∈ things n) : x ∈ cl n ts x := mem_cl.mpr ⟨hx, .refl⟩
theorem cl_hd {n : Nat} {ts : List (Int × Int)} {x : Int} (hx : x ∈ things n) : (cl n ts x).headD (-1) ∈ things n ∧ cl n ts ((cl n ts x).headD (-1)) = cl n ts x := by
  have hne : cl n ts x ≠ [] := fun e => by have := cl_self (ts := ts) hx; rw [e] at this; exact nomatch this
  have hm := mem_cl.mp (hd_mem hne)
  exact ⟨hm.1, (cl_eq hm.2).symm⟩
/-- a list of ints that rises, with these members -/
theorem rise_cl {n : Nat} {ts : List (Int × Int)} {t : Int} {l : List Int} (h : l.Pairwise (· < ·)) (hm : ∀ y, y ∈ l ↔ y ∈ things n ∧ Reach (both ts) t y) : l = cl n ts t :=
  rise_eq h ((things_rise n).filter _) fun y => by rw [hm y]; exact mem_cl.symm
theorem both_congr {ts us : List (Int × Int)} (h : ∀ p, p ∈ ts ↔ p ∈ us) {a b : Int} : Reach (both ts) a b ↔ Reach (both us) a b :=
  ⟨fun r => r.sub fun p hp => by
    rcases mem_both.mp hp with c | c
    · exact mem_both.mpr (.inl ((h p).mp c))
    · exact mem_both.mpr (.inr ((h _).mp c)), fun r => r.sub fun p hp => by
    rcases mem_both.mp hp with c | c
    · exact mem_both.mpr (.inl ((h p).mpr c))
    · exact mem_both.mpr (.inr ((h _).mpr c))⟩
theorem partsL_congr {n : Nat} {ts us : List (Int × Int)} (h : ∀ p, p ∈ ts ↔ p ∈ us) : partsL n ts = partsL n us := by
  have e : cl n ts = cl n us := by
    funext t
    refine List.filter_congr fun z _ => ?_
    rw [Bool.eq_iff_iff, bR_iff, bR_iff]
    exact both_congr h
  unfold partsL isHd
  rw [e]
theorem parts_flat_mem {n : Nat} {ts : List (Int × Int)} {y : Int} : y ∈ (partsL n ts).flatten ↔ y ∈ things n := by
  rw [List.mem_flatten]
  constructor
  · rintro ⟨l, hl, hy⟩
    obtain ⟨t, _, rfl⟩ := List.mem_map.mp hl
    exact (mem_cl.mp hy).1
  · intro hy
    obtain ⟨a, b⟩ := cl_hd (ts := ts) hy
    refine ⟨cl n ts ((cl n ts y).headD (-1)), List.mem_map.mpr ⟨_, List.mem_filter.mpr ⟨a, ?_⟩, rfl⟩, ?_⟩
    · unfold isHd
      rw [decide_eq_true_eq, b]
    · rw [b]
      exact cl_self hy
theorem parts_flat_nodup {n : Nat} {ts : List (Int × Int)} : (partsL n ts).flatten.Nodup := by
  show List.Pairwise _ _
  rw [List.pairwise_flatten]
  constructor
  · intro l hl
    obtain ⟨t, _, rfl⟩ := List.mem_map.mp hl
    exact (things_nodup n).filter _
  · unfold partsL
    rw [List.pairwise_map]
    refine List.Pairwise.imp_of_mem (fun {a b} ha hb hne x hx y hy e => hne ?_) ((things_nodup n).filter _)
    subst e
    have e1 := cl_eq (n := n) (mem_cl.mp hx).2
    have e2 := cl_eq (n := n) (mem_cl.mp hy).2
    have h1 : (cl n ts a).headD (-1) = a := by simpa [isHd] using (List.mem_filter.mp ha).2
    have h2 : (cl n ts b).headD (-1) = b := by simpa [isHd] using (List.mem_filter.mp hb).2
    rw [← h1, ← h2, e1, e2]
end Tk

namespace Tk
/-! the order, exactly; all lists of all things -/
def ordGo (ps : List (Int × Int)) : Nat → List Int → List Int
  | 0, _ => []
  | k + 1, l => match freeL ps l with
    | [] => []
    | x :: _ => x :: ordGo ps k (l.erase x)
def ordL (n : Nat) (ps : List (Int × Int)) : List Int := ordGo ps n (things n)
theorem ordGo_stop {ps : List (Int × Int)} {l : List Int} (h : freeL ps l = []) : ∀ k, ordGo ps k l = []
  | 0 => rfl
  | k + 1 => by unfold ordGo; rw [h]
theorem ordGo_nil {ps : List (Int × Int)} (k : Nat) : ordGo ps k [] = [] := ordGo_stop rfl k
theorem ordGo_step {ps : List (Int × Int)} {l fr : List Int} {x : Int} (h : freeL ps l = x :: fr) : ordGo ps l.length l = x :: ordGo ps (l.erase x).length (l.erase x) := by
  have hx : x ∈ l := (mem_freeL.mp (by rw [h]; exact List.mem_cons_self ..)).1
  have e := List.length_erase_of_mem hx
  have hp : 0 < l.length := List.length_pos_of_mem hx
  obtain ⟨k, hk⟩ : ∃ k, l.length = k + 1 := ⟨l.length - 1, by omega⟩
  rw [hk, e, hk]
  show (match freeL ps l with | [] => [] | x :: _ => x :: ordGo ps k (l.erase x)) = _
  rw [h]; rfl
def ext (n : Nat) (o : List Int) : List (List Int) := ((things n).filter (fun x => !decide (x ∈ o))).map (fun x => o ++ [x])
def lsts (n : Nat) : Nat → List (List Int)
  | 0 => [[]]
  | k + 1 => (lsts n k).flatMap (ext n)
def ex (n : Nat) : Nat → List Int → List (List Int)
  | 0, o => [o]
  | k + 1, o => (ext n o).flatMap (ex n k)
theorem ex_snoc (n : Nat) : ∀ (k : Nat) (o : List Int), ex n (k + 1) o = (ex n k o).flatMap (ext n)
  | 0, o => by
    show (ext n o).flatMap (fun o => [o]) = [o].flatMap (ext n)
    simp
  | k + 1, o => by
    show (ext n o).flatMap (ex n (k + 1)) = ((ext n o).flatMap (ex n k)).flatMap (ext n)
    rw [List.flatMap_assoc]
    congr 1
    funext o'
    exact ex_snoc n k o'
theorem lsts_ex (n : Nat) : ∀ k : Nat, lsts n k = ex n k []
  | 0 => rfl
  | k + 1 => by
    rw [ex_snoc, ← lsts_ex n k]; rfl
def tOk (ps : List (Int × Int)) (o : List Int) : Bool := ps.all fun p => decide (o.idxOf p.1 < o.idxOf p.2)
theorem tOk_iff {ps : List (Int × Int)} {o : List Int} : tOk ps o = true ↔ ∀ p ∈ ps, o.idxOf p.1 < o.idxOf p.2 := by
  unfold tOk
  simp [List.all_eq_true]
theorem tOk_acy {ps : List (Int × Int)} {o : List Int} (h : tOk ps o = true) : Acy ps := ⟨fun x => o.idxOf x, tOk_iff.mp h⟩
theorem find_none {ps : List (Int × Int)} (h : ¬ Acy ps) (ls : List (List Int)) : ls.find? (tOk ps) = none := by
  rw [List.find?_eq_none]
  intro o _ c
  exact h (tOk_acy c)
theorem idx_at {o : List Int} {x : Int} (h : x ∈ o) : o[o.idxOf x]? = some x := by
  have hl := List.idxOf_lt_length_iff.mpr h
  rw [List.getElem?_eq_getElem hl, List.getElem_idxOf]
theorem topo_ok {n : Nat} {ps : List (Int × Int)} {o : List Int} (h : OInv n ps o []) (hr : ∀ p ∈ ps, p.1 ∈ things n ∧ p.2 ∈ things n) : tOk ps o = true := by
  refine tOk_iff.mpr fun p hp => ?_
  have mem : ∀ x, x ∈ things n → x ∈ o := fun x hx => by
    rcases (h.al x).mp hx with q | q
    · exact q
    · exact nomatch q
  exact h.at_ p hp _ _ (idx_at (mem _ (hr p hp).1)) (idx_at (mem _ (hr p hp).2))
theorem ex_pre {n : Nat} : ∀ {k : Nat} {o o' : List Int}, o' ∈ ex n k o → ∃ r, o' = o ++ r
  | 0, o, o', h => by
    have : o' = o := by simpa [ex] using h
    exact ⟨[], by simp [this]⟩
  | k + 1, o, o', h => by
    obtain ⟨o1, h1, h2⟩ := List.mem_flatMap.mp h
    obtain ⟨x, _, rfl⟩ := List.mem_map.mp h1
    obtain ⟨r, rfl⟩ := ex_pre h2
    exact ⟨[x] ++ r, by simp⟩
theorem erase_is {l : List Int} (hn : l.Nodup) (x : Int) : l.erase x = l.filter fun y => !decide (y = x) := by
  induction l with
  | nil => rfl
  | cons y l ih =>
    have hn' := List.nodup_cons.mp hn
    rw [List.erase_cons, List.filter_cons]
    by_cases e : y = x
    · subst e
      have e1 : (y == y) = true := by simp
      rw [if_pos e1]
      have e2 : (!decide (y = y)) = false := by simp
      rw [e2]
      simp only [Bool.false_eq_true, if_false]
      symm
      rw [List.filter_eq_self]
      intro a ha
      simp
      intro c
      subst c
      exact hn'.1 ha
    · have e1 : (y == x) = false := by simpa using e
      have e2 : (!decide (y = x)) = true := by simp [e]
      rw [e1, e2]
      simp only [Bool.false_eq_true, if_false, if_true]
      rw [ih hn'.2]
theorem find_some {n : Nat} {ps : List (Int × Int)} (ha : Acy ps) (hr : ∀ p ∈ ps, p.1 ∈ things n ∧ p.2 ∈ things n) : ∀ (k : Nat) (o l : List Int), OInv n ps o l → l.length = k → l = (things n).filter (fun x => !decide (x ∈ o)) →
    (ex n k o).find? (tOk ps) = some (o ++ ordGo ps k l) ∧ (ordGo ps k l).length = k
  | 0, o, l, inv, hl, _ => by
    have : l = [] := List.length_eq_zero_iff.mp hl
    subst this
    refine ⟨?_, rfl⟩
    show [o].find? (tOk ps) = some (o ++ [])
    rw [List.find?_cons, topo_ok inv hr, List.append_nil]
  | k + 1, o, l, inv, hl, hf => by
    have lne : l ≠ [] := by intro e; rw [e] at hl; cases hl
    obtain ⟨x, fr, hfr⟩ : ∃ x fr, freeL ps l = x :: fr := by
      cases e : freeL ps l with
      | nil => exact absurd e (freeL_ne ha lne)
      | cons x fr => exact ⟨x, fr, rfl⟩
    have hxf : x ∈ freeL ps l := by rw [hfr]; exact List.mem_cons_self ..
    have hx : x ∈ l := (mem_freeL.mp hxf).1
    have le := List.length_erase_of_mem hx
    have inv' := oinv_step inv (fun p hp => (hr p hp).1) hxf
    have hf' : l.erase x = (things n).filter (fun y => !decide (y ∈ o ++ [x])) := by
      rw [erase_is inv.nl, hf, List.filter_filter]
      refine List.filter_congr fun y _ => ?_
      simp only [List.mem_append, List.mem_singleton]
      by_cases c : y = x <;> by_cases d : y ∈ o <;> simp [c, d]
    obtain ⟨ih, ihl⟩ := find_some ha hr k (o ++ [x]) (l.erase x) inv' (by omega) hf'
    have eg : ordGo ps (k + 1) l = x :: ordGo ps k (l.erase x) := by
      have := ordGo_step hfr
      rw [hl, le, hl] at this
      exact this
    rw [eg]
    refine ⟨?_, by simp [ihl]⟩
    have hfr' := hfr
    unfold freeL at hfr'
    obtain ⟨l1, l2, e, h1, _, _⟩ := List.filter_eq_cons_iff.mp hfr'
    show ((ext n o).flatMap (ex n k)).find? (tOk ps) = _
    have ee : ext n o = l.map fun x => o ++ [x] := by
      unfold ext
      rw [← hf]
    rw [List.find?_flatMap, ee, e, List.map_append, List.findSome?_append, List.map_cons, List.findSome?_cons, ih]
    have none1 : (l1.map fun x => o ++ [x]).findSome? (fun o' => (ex n k o').find? (tOk ps)) = none := by
      rw [List.findSome?_eq_none_iff]
      intro o1 ho1
      obtain ⟨y, hy, rfl⟩ := List.mem_map.mp ho1
      have hyl : y ∈ l := by rw [e]; exact List.mem_append_left _ hy
      have hnf := h1 y hy
      have hpu : y ∈ pushedL ps l := by simpa using hnf
      obtain ⟨p, hpm, hs, ey⟩ := mem_pushedL.mp hpu
      rw [List.find?_eq_none]
      intro o2 ho2 c
      obtain ⟨r, rfl⟩ := ex_pre ho2
      have lt := tOk_iff.mp c p hpm
      rw [ey] at lt
      have n1 : p.1 ∉ o := fun q => inv.dj _ q hs
      have n2 : y ∉ o := fun q => inv.dj _ q hyl
      rw [List.append_assoc] at lt
      have e1 : List.idxOf p.1 (o ++ ([y] ++ r)) = List.idxOf p.1 ([y] ++ r) + o.length := by rw [List.idxOf_append, if_neg n1]
      have e2 : List.idxOf y (o ++ ([y] ++ r)) = List.idxOf y ([y] ++ r) + o.length := by rw [List.idxOf_append, if_neg n2]
      have z : List.idxOf y ([y] ++ r) = 0 := by simp
      rw [e1, e2, z] at lt
      omega
    rw [none1]
    simp
    rw [← e]
theorem go_end {n : Nat} {ps : List (Int × Int)} (hr : ∀ p ∈ ps, p.1 ∈ things n ∧ p.2 ∈ things n) : ∀ (k : Nat) (o l : List Int), OInv n ps o l → l.length = k → (ordGo ps k l).length = k → OInv n ps (o ++ ordGo ps k l) []
  | 0, o, l, inv, hl, _ => by
    have : l = [] := List.length_eq_zero_iff.mp hl
    subst this
    show OInv n ps (o ++ []) []
    rw [List.append_nil]; exact inv
  | k + 1, o, l, inv, hl, hg => by
    cases hfr : freeL ps l with
    | nil =>
      rw [ordGo_stop hfr] at hg
      cases hg
    | cons x fr =>
      have hxf : x ∈ freeL ps l := by rw [hfr]; exact List.mem_cons_self ..
      have hx : x ∈ l := (mem_freeL.mp hxf).1
      have le := List.length_erase_of_mem hx
      have eg : ordGo ps (k + 1) l = x :: ordGo ps k (l.erase x) := by
        have := ordGo_step hfr
        rw [hl, le, hl] at this
        exact this
      rw [eg] at hg ⊢
      have := go_end hr k (o ++ [x]) (l.erase x) (oinv_step inv (fun p hp => (hr p hp).1) hxf) (by omega) (by simpa using hg)
      rw [List.append_assoc] at this
      exact this
section
variable {n : Nat} {ps : List (Int × Int)} (hr : ∀ p ∈ ps, p.1 ∈ things n ∧ p.2 ∈ things n)
include hr
theorem full_acy : (ordL n ps).length = n ↔ Acy ps := by
  constructor
  · intro h
    have := go_end hr n [] (things n) (oinv_0 n ps) (things_len n) h
    exact tOk_acy (topo_ok this hr)
  · intro h
    exact (find_some h hr n [] (things n) (oinv_0 n ps) (things_len n) (List.filter_eq_self.mpr (by simp)).symm).2
theorem find_ord : (lsts n n).find? (tOk ps) = if (ordL n ps).length = n then some (ordL n ps) else none := by
  by_cases c : (ordL n ps).length = n
  · rw [if_pos c, lsts_ex, (find_some ((full_acy hr).mp c) hr n [] (things n) (oinv_0 n ps) (things_len n) (List.filter_eq_self.mpr (by simp)).symm).1]
    rfl
  · rw [if_neg c]
    exact find_none (fun h => c ((full_acy hr).mpr h)) _
end
theorem freeL_congr {ps qs : List (Int × Int)} (h : ∀ p, p ∈ ps ↔ p ∈ qs) (l : List Int) : freeL ps l = freeL qs l := by
  unfold freeL
  refine List.filter_congr fun x _ => ?_
  have : x ∈ pushedL ps l ↔ x ∈ pushedL qs l := by
    rw [mem_pushedL, mem_pushedL]
    constructor
    · rintro ⟨p, a, b⟩; exact ⟨p, (h p).mp a, b⟩
    · rintro ⟨p, a, b⟩; exact ⟨p, (h p).mpr a, b⟩
  by_cases c : x ∈ pushedL ps l
  · simp [c, this.mp c]
  · have d : x ∉ pushedL qs l := fun q => c (this.mpr q)
    simp [c, d]
theorem ordGo_congr {ps qs : List (Int × Int)} (h : ∀ p, p ∈ ps ↔ p ∈ qs) : ∀ (k : Nat) (l : List Int), ordGo ps k l = ordGo qs k l
  | 0, _ => rfl
  | k + 1, l => by
    unfold ordGo
    rw [freeL_congr h l]
    cases freeL qs l with
    | nil => rfl
    | cons x fr =>
      show x :: _ = x :: _
      rw [ordGo_congr h k]
theorem ordL_congr {n : Nat} {ps qs : List (Int × Int)} (h : ∀ p, p ∈ ps ↔ p ∈ qs) : ordL n ps = ordL n qs := ordGo_congr h n _
theorem ext_mem {n : Nat} {o o' : List Int} (h : o' ∈ ext n o) : ∃ x ∈ things n, x ∉ o ∧ o' = o ++ [x] := by
  obtain ⟨x, hx, rfl⟩ := List.mem_map.mp h
  obtain ⟨h1, h2⟩ := List.mem_filter.mp hx
  exact ⟨x, h1, by simpa using h2, rfl⟩
theorem lsts_mem {n : Nat} : ∀ {k : Nat} {o : List Int}, o ∈ lsts n k → o.Nodup ∧ (∀ x ∈ o, x ∈ things n) ∧ o.length = k
  | 0, o, h => by
    have : o = [] := by simpa [lsts] using h
    subst this
    exact ⟨List.nodup_nil, (fun _ h => nomatch h), rfl⟩
  | k + 1, o, h => by
    obtain ⟨o1, h1, h2⟩ := List.mem_flatMap.mp h
    obtain ⟨x, hx, nx, rfl⟩ := ext_mem h2
    obtain ⟨a, b, c⟩ := lsts_mem h1
    refine ⟨?_, ?_, by simp [c]⟩
    · rw [List.nodup_append]
      refine ⟨a, by simp, ?_⟩
      intro y hy z hz e
      simp at hz
      subst hz
      subst e
      exact nx hy
    · intro y hy
      rcases List.mem_append.mp hy with q | q
      · exact b y q
      · simp at q
        exact q ▸ hx
theorem lsts_all {n : Nat} {o : List Int} (h : o ∈ lsts n n) {x : Int} (hx : x ∈ things n) : x ∈ o := by
  obtain ⟨a, b, c⟩ := lsts_mem h
  by_cases d : x ∈ o
  · exact d
  · have := nodup_le (l := x :: o) (m := things n) (List.nodup_cons.mpr ⟨d, a⟩) (fun y hy => by
      rcases List.mem_cons.mp hy with q | q
      · exact q ▸ hx
      · exact b y q)
    rw [things_len, List.length_cons, c] at this
    omega
theorem flat_len {α β : Type} {f : α → List β} {m : Nat} : ∀ {l : List α}, (∀ x ∈ l, (f x).length ≤ m) → (l.flatMap f).length ≤ l.length * m
  | [], _ => by simp
  | x :: l, h => by
    have h1 := h x (List.mem_cons_self ..)
    have h2 := flat_len (l := l) fun y hy => h y (List.mem_cons_of_mem _ hy)
    rw [List.flatMap_cons, List.length_append, List.length_cons, Nat.succ_mul]
    omega
theorem ext_len {n : Nat} (o : List Int) : (ext n o).length ≤ n := by
  unfold ext
  rw [List.length_map]
  have := List.length_filter_le (fun x => !decide (x ∈ o)) (things n)
  rw [things_len] at this
  exact this
theorem lsts_len {n : Nat} : ∀ k : Nat, (lsts n k).length ≤ n ^ k
  | 0 => by simp [lsts]
  | k + 1 => by
    have h1 := flat_len (l := lsts n k) (f := ext n) (m := n) fun x _ => ext_len x
    have h2 := lsts_len k (n := n)
    have h3 := Nat.mul_le_mul_right n h2
    rw [Nat.pow_succ]
    exact Nat.le_trans h1 h3
theorem lsts_few {n k : Nat} (hn : n ≤ 5) (hk : k ≤ 5) : (lsts n k).length ≤ 3125 := by
  have h1 := lsts_len k (n := n)
  have h2 : n ^ k ≤ 5 ^ k := Nat.pow_le_pow_left hn k
  have h3 : 5 ^ k ≤ 5 ^ 5 := Nat.pow_le_pow_right (by decide) hk
  have h4 : (5 : Nat) ^ 5 = 3125 := by decide
  omega
end Tk

/-! plain mathematics: one arrow or tie more -/
namespace Tk
theorem acy_put {as : List (Int × Int)} {i j : Int} (ac : Acy as) : Acy (as ++ [(i, j)]) ↔ ¬ Reach as j i := by
  constructor
  · rintro ⟨r, hr⟩ h
    have le : ∀ {a b : Int}, Reach as a b → r a ≤ r b := by
      intro a b h
      induction h with
      | refl => exact Nat.le_refl _
      | tail _ hp ih => exact Nat.le_trans ih (Nat.le_of_lt (hr _ (List.mem_append_left _ hp)))
    have := le h
    have h2 : r i < r j := hr (i, j) (by simp)
    omega
  · intro no
    obtain ⟨r, hr⟩ := ac
    refine ⟨fun x => r x + if @decide (Reach as j x) (Classical.propDecidable _) = true then r i + 1 else 0, fun p hp => ?_⟩
    show r p.1 + _ < r p.2 + _
    rcases List.mem_append.mp hp with h | h
    · have lt := hr p h
      by_cases c : Reach as j p.1
      · have c2 : Reach as j p.2 := .tail c (by obtain ⟨a, b⟩ := p; exact h)
        rw [if_pos (@decide_eq_true _ (Classical.propDecidable _) c), if_pos (@decide_eq_true _ (Classical.propDecidable _) c2)]
        omega
      · rw [if_neg (fun z => c (@of_decide_eq_true _ (Classical.propDecidable _) z))]
        omega
    · rw [List.mem_singleton.mp h]
      show r i + _ < r j + _
      rw [if_neg (fun z => no (@of_decide_eq_true _ (Classical.propDecidable _) z)), if_pos (@decide_eq_true _ (Classical.propDecidable _) .refl)]
      omega
def rowT (n i : Nat) : List (Int × Int) := (List.range (n - (i + 1))).map fun j => ((i : Int), ((i + 1 + j : Nat) : Int))
def rowsT (n k : Nat) : List (Int × Int) := (List.range k).flatMap (rowT n)
theorem rowsT_succ (n k : Nat) : rowsT n (k + 1) = rowsT n k ++ rowT n k := by
  unfold rowsT
  rw [List.range_succ, List.flatMap_append]
  simp
theorem mem_rowsT {n : Nat} {x y : Int} : (x, y) ∈ rowsT n n ↔ 0 ≤ x ∧ x < y ∧ y < n := by
  unfold rowsT rowT
  simp only [List.mem_flatMap, List.mem_range, List.mem_map, Prod.mk.injEq]
  constructor
  · rintro ⟨i, hi, j, hj, rfl, rfl⟩
    omega
  · rintro ⟨h1, h2, h3⟩
    exact ⟨x.toNat, by omega, (y - x - 1).toNat, by omega, by omega, by omega⟩
theorem rowsT_few {n k : Nat} (h : n ≤ 6) (hk : k ≤ 6) : (rowsT n k).length ≤ 36 := by
  have h1 : n = 0 ∨ n = 1 ∨ n = 2 ∨ n = 3 ∨ n = 4 ∨ n = 5 ∨ n = 6 := by omega
  have h2 : k = 0 ∨ k = 1 ∨ k = 2 ∨ k = 3 ∨ k = 4 ∨ k = 5 ∨ k = 6 := by omega
  rcases h1 with rfl | rfl | rfl | rfl | rfl | rfl | rfl <;> rcases h2 with rfl | rfl | rfl | rfl | rfl | rfl | rfl <;> decide
theorem rowsT_nd {n : Nat} (h : n ≤ 6) : (rowsT n n).Nodup := by
  have h1 : n = 0 ∨ n = 1 ∨ n = 2 ∨ n = 3 ∨ n = 4 ∨ n = 5 ∨ n = 6 := by omega
  rcases h1 with rfl | rfl | rfl | rfl | rfl | rfl | rfl <;> decide +kernel
end Tk

namespace Tk
/-! more arrows and ties; bars and the parts by ties -/
section
variable {n : Nat} {as as' ts ts' : List (Int × Int)}
theorem up_sub {l : List Int} (s : ∀ p ∈ as, p ∈ as') {a b : Int} (h : Reach (upIn as l) a b) : Reach (upIn as' l) a b :=
  reach_mono (fun ⟨x, y⟩ hp => by rw [mem_upIn] at hp ⊢; exact ⟨s _ hp.1, hp.2⟩) h
theorem tie_sub {l : List Int} (s : ∀ p ∈ ts, p ∈ ts') {a b : Int} (h : Reach (tieIn ts l) a b) : Reach (tieIn ts' l) a b :=
  reach_mono (fun ⟨x, y⟩ hp => by rw [mem_tieIn] at hp ⊢; exact ⟨hp.1.elim (fun z => .inl (s _ z)) (fun z => .inr (s _ z)), hp.2⟩) h
theorem good_more {x : Int} {l : List Int} (sa : ∀ p ∈ as, p ∈ as') (st : ∀ p ∈ ts, p ∈ ts') (g : Good n as ts x l) : Good n as' ts' x l :=
  ⟨g.lot, g.mem, fun y hy => up_sub sa (g.up y hy), fun y hy => tie_sub st (g.tie y hy)⟩
theorem bar_more {l : List Int} (sa : ∀ p ∈ as, p ∈ as') (st : ∀ p ∈ ts, p ∈ ts') (b : Bar n as ts l) : Bar n as' ts' l := by
  obtain ⟨x, g⟩ := bar_good b
  exact good_bar (good_more sa st g) b.two
theorem plain_more (sa : ∀ p ∈ as, p ∈ as') (st : ∀ p ∈ ts, p ∈ ts') (h : PlainP n as' ts') : PlainP n as ts := by
  rw [plain_bars] at h ⊢
  exact fun l b => h l (bar_more sa st b)
theorem gl_more {x : Int} (sa : ∀ p ∈ as, p ∈ as') (st : ∀ p ∈ ts, p ∈ ts') : ∀ y ∈ gl n as ts x, y ∈ gl n as' ts' x := fun y hy => by
  obtain ⟨l, g, hl⟩ := mem_gl.mp hy
  exact mem_gl.mpr ⟨l, good_more sa st g, hl⟩
end
section
variable {n : Nat} {as ts : List (Int × Int)}
theorem tie_both {l : List Int} {a b : Int} (h : Reach (tieIn ts l) a b) : Reach (both ts) a b :=
  reach_mono (fun ⟨x, y⟩ hp => by rw [mem_tieIn] at hp; rw [mem_both]; exact hp.1) h
theorem one_in : ∀ {L : List (List Int)} {x : Int}, L.flatten.Nodup → x ∈ L.flatten → (L.filter fun p => decide (x ∈ p)).length = 1
  | [], x, _, h => by simp at h
  | p :: L, x, nd, h => by
    rw [List.flatten_cons] at nd h
    obtain ⟨n1, n2, n3⟩ := List.nodup_append.mp nd
    by_cases c : x ∈ p
    · rw [List.filter_cons_of_pos (by simp [c])]
      have : (L.filter fun p => decide (x ∈ p)) = [] := by
        rw [List.filter_eq_nil_iff]
        intro q hq e
        have e' : x ∈ q := by simpa using e
        exact n3 x c x (List.mem_flatten.mpr ⟨q, hq, e'⟩) rfl
      rw [this]; rfl
    · rw [List.filter_cons_of_neg (by simp [c])]
      exact one_in n2 ((List.mem_append.mp h).resolve_left c)
theorem part_closed {p : List Int} (hp : p ∈ partsL n ts) {x y : Int} (hx : x ∈ p) (hy : y ∈ things n) (r : Reach (both ts) x y) : y ∈ p := by
  obtain ⟨t, _, rfl⟩ := List.mem_map.mp hp
  exact mem_cl.mpr ⟨hy, (mem_cl.mp hx).2.trans r⟩
def insB (l m : List Int) : Bool := l.all fun z => decide (z ∈ m)
theorem insB_iff {l m : List Int} : insB l m = true ↔ ∀ z ∈ l, z ∈ m := by
  unfold insB
  rw [List.all_eq_true]
  simp
theorem bar_parts {l : List Int} (b : Bar n as ts l) : ((partsL n ts).filter fun p => insB l p).length = 1 := by
  obtain ⟨x, g⟩ := bar_good b
  have e : ((partsL n ts).filter fun p => insB l p) = (partsL n ts).filter fun p => decide (x ∈ p) := by
    refine List.filter_congr fun p hp => ?_
    rw [Bool.eq_iff_iff, insB_iff, decide_eq_true_eq]
    exact ⟨fun h => h x g.mem, fun h y hy => part_closed hp h (g.lot.2 y hy) (tie_both (g.tie y hy))⟩
  rw [e]
  exact one_in parts_flat_nodup (parts_flat_mem.mpr (g.lot.2 x g.mem))
/-- the ties that begin in a part -/
def tiesOf (ts : List (Int × Int)) (p : List Int) : List (Int × Int) := ts.filter fun t => decide (t.1 ∈ p)
theorem mem_tiesOf {p : List Int} {q : Int × Int} : q ∈ tiesOf ts p ↔ q ∈ ts ∧ q.1 ∈ p := by
  unfold tiesOf
  rw [List.mem_filter]
  simp
theorem bar_part {p l : List Int} (pt : ∀ q ∈ ts, q.1 ∈ things n ∧ q.2 ∈ things n) (hp : p ∈ partsL n ts) : Bar n as (tiesOf ts p) l ↔ Bar n as ts l ∧ ∀ z ∈ l, z ∈ p := by
  constructor
  · intro b
    have sub : ∀ q ∈ tiesOf ts p, q ∈ ts := fun q hq => (mem_tiesOf.mp hq).1
    refine ⟨bar_more (fun _ h => h) sub b, ?_⟩
    obtain ⟨x, g⟩ := bar_good b
    -- some other thing of the lot is next to x
    have key : ∀ {a b : Int}, Reach (tieIn (tiesOf ts p) l) a b → a ≠ b → b ∈ p := by
      intro a b h ne
      cases h with
      | refl => exact absurd rfl ne
      | @tail c d _ hq =>
        obtain ⟨h1, _, _⟩ := mem_tieIn.mp hq
        rcases h1 with z | z
        · obtain ⟨z1, z2⟩ := mem_tiesOf.mp z
          exact part_closed hp z2 (pt _ z1).2 (.tail .refl (mem_both.mpr (.inl z1)))
        · exact (mem_tiesOf.mp z).2
    obtain ⟨y, hy, ne⟩ : ∃ y ∈ l, x ≠ y := by
      refine Classical.byContradiction fun no => ?_
      have : ∀ y ∈ l, x = y := fun y hy => Classical.byContradiction fun ne => no ⟨y, hy, ne⟩
      have h1 := nodup_le (lt_nd g.lot.1) (m := [x]) fun y hy => by rw [this y hy]; simp
      have := b.two
      simp at h1
      omega
    have yp := key (g.tie y hy) ne
    have xp : x ∈ p := part_closed hp yp (g.lot.2 x g.mem) (tie_both (tie_sym (tie_sub sub (g.tie y hy))))
    exact fun z hz => part_closed hp xp (g.lot.2 z hz) (tie_both (tie_sub sub (g.tie z hz)))
  · rintro ⟨b, s⟩
    obtain ⟨x, g⟩ := bar_good b
    refine good_bar ⟨g.lot, g.mem, g.up, fun y hy => ?_⟩ b.two
    refine reach_mono (fun ⟨u, v⟩ hq => ?_) (g.tie y hy)
    obtain ⟨h1, h2, h3⟩ := mem_tieIn.mp hq
    refine mem_tieIn.mpr ⟨?_, h2, h3⟩
    rcases h1 with z | z
    · exact .inl (mem_tiesOf.mpr ⟨z, s _ h2⟩)
    · exact .inr (mem_tiesOf.mpr ⟨z, s _ h3⟩)
end
/-- nothing later in the order leads to what is earlier -/
theorem topo_le {n : Nat} {as : List (Int × Int)} {o : List Int} (h : Topo n as o) (th : ∀ p ∈ as, p.1 ∈ things n ∧ p.2 ∈ things n) {a b : Int} (r : Reach as a b) : ∀ {i j : Nat}, o[i]? = some a → o[j]? = some b → i ≤ j := by
  induction r with
  | refl =>
    intro i j hi hj
    have hil := (List.getElem?_eq_some_iff.mp hi).1
    have := (List.getElem?_inj hil h.nd).mp (hi.trans hj.symm)
    omega
  | @tail c d _ hp ih =>
    intro i j hi hj
    have hc : c ∈ o := (h.mem c).mpr (th _ hp).1
    obtain ⟨k, hk⟩ := List.getElem?_of_mem hc
    have h1 := ih hi hk
    have h2 := h.at_ _ hp k j hk hj
    omega
theorem topo_put {n : Nat} {as : List (Int × Int)} {o : List Int} (h : Topo n as o) (ac : Acy as) (th : ∀ p ∈ as, p.1 ∈ things n ∧ p.2 ∈ things n) {i j : Nat} {a b : Int} (hi : o[i]? = some a) (hj : o[j]? = some b) (lt : i < j) : Acy (as ++ [(a, b)]) :=
  (acy_put ac).mpr fun r => by
    have := topo_le h th r hj hi
    omega
end Tk

namespace Tk
/-- places told so far: before (i, j) -/
structure Sn (n i j : Nat) (ix : List (Nat × Nat)) : Prop where
  nd : ix.Nodup
  bd : ∀ q ∈ ix, q.1 < q.2 ∧ q.2 < n ∧ (q.1 < i ∨ (q.1 = i ∧ q.2 < j))
theorem sn_0 (n i j : Nat) : Sn n i j [] := ⟨List.nodup_nil, (fun _ h => nomatch h)⟩
theorem sn_up {n i j i' j' : Nat} {ix : List (Nat × Nat)} (h : Sn n i j ix) (hh : i < i' ∨ (i = i' ∧ j ≤ j')) : Sn n i' j' ix :=
  ⟨h.nd, fun q hq => by
    obtain ⟨a, b, c⟩ := h.bd q hq
    refine ⟨a, b, ?_⟩
    rcases c with c | ⟨c1, c2⟩ <;> rcases hh with d | ⟨d1, d2⟩
    · left; omega
    · left; omega
    · left; omega
    · right; omega⟩
theorem sn_end {n i j : Nat} {ix : List (Nat × Nat)} (h : Sn n i j ix) (hj : n ≤ j) : Sn n (i + 1) 0 ix :=
  ⟨h.nd, fun q hq => by
    obtain ⟨a, b, c⟩ := h.bd q hq
    exact ⟨a, b, by left; omega⟩⟩
theorem sn_put {n i j : Nat} {ix : List (Nat × Nat)} (h : Sn n i j ix) (hij : i < j) (hj : j < n) : Sn n i (j + 1) (ix ++ [(i, j)]) := by
  refine ⟨?_, ?_⟩
  · rw [List.nodup_append]
    refine ⟨h.nd, by simp, ?_⟩
    intro a ha b hb e
    simp at hb
    subst hb
    subst e
    have := (h.bd _ ha).2.2
    simp at this
  · intro q hq
    rcases List.mem_append.mp hq with c | c
    · obtain ⟨a, b, d⟩ := h.bd q c
      exact ⟨a, b, by omega⟩
    · simp at c
      subst c
      exact ⟨hij, hj, by right; exact ⟨rfl, by simp⟩⟩
theorem sn_few {n i j : Nat} {ix : List (Nat × Nat)} (h : Sn n i j ix) (hn : n ≤ 6) : ix.length ≤ 36 := by
  have sub : ∀ q ∈ ix, q ∈ (List.range 6).flatMap fun a => (List.range 6).map fun b => (a, b) := fun q hq => by
    obtain ⟨a, b, _⟩ := h.bd q hq
    simp only [List.mem_flatMap, List.mem_map, List.mem_range]
    exact ⟨q.1, by omega, q.2, by omega, rfl⟩
  have := nodup_le h.nd sub
  have e : ((List.range 6).flatMap fun a => (List.range 6).map fun b => (a, b)).length = 36 := by decide
  omega
/-- the item at a place -/
def it (o : List Int) (i : Nat) : Int := o.getD i 0
def prA (o : List Int) (q : Nat × Nat) : Int × Int := (it o q.1, it o q.2)
def prT (o : List Int) (q : Nat × Nat) : Int × Int := (if it o q.2 < it o q.1 then it o q.2 else it o q.1, if it o q.2 > it o q.1 then it o q.2 else it o q.1)
theorem it_some {o : List Int} {i : Nat} (h : i < o.length) : o[i]? = some (it o i) := by
  unfold it
  rw [List.getD_eq_getElem?_getD, List.getElem?_eq_getElem h]; rfl
theorem it_mem {o : List Int} {i : Nat} (h : i < o.length) : it o i ∈ o := List.mem_of_getElem? (it_some h)
theorem it_inj {o : List Int} (hn : o.Nodup) {i j : Nat} (hi : i < o.length) (hj : j < o.length) (e : it o i = it o j) : i = j := by
  have h1 := it_some hi
  have h2 := it_some hj
  rw [e] at h1
  obtain ⟨_, a⟩ := List.getElem?_eq_some_iff.mp h1
  obtain ⟨_, b⟩ := List.getElem?_eq_some_iff.mp h2
  exact (List.getElem_inj hn).mp (a.trans b.symm)
def PrsN (n : Nat) (ps : List (Int × Int)) : Prop := ps.Nodup ∧ ps.length < 60 ∧ ∀ p ∈ ps, 0 ≤ p.1 ∧ p.1 < (n : Int) ∧ 0 ≤ p.2 ∧ p.2 < (n : Int) ∧ p.1 ≠ p.2
section
variable {n i j : Nat} {o : List Int} {ix : List (Nat × Nat)}
theorem prs_a (ho : o.Perm (things n)) (h : Sn n i j ix) (hn : n ≤ 6) : PrsN n (ix.map (prA o)) := by
  have nd : o.Nodup := ho.nodup_iff.mpr (things_nodup n)
  have ln : o.length = n := by rw [ho.length_eq, things_len]
  refine ⟨?_, by rw [List.length_map]; have := sn_few h hn; omega, ?_⟩
  · show List.Pairwise _ _
    rw [List.pairwise_map]
    refine List.Pairwise.imp_of_mem (fun {a b} ha hb hne e => hne ?_) h.nd
    obtain ⟨a1, a2, _⟩ := h.bd a ha
    obtain ⟨b1, b2, _⟩ := h.bd b hb
    have e1 := congrArg Prod.fst e
    have e2 := congrArg Prod.snd e
    exact Prod.ext (it_inj nd (by omega) (by omega) e1) (it_inj nd (by omega) (by omega) e2)
  · intro p hp
    obtain ⟨q, hq, rfl⟩ := List.mem_map.mp hp
    obtain ⟨q1, q2, _⟩ := h.bd q hq
    have m1 := mem_things.mp (ho.mem_iff.mp (it_mem (o := o) (i := q.1) (by omega)))
    have m2 := mem_things.mp (ho.mem_iff.mp (it_mem (o := o) (i := q.2) (by omega)))
    refine ⟨m1.1, m1.2, m2.1, m2.2, fun e => ?_⟩
    have := it_inj nd (by omega) (by omega) e
    omega
theorem acy_a (ho : o.Perm (things n)) (h : Sn n i j ix) : Acy (ix.map (prA o)) := by
  have nd : o.Nodup := ho.nodup_iff.mpr (things_nodup n)
  have ln : o.length = n := by rw [ho.length_eq, things_len]
  refine ⟨fun x => o.idxOf x, fun p hp => ?_⟩
  obtain ⟨q, hq, rfl⟩ := List.mem_map.mp hp
  obtain ⟨q1, q2, _⟩ := h.bd q hq
  have key : ∀ k, k < o.length → o.idxOf (it o k) = k := fun k hk => by
    have h1 : o.idxOf (it o k) < o.length := List.idxOf_lt_length_of_mem (it_mem hk)
    have h2 := List.getElem_idxOf h1
    have h3 := it_some hk
    obtain ⟨_, h4⟩ := List.getElem?_eq_some_iff.mp h3
    exact (List.getElem_inj nd).mp (h2.trans h4.symm)
  show o.idxOf (it o q.1) < o.idxOf (it o q.2)
  rw [key _ (by omega), key _ (by omega)]
  exact q1
theorem prs_t (ho : o.Perm (things n)) (h : Sn n i j ix) (hn : n ≤ 6) : PrsN n (ix.map (prT o)) ∧ ∀ p ∈ ix.map (prT o), p.1 < p.2 := by
  have nd : o.Nodup := ho.nodup_iff.mpr (things_nodup n)
  have ln : o.length = n := by rw [ho.length_eq, things_len]
  have lt : ∀ p ∈ ix.map (prT o), p.1 < p.2 := by
    intro p hp
    obtain ⟨q, hq, rfl⟩ := List.mem_map.mp hp
    obtain ⟨q1, q2, _⟩ := h.bd q hq
    have ne : it o q.1 ≠ it o q.2 := fun e => by
      have := it_inj nd (by omega) (by omega) e
      omega
    unfold prT
    split <;> split <;> simp <;> omega
  refine ⟨⟨?_, by rw [List.length_map]; have := sn_few h hn; omega, ?_⟩, lt⟩
  · show List.Pairwise _ _
    rw [List.pairwise_map]
    refine List.Pairwise.imp_of_mem (fun {a b} ha hb hne e => hne ?_) h.nd
    obtain ⟨a1, a2, _⟩ := h.bd a ha
    obtain ⟨b1, b2, _⟩ := h.bd b hb
    have e1 : (prT o a).1 = (prT o b).1 := congrArg Prod.fst e
    have e2 : (prT o a).2 = (prT o b).2 := congrArg Prod.snd e
    have both : (it o a.1 = it o b.1 ∧ it o a.2 = it o b.2) ∨ (it o a.1 = it o b.2 ∧ it o a.2 = it o b.1) := by
      simp only [prT] at e1 e2
      split at e1 <;> split at e1 <;> split at e2 <;> split at e2 <;> omega
    rcases both with ⟨c, d⟩ | ⟨c, d⟩
    · exact Prod.ext (it_inj nd (by omega) (by omega) c) (it_inj nd (by omega) (by omega) d)
    · have c' := it_inj nd (by omega) (by omega) c
      have d' := it_inj nd (by omega) (by omega) d
      omega
  · intro p hp
    have l := lt p hp
    obtain ⟨q, hq, rfl⟩ := List.mem_map.mp hp
    obtain ⟨q1, q2, _⟩ := h.bd q hq
    have m1 := mem_things.mp (ho.mem_iff.mp (it_mem (o := o) (i := q.1) (by omega)))
    have m2 := mem_things.mp (ho.mem_iff.mp (it_mem (o := o) (i := q.2) (by omega)))
    have r : 0 ≤ (prT o q).1 ∧ (prT o q).1 < (n : Int) ∧ 0 ≤ (prT o q).2 ∧ (prT o q).2 < (n : Int) := by
      simp only [prT]
      split <;> split <;> omega
    exact ⟨r.1, r.2.1, r.2.2.1, r.2.2.2, by omega⟩
end
end Tk

namespace Tk
/-! built lots: each thing but the last has one arrow to a later one, the ties make a tree -/
def mnx (a b : Int) : Int × Int := (if b < a then b else a, if b > a then b else a)
theorem mnx_lt {a b : Int} (h : a ≠ b) : (mnx a b).1 < (mnx a b).2 := by
  unfold mnx
  by_cases c : b < a
  · simp only [if_pos c, if_neg (show ¬ b > a by omega)]; exact c
  · simp only [if_neg c, if_pos (show b > a by omega)]; omega
theorem mnx_mem {a b : Int} (h : a ≠ b) : mnx a b = (a, b) ∨ mnx a b = (b, a) := by
  unfold mnx
  by_cases c : b < a
  · right; simp only [if_pos c, if_neg (show ¬ b > a by omega)]
  · left; simp only [if_neg c, if_pos (show b > a by omega)]
/-- the arrows -/
def Fwd (o : List Int) (as : List (Int × Int)) (k : Nat) : Prop := as.length = k ∧ ∀ i, i < k → ∃ j, i < j ∧ j < o.length ∧ as[i]? = some (it o i, it o j)
theorem fwd_0 (o : List Int) : Fwd o [] 0 := ⟨rfl, fun _ h => absurd h (by omega)⟩
theorem fwd_put {o : List Int} {as : List (Int × Int)} {k j : Nat} (h : Fwd o as k) (l : k < j) (hj : j < o.length) : Fwd o (as ++ [(it o k, it o j)]) (k + 1) := by
  refine ⟨by simp [h.1], fun i hi => ?_⟩
  by_cases c : i < k
  · obtain ⟨j', a, b, d⟩ := h.2 i c
    exact ⟨j', a, b, by rw [List.getElem?_append_left (by rw [h.1]; exact c)]; exact d⟩
  · have e : i = k := by omega
    subst e
    refine ⟨j, l, hj, ?_⟩
    rw [List.getElem?_append_right (by rw [h.1]; omega), h.1]
    simp
theorem fwd_mem {o : List Int} {as : List (Int × Int)} {k : Nat} (h : Fwd o as k) {p : Int × Int} (hp : p ∈ as) : ∃ i j, i < k ∧ i < j ∧ j < o.length ∧ p = (it o i, it o j) := by
  obtain ⟨i, hi⟩ := List.getElem?_of_mem hp
  have il := (List.getElem?_eq_some_iff.mp hi).1
  rw [h.1] at il
  obtain ⟨j, a, b, d⟩ := h.2 i il
  rw [hi] at d
  exact ⟨i, j, il, a, b, Option.some.inj d⟩
/-- the last one is reached by all -/
theorem fwd_head {o lot : List Int} {as : List (Int × Int)} (h : Fwd o as (o.length - 1)) (hl : ∀ x, x ∈ lot ↔ x ∈ o) (pos : 0 < o.length) : ∀ k i, i + k + 1 = o.length → Reach (upIn as lot) (it o (o.length - 1)) (it o i) := by
  intro k
  induction k using Nat.strongRecOn with
  | ind k ih =>
    intro i hi
    by_cases c : k = 0
    · have : i = o.length - 1 := by omega
      rw [this]; exact .refl
    · obtain ⟨j, l, hj, e⟩ := h.2 i (by omega)
      have r := ih (o.length - 1 - j) (by omega) j (by omega)
      refine .tail r (mem_upIn.mpr ⟨List.mem_of_getElem? e, (hl _).mpr (it_mem (by omega)), (hl _).mpr (it_mem hj)⟩)
/-- the ties: a tree on e -/
def Tre (e : List Int) (ts : List (Int × Int)) (k : Nat) : Prop := ts.length = k ∧ ∀ i, i < k → i + 1 < e.length ∧ ∃ j, j ≤ i ∧ ts[i]? = some (mnx (it e (i + 1)) (it e j))
theorem tre_0 (e : List Int) : Tre e [] 0 := ⟨rfl, fun _ h => absurd h (by omega)⟩
theorem tre_put {e : List Int} {ts : List (Int × Int)} {k j : Nat} (h : Tre e ts k) (l : j ≤ k) (hk : k + 1 < e.length) : Tre e (ts ++ [mnx (it e (k + 1)) (it e j)]) (k + 1) := by
  refine ⟨by simp [h.1], fun i hi => ?_⟩
  by_cases c : i < k
  · obtain ⟨a, j', b, d⟩ := h.2 i c
    exact ⟨a, j', b, by rw [List.getElem?_append_left (by rw [h.1]; exact c)]; exact d⟩
  · have e' : i = k := by omega
    subst e'
    refine ⟨hk, j, l, ?_⟩
    rw [List.getElem?_append_right (by rw [h.1]; omega), h.1]
    simp
theorem tre_mem {e : List Int} {ts : List (Int × Int)} {k : Nat} (h : Tre e ts k) {p : Int × Int} (hp : p ∈ ts) : ∃ i j, i < k ∧ i + 1 < e.length ∧ j ≤ i ∧ ts[i]? = some p ∧ p = mnx (it e (i + 1)) (it e j) := by
  obtain ⟨i, hi⟩ := List.getElem?_of_mem hp
  have il := (List.getElem?_eq_some_iff.mp hi).1
  rw [h.1] at il
  obtain ⟨a, j, b, d⟩ := h.2 i il
  exact ⟨i, j, il, a, b, hi, by rw [hi] at d; exact Option.some.inj d⟩
theorem tre_ne {e : List Int} (nd : e.Nodup) {i j : Nat} (hi : i + 1 < e.length) (hj : j ≤ i) : it e (i + 1) ≠ it e j := fun z => by
  have := it_inj nd hi (by omega) z
  omega
theorem tre_hang {e lot : List Int} {ts : List (Int × Int)} (nd : e.Nodup) (h : Tre e ts (e.length - 1)) (hl : ∀ x, x ∈ lot ↔ x ∈ e) : ∀ k, k < e.length → Reach (tieIn ts lot) (it e 0) (it e k) := by
  intro k
  induction k using Nat.strongRecOn with
  | ind k ih =>
    intro hk
    cases k with
    | zero => exact .refl
    | succ i =>
      obtain ⟨a, j, b, d⟩ := h.2 i (by omega)
      have r := ih j (by omega) (by omega)
      have hm := List.mem_of_getElem? d
      refine .tail r (mem_tieIn.mpr ⟨?_, (hl _).mpr (it_mem (by omega)), (hl _).mpr (it_mem a)⟩)
      rcases mnx_mem (tre_ne nd a b) with z | z
      · rw [z] at hm; exact .inr hm
      · rw [z] at hm; exact .inl hm
/-- less one tie, two colours -/
theorem tre_cut {e : List Int} {ts : List (Int × Int)} {k : Nat} (h : Tre e ts k) (i0 : Nat) : ∀ m, m ≤ k → ∃ c : Nat → Bool, c 0 = false ∧ (i0 < m → c (i0 + 1) = true) ∧ ∀ i, i < m → i ≠ i0 → ∃ j, j ≤ i ∧ ts[i]? = some (mnx (it e (i + 1)) (it e j)) ∧ c (i + 1) = c j := by
  intro m
  induction m with
  | zero => exact fun _ => ⟨fun _ => false, rfl, fun z => absurd z (by omega), fun i hi => absurd hi (by omega)⟩
  | succ m ih =>
    intro hm
    obtain ⟨c, c0, c1, c2⟩ := ih (by omega)
    obtain ⟨_, j, hj, ej⟩ := h.2 m (by omega)
    refine ⟨fun x => if x = m + 1 then (if m = i0 then true else c j) else c x, ?_, ?_, ?_⟩
    · show (if 0 = m + 1 then _ else c 0) = false
      rw [if_neg (by omega)]; exact c0
    · intro l
      show (if i0 + 1 = m + 1 then (if m = i0 then true else c j) else c (i0 + 1)) = true
      by_cases z : i0 = m
      · rw [if_pos (by omega), if_pos z.symm]
      · rw [if_neg (by omega)]; exact c1 (by omega)
    · intro i hi ne
      by_cases z : i = m
      · subst z
        refine ⟨j, hj, ej, ?_⟩
        show (if i + 1 = i + 1 then (if i = i0 then true else c j) else c (i + 1)) = (if j = i + 1 then (if i = i0 then true else c j) else c j)
        rw [if_pos rfl, if_neg ne, if_neg (by omega)]
      · obtain ⟨j', a, b, d⟩ := c2 i (by omega) ne
        refine ⟨j', a, b, ?_⟩
        show (if i + 1 = m + 1 then (if m = i0 then true else c j) else c (i + 1)) = (if j' = m + 1 then (if m = i0 then true else c j) else c j')
        rw [if_neg (by omega), if_neg (by omega)]
        exact d
theorem idx_it {e : List Int} (nd : e.Nodup) {i : Nat} (h : i < e.length) : e.idxOf (it e i) = i := by
  have hm := it_mem h
  have h1 := List.idxOf_lt_length_of_mem hm
  have h2 : it e (e.idxOf (it e i)) = it e i := by
    have a := it_some h1
    have b : e[e.idxOf (it e i)]? = some (it e i) := by
      rw [List.getElem?_eq_getElem h1, List.getElem_idxOf h1]
    rw [a] at b
    exact Option.some.inj b
  exact it_inj nd h1 h h2
/-- less one tie, the lot does not hang together -/
theorem cut_apart {e lot : List Int} {ts fs : List (Int × Int)} (nd : e.Nodup) (h : Tre e ts (e.length - 1)) {i0 : Nat} (hi0 : i0 < e.length - 1) (sub : ∀ q ∈ fs, q ∈ ts ∧ some q ≠ ts[i0]?) : ¬ Reach (tieIn fs lot) (it e 0) (it e (i0 + 1)) := by
  obtain ⟨c, c0, c1, c2⟩ := tre_cut h i0 (e.length - 1) (Nat.le_refl _)
  have keep : ∀ q ∈ fs, c (e.idxOf q.1) = c (e.idxOf q.2) := by
    intro q hq
    obtain ⟨hq1, hq2⟩ := sub q hq
    obtain ⟨i, j, il, il2, jl, hi, _⟩ := tre_mem h hq1
    have ne : i ≠ i0 := fun z => hq2 (by rw [← z, hi])
    obtain ⟨j', a, b, d⟩ := c2 i il ne
    rw [hi] at b
    have b' := Option.some.inj b
    have e1 := idx_it nd il2
    have e2 := idx_it nd (show j' < e.length by omega)
    rcases mnx_mem (tre_ne nd il2 a) with z | z
    · rw [b', z]
      show c (e.idxOf (it e (i + 1))) = c (e.idxOf (it e j'))
      rw [e1, e2]; exact d
    · rw [b', z]
      show c (e.idxOf (it e j')) = c (e.idxOf (it e (i + 1)))
      rw [e1, e2]; exact d.symm
  have go : ∀ {a b : Int}, Reach (tieIn fs lot) a b → c (e.idxOf a) = c (e.idxOf b) := by
    intro a b r
    induction r with
    | refl => rfl
    | tail _ hp ih =>
      obtain ⟨z, _, _⟩ := mem_tieIn.mp hp
      rcases z with z | z
      · exact ih.trans (keep _ z)
      · exact ih.trans (keep _ z).symm
  intro r
  have := go r
  rw [idx_it nd (by omega), idx_it nd (by omega), c0, c1 hi0] at this
  cases this
theorem tre_nodup {e : List Int} {ts : List (Int × Int)} {k : Nat} (nd : e.Nodup) (h : Tre e ts k) : ts.Nodup := by
  show List.Pairwise _ _
  rw [List.pairwise_iff_getElem]
  intro i i' hi hi' lt eq0
  have eq : ts[i]? = ts[i']? := by rw [List.getElem?_eq_getElem hi, List.getElem?_eq_getElem hi', eq0]
  rw [h.1] at hi'
  obtain ⟨a, j, b, d⟩ := h.2 i (by omega)
  obtain ⟨a', j', b', d'⟩ := h.2 i' hi'
  rw [d, d'] at eq
  have eq' := Option.some.inj eq
  have no : ∀ y, y = it e (i + 1) ∨ y = it e j → it e (i' + 1) ≠ y := by
    rintro y (rfl | rfl) z
    · have := it_inj nd a' a z; omega
    · have := it_inj nd a' (by omega) z; omega
  rcases mnx_mem (tre_ne nd a b) with z | z <;> rcases mnx_mem (tre_ne nd a' b') with z' | z' <;> (rw [z, z'] at eq'; obtain ⟨e1, e2⟩ := Prod.mk.inj eq')
  · exact no _ (.inl rfl) e1.symm
  · exact no _ (.inr rfl) e2.symm
  · exact no _ (.inr rfl) e1.symm
  · exact no _ (.inl rfl) e2.symm
/-- without the arrow of one thing, no head -/
theorem fwd_less {o lot : List Int} {as fs : List (Int × Int)} (nd : o.Nodup) (h : Fwd o as (o.length - 1)) (hl : ∀ x, x ∈ lot ↔ x ∈ o) {i0 : Nat} (hi0 : i0 < o.length - 1)
    (sub : ∀ q ∈ fs, q.1 ∈ lot → q.2 ∈ lot → q ∈ as ∧ some q ≠ as[i0]?) : ∀ x ∈ lot, ¬ IsHead fs lot x := by
  intro x hx hd
  -- who has no arrow out is no one's start
  have stuck : ∀ i, i < o.length → (i = i0 ∨ i = o.length - 1) → ∀ {a b : Int}, Reach (upIn fs lot) a b → b = it o i → a = it o i := by
    intro i hi hc a b r e
    cases r with
    | refl => exact e
    | @tail c _ r hp =>
      exfalso
      subst e
      obtain ⟨z, _, _⟩ := mem_upIn.mp hp
      rename_i h1 h2
      obtain ⟨s1, s2⟩ := sub _ z (by assumption) (by assumption)
      obtain ⟨k, hk⟩ := List.getElem?_of_mem s1
      have kl := (List.getElem?_eq_some_iff.mp hk).1
      rw [h.1] at kl
      obtain ⟨j, l1, l2, d⟩ := h.2 k kl
      rw [hk] at d
      have d' := Option.some.inj d
      have ei : i = k := it_inj nd hi (by omega) (Prod.mk.inj d').1
      rcases hc with rfl | rfl
      · exact s2 (by rw [show as[i]? = as[k]? from by rw [ei], hk])
      · omega
  have e1 := stuck i0 (by omega) (.inl rfl) (hd _ ((hl _).mpr (it_mem (by omega)))) rfl
  have e2 := stuck (o.length - 1) (by omega) (.inr rfl) (hd _ ((hl _).mpr (it_mem (by omega)))) rfl
  have := it_inj nd (by omega) (by omega) (e1.symm.trans e2)
  omega
theorem fwd_nodup {o : List Int} {as : List (Int × Int)} {k : Nat} (nd : o.Nodup) (h : Fwd o as k) (hk : k ≤ o.length) : as.Nodup := by
  show List.Pairwise _ _
  rw [List.pairwise_iff_getElem]
  intro i i' hi hi' lt eq0
  have eq : as[i]? = as[i']? := by rw [List.getElem?_eq_getElem hi, List.getElem?_eq_getElem hi', eq0]
  rw [h.1] at hi hi'
  obtain ⟨j, _, _, d⟩ := h.2 i hi
  obtain ⟨j', _, _, d'⟩ := h.2 i' hi'
  rw [d, d'] at eq
  have := it_inj nd (by omega) (by omega) (Prod.mk.inj (Option.some.inj eq)).1
  omega
theorem built_acy {o : List Int} {as fs : List (Int × Int)} {k : Nat} (nd : o.Nodup) (h : Fwd o as k) (hk : k ≤ o.length) (f1 : fs.length ≤ 1) (hf : ∀ q ∈ fs, (q.1 ∉ o ∧ q.2 ∈ o) ∨ (q.1 ∈ o ∧ q.2 ∉ o)) : Acy (as ++ fs) := by
  refine ⟨fun x => if x ∈ o then o.idxOf x + 1 else if (fs.any fun q => decide (q.2 = x)) = true then o.length + 2 else 0, fun p hp => ?_⟩
  have one : ∀ q ∈ fs, ∀ q' ∈ fs, q = q' := by
    intro q hq q' hq'
    cases fs with
    | nil => cases hq
    | cons a t =>
      cases t with
      | nil => rw [List.mem_singleton.mp hq, List.mem_singleton.mp hq']
      | cons b t => simp at f1
  rcases List.mem_append.mp hp with g | g
  · obtain ⟨i, j, a, b, c, rfl⟩ := fwd_mem h g
    show (if it o i ∈ o then _ else _) < (if it o j ∈ o then _ else _)
    rw [if_pos (it_mem (by omega)), if_pos (it_mem c), idx_it nd (by omega), idx_it nd c]
    omega
  · rcases hf p g with ⟨a, b⟩ | ⟨a, b⟩
    · have no : ¬ (fs.any fun q => decide (q.2 = p.1)) = true := by
        intro z
        obtain ⟨q, hq, e⟩ := List.any_eq_true.mp z
        have e' : q.2 = p.1 := by simpa using e
        rw [one q hq p g] at e'
        exact a (e' ▸ b)
      simp only [if_neg a, if_neg no, if_pos b]
      omega
    · have yes : (fs.any fun q => decide (q.2 = p.2)) = true := List.any_eq_true.mpr ⟨p, g, by simp⟩
      have := List.idxOf_lt_length_of_mem a
      simp only [if_pos a, if_neg b, if_pos yes]
      omega
section
variable {n : Nat} {as ts : List (Int × Int)}
theorem reach_out {ps : List (Int × Int)} {a b : Int} (h : Reach ps a b) (ne : a ≠ b) : ∃ c, (c, b) ∈ ps := by
  cases h with
  | refl => exact absurd rfl ne
  | @tail c _ _ hp => exact ⟨c, hp⟩
/-- a barred lot keeps to the things that are tied -/
theorem bar_in {o l : List Int} (h : ∀ q ∈ ts, q.1 ∈ o ∧ q.2 ∈ o) (b : Bar n as ts l) : ∀ z ∈ l, z ∈ o := by
  obtain ⟨x, g⟩ := bar_good b
  have key : ∀ {a c : Int}, Reach (tieIn ts l) a c → a ≠ c → c ∈ o := fun r ne => by
    obtain ⟨d, hd⟩ := reach_out r ne
    obtain ⟨z, _, _⟩ := mem_tieIn.mp hd
    rcases z with z | z
    · exact (h _ z).2
    · exact (h _ z).1
  intro z hz
  by_cases c : x = z
  · subst c
    obtain ⟨y, hy, ne⟩ : ∃ y ∈ l, y ≠ x := by
      refine Classical.byContradiction fun no => ?_
      have all : ∀ y ∈ l, y = x := fun y hy => Classical.byContradiction fun ne => no ⟨y, hy, ne⟩
      have h1 := nodup_le (lt_nd g.lot.1) (m := [x]) fun y hy => by rw [all y hy]; simp
      have := b.two
      simp at h1
      omega
    exact key (tie_sym (g.tie y hy)) ne
  · exact key (g.tie z hz) c
theorem gl_out {o : List Int} (h : ∀ q ∈ ts, q.1 ∈ o ∧ q.2 ∈ o) {x : Int} (hx : x ∈ things n) (no : x ∉ o) : gl n as ts x = [x] := by
  have g := gl_good (as := as) (ts := ts) hx
  by_cases c : 1 < (gl n as ts x).length
  · exact absurd (bar_in h (good_bar g c) x g.mem) no
  · cases e : gl n as ts x with
    | nil => have := g.mem; rw [e] at this; cases this
    | cons a t =>
      cases t with
      | nil => have := g.mem; rw [e] at this; rw [List.mem_singleton.mp this]
      | cons b t => rw [e] at c; simp at c
theorem gl_lotb {o lot : List Int} {x : Int} (h : ∀ q ∈ ts, q.1 ∈ o ∧ q.2 ∈ o) (hl : ∀ y, y ∈ lot ↔ y ∈ o) (g : Good n as ts x lot) : gl n as ts x = lot := by
  refine (gl_eq g fun m gm y hy => ?_).symm
  by_cases c : 1 < m.length
  · exact (hl y).mpr (bar_in h (good_bar gm c) y hy)
  · have : y = x := by
      cases e : m with
      | nil => rw [e] at hy; cases hy
      | cons a t =>
        cases t with
        | nil => have h1 := gm.mem; rw [e] at hy h1; rw [List.mem_singleton.mp hy, List.mem_singleton.mp h1]
        | cons b t => rw [e] at c; simp at c
    rw [this]; exact g.mem
/-- each barred lot lies on one side -/
theorem bar_side {o lot l ns : List Int} {x : Int} (h : ∀ q ∈ ts, q.1 ∈ o ∧ q.2 ∈ o) (hl : ∀ y, y ∈ lot ↔ y ∈ o) (hs : ∀ y, y ∈ ns ↔ Reach (tieIn ts lot) x y) (b : Bar n as ts l) : ∀ y ∈ l, ∀ z ∈ l, y ∈ ns → z ∈ ns := by
  obtain ⟨u, g⟩ := bar_good b
  have s : ∀ z ∈ l, z ∈ lot := fun z hz => (hl z).mpr (bar_in h b z hz)
  intro y hy z hz hn
  rw [hs] at hn ⊢
  exact reach_trans hn (tie_mono s (reach_trans (tie_sym (g.tie y hy)) (g.tie z hz)))
theorem built_good {o e lot : List Int} {fs : List (Int × Int)} (po : e.Perm o) (nd : o.Nodup) (pos : 0 < o.length) (hA : Fwd o as (o.length - 1)) (hT : Tre e ts (o.length - 1)) (lo : Lot n lot) (hl : ∀ x, x ∈ lot ↔ x ∈ o) : Good n (as ++ fs) ts (it o (o.length - 1)) lot := by
  have ndE := po.nodup_iff.mpr nd
  have le := po.length_eq
  have hlE : ∀ x, x ∈ lot ↔ x ∈ e := fun x => (hl x).trans po.mem_iff.symm
  have hT' : Tre e ts (e.length - 1) := by rw [le]; exact hT
  have lastM : it o (o.length - 1) ∈ lot := (hl _).mpr (it_mem (by omega))
  have toE : ∀ y ∈ lot, Reach (tieIn ts lot) (it e 0) y := fun y hy => by
    obtain ⟨i, hi⟩ := List.getElem?_of_mem ((hlE y).mp hy)
    have il := (List.getElem?_eq_some_iff.mp hi).1
    rw [it_some il] at hi
    rw [← Option.some.inj hi]
    exact tre_hang ndE hT' hlE i il
  refine ⟨lo, lastM, fun y hy => ?_, fun y hy => reach_trans (tie_sym (toE _ lastM)) (toE y hy)⟩
  obtain ⟨i, hi⟩ := List.getElem?_of_mem ((hl y).mp hy)
  have il := (List.getElem?_eq_some_iff.mp hi).1
  rw [it_some il] at hi
  rw [← Option.some.inj hi]
  exact up_sub (fun p hp => List.mem_append_left _ hp) (fwd_head hA hl pos (o.length - 1 - i) i (by omega))
theorem built_cut {o e lot : List Int} {fs : List (Int × Int)} (po : e.Perm o) (nd : o.Nodup) (hT : Tre e ts (o.length - 1)) (hl : ∀ x, x ∈ lot ↔ x ∈ o) {q : Int × Int} (hq : q ∈ ts) (sub : ∀ p ∈ fs, p ∈ ts ∧ p ≠ q) : hangB fs lot = false := by
  have ndE := po.nodup_iff.mpr nd
  have le := po.length_eq
  obtain ⟨i, j, a, b, c, d, _⟩ := tre_mem hT hq
  rw [Bool.eq_false_iff]
  intro z
  have e0 : it e 0 ∈ lot := (hl _).mpr (po.mem_iff.mp (it_mem (by omega)))
  refine cut_apart (lot := lot) ndE (by rw [le]; exact hT) (i0 := i) (by omega) (fun p hp => ⟨(sub p hp).1, fun y => (sub p hp).2 ?_⟩) ((hang_iff e0).mp z _ ((hl _).mpr (po.mem_iff.mp (it_mem b))))
  rw [d] at y
  exact Option.some.inj y
theorem built_nohead {o lot : List Int} {fs : List (Int × Int)} (nd : o.Nodup) (hA : Fwd o as (o.length - 1)) (hl : ∀ x, x ∈ lot ↔ x ∈ o) {q : Int × Int} (hq : q ∈ as) (sub : ∀ p ∈ fs, p.1 ∈ o → p.2 ∈ o → p ∈ as ∧ p ≠ q) : headsL fs lot = [] := by
  obtain ⟨i, hi⟩ := List.getElem?_of_mem hq
  have il := (List.getElem?_eq_some_iff.mp hi).1
  rw [hA.1] at il
  have no := fwd_less (fs := fs) nd hA hl il fun p hp h1 h2 => by
    obtain ⟨a, b⟩ := sub p hp ((hl _).mp h1) ((hl _).mp h2)
    exact ⟨a, fun y => b (by rw [hi] at y; exact Option.some.inj y)⟩
  unfold headsL
  rw [List.filter_eq_nil_iff]
  exact fun x hx z => no x hx (headB_iff.mp z)
end
end Tk

namespace Tk
open PySem PySem.Spec PyProof.Rows L2
/-- values of which repr is known: None, bools, ints, lists and tuples of data -/
def ReprOk (v : V) (d : PyData) : Prop := match v with
  | .non => True
  | .bl _ => True
  | .int i => i.natAbs.log2 < 1920
  | .ref _ => RepOk d
  | _ => False
section
variable {X : Cx}
def rRepV (K : PySem.W.Frag) : List V → Hp → VK → Prop := fun xs H Q => ∃ (v : V) (d : PyData), xs = [v] ∧ Dp K H v d ∧ ReprOk v d ∧ Q (.str d.shown) H
theorem call_reprV (hgd : X.A.guards = some []) (hu : X.A.units + 64 < cLine) : CallR X (.builtin "repr") (rRepV X.K) := by
  intro pins s σ H xs us Q I r h
  obtain ⟨v, d, rfl, hd, ok, q⟩ := h
  cases hd with
  | non =>
    cases r with
    | cons r1 r2 =>
      cases r2
      cases r1
      exact PySem.P.repr_of_none ⟨.str "None", H, I.tok _, ⟨_, rfl⟩, q⟩
  | bl b =>
    cases r with
    | cons r1 r2 =>
      cases r2
      cases r1
      exact PySem.P.repr_of_bool ⟨.str (if b then "True" else "False"), H, I.tok _, ⟨_, rfl⟩, q⟩
  | int i =>
    cases r with
    | cons r1 r2 =>
      cases r2
      obtain ⟨t, rfl⟩ := r1
      exact PySem.P.repr_of_int ok ⟨.str (toString i), H, I.tok _, ⟨_, rfl⟩, q⟩
  | str x => exact ok.elim
  | @lst a xs ds h1 h2 => exact call_reprD hgd hu pins s σ H _ us Q I r ⟨a, _, rfl, .lst h1 h2, ok.sh, ok.nd, ok.dp, ok.sz, q⟩
  | @tup a xs ds h1 h2 => exact call_reprD hgd hu pins s σ H _ us Q I r ⟨a, _, rfl, .tup h1 h2, ok.sh, ok.nd, ok.dp, ok.sz, q⟩
end
end Tk

namespace Tk
open PySem PySem.Spec PyProof.Rows L2
/-! ## sorted, of lists of pairs -/
def flatP (ps : List (Int × Int)) : List Int := ps.flatMap fun p => [p.1, p.2]
theorem flatP_cons (p : Int × Int) (ps : List (Int × Int)) : flatP (p :: ps) = p.1 :: p.2 :: flatP ps := rfl
theorem flatP_inj : ∀ {ps qs : List (Int × Int)}, flatP ps = flatP qs → ps = qs
  | [], [], _ => rfl
  | [], q :: qs, h => by rw [flatP_cons] at h; exact nomatch h
  | p :: ps, [], h => by rw [flatP_cons] at h; exact nomatch h
  | p :: ps, q :: qs, h => by
    rw [flatP_cons, flatP_cons] at h
    injection h with h1 h
    injection h with h2 h
    rw [flatP_inj h, Prod.ext h1 h2]
section
open PySem.W
theorem alike_dP (p q : Int × Int) : alike (dP p) (dP q) = true := by simp [dP, alike, alikeAll]
theorem alike_dPsA : ∀ ps qs : List (Int × Int), alikeAll (ps.map dP) (qs.map dP) = true
  | [], _ => by simp [alikeAll]
  | _ :: _, [] => by simp [alikeAll]
  | p :: ps, q :: qs => by
    show alikeAll (dP p :: ps.map dP) (dP q :: qs.map dP) = true
    simp only [alikeAll, alike_dP, alike_dPsA ps qs, Bool.and_self]
theorem eqv_dPq {p q : Int × Int} : PyData.eqv (dP p) (dP q) = decide (p = q) := by
  obtain ⟨u, v⟩ := p
  obtain ⟨x, y⟩ := q
  simp [dP, PyData.eqv, PyData.eqvAll]
  by_cases c1 : u = x <;> by_cases c2 : v = y <;> simp [c1, c2]
theorem rowLt_pairs : ∀ ps qs : List (Int × Int), rowLt (ps.map dP) (qs.map dP) = decide (flatP ps < flatP qs)
  | [], [] => by
    have e : rowLt [] [] = false := lex_irrefl _
    simpa [flatP] using e
  | [], q :: qs => by
    have e : rowLt [] (dP q :: qs.map dP) = true := by
      unfold rowLt
      rw [toks_all_cons]
      simp only [keyToksAll]
      rw [lex_diff (O := itemOrd) (by simp)]
      rfl
    simpa [flatP_cons, flatP] using e
  | p :: ps, [] => by
    have e : rowLt (dP p :: ps.map dP) [] = false := by
      unfold rowLt
      rw [toks_all_cons]
      simp only [keyToksAll]
      rw [lex_diff (O := itemOrd) (by simp)]
      rfl
    simpa [flatP_cons, flatP] using e
  | p :: ps, q :: qs => by
    have e : rowLt (dP p :: ps.map dP) (dP q :: qs.map dP) = if p = q then rowLt (ps.map dP) (qs.map dP) else decide (p.1 < q.1 ∨ (p.1 = q.1 ∧ p.2 < q.2)) := by
      unfold rowLt
      rw [dataLt_cons (alike_dP p q), eqv_dPq]
      have e2 : dataLt (dP p) (dP q) = decide (p.1 < q.1 ∨ (p.1 = q.1 ∧ p.2 < q.2)) := dataLt_ii p.1 p.2 q.1 q.2
      rw [e2]
      by_cases c : p = q <;> simp [c]
    show rowLt (dP p :: ps.map dP) (dP q :: qs.map dP) = _
    rw [e, flatP_cons, flatP_cons]
    by_cases h : p = q
    · rw [if_pos h, rowLt_pairs ps qs, h]
      simp [List.cons_lt_cons_iff]
    · rw [if_neg h]
      obtain ⟨u, v⟩ := p
      obtain ⟨x, y⟩ := q
      simp only [List.cons_lt_cons_iff]
      by_cases c1 : u = x
      · have c2 : v ≠ y := fun c => h (by rw [c1, c])
        simp [c1, c2]
      · simp [c1]
theorem dataLe_prs {β : Type} (x : β → List (Int × Int)) : dataLe false (fun b => .list ((x b).map dP)) = fun p q => decide (flatP (x p) ≤ flatP (x q)) := by
  funext p q
  show (!dataLt (.list ((x q).map dP)) (.list ((x p).map dP))) = _
  rw [dataLt_list]
  show (!rowLt ((x q).map dP) ((x p).map dP)) = _
  rw [rowLt_pairs]
  by_cases h : flatP (x q) < flatP (x p)
  · have h' : ¬ flatP (x p) ≤ flatP (x q) := fun r => List.not_lt.mpr r h
    simp [h, h']
  · have h' : flatP (x p) ≤ flatP (x q) := List.not_lt.mp h
    simp [h, h']
end
/-- two sorted lists of the same lists of pairs -/
theorem prs_one {gs hs : List (List (Int × Int))} (s1 : gs.Pairwise fun a b => flatP a ≤ flatP b) (s2 : hs.Pairwise fun a b => flatP a ≤ flatP b) (pm : gs.Perm hs) : gs = hs :=
  List.Perm.eq_of_pairwise (fun a b _ _ h1 h2 => flatP_inj (List.le_antisymm h1 h2)) s1 s2 pm
/-- a list of lists of pairs -/
def LsQ (K : PySem.W.Frag) (G : Hp) : List V → List (List (Int × Int)) → Prop
  | [], [] => True
  | x :: xs, o :: os => (∃ (r : Addr) (zs : List V), x = .ref r ∧ G r = some (.lst zs) ∧ DpAll K G zs (o.map dP)) ∧ LsQ K G xs os
  | _, _ => False
section
variable {K : PySem.W.Frag} {G G' : Hp}
theorem lq_s (e : Same G G') : ∀ {xs : List V} {os : List (List (Int × Int))}, LsQ K G xs os → LsQ K G' xs os
  | [], [], _ => trivial
  | x :: xs, o :: os, ⟨⟨r, zs, h1, h2, h3⟩, h4⟩ => ⟨⟨r, zs, h1, e _ _ h2, dps_s h3 e⟩, lq_s e h4⟩
  | [], _ :: _, h => h.elim
  | _ :: _, [], h => h.elim
theorem lq_app : ∀ {xs ys : List V} {os ps : List (List (Int × Int))}, LsQ K G xs os → LsQ K G ys ps → LsQ K G (xs ++ ys) (os ++ ps)
  | [], _, [], _, _, h => h
  | x :: xs, _, o :: os, _, ⟨h1, h2⟩, h => ⟨h1, lq_app h2 h⟩
  | [], _, _ :: _, _, h, _ => h.elim
  | _ :: _, _, [], _, h, _ => h.elim
theorem lq_len : ∀ {xs : List V} {os : List (List (Int × Int))}, LsQ K G xs os → xs.length = os.length
  | [], [], _ => rfl
  | x :: xs, o :: os, ⟨_, h⟩ => by simp [lq_len h]
  | [], _ :: _, h => h.elim
  | _ :: _, [], h => h.elim
theorem lq_at : ∀ {xs : List V} {os : List (List (Int × Int))}, LsQ K G xs os → ∀ {i : Nat} {x : V}, xs[i]? = some x → ∃ (o : List (Int × Int)) (r : Addr) (zs : List V), os[i]? = some o ∧ x = .ref r ∧ G r = some (.lst zs) ∧ DpAll K G zs (o.map dP)
  | [], [], _, _, _, h => by simp at h
  | x :: xs, o :: os, ⟨⟨r, zs, h1, h2, h3⟩, h4⟩, i, y, h => by
    cases i with
    | zero =>
      simp at h
      subst h
      exact ⟨o, r, zs, rfl, h1, h2, h3⟩
    | succ i => exact lq_at h4 (i := i) (by simpa using h)
  | [], _ :: _, h, _, _, _ => h.elim
  | _ :: _, [], h, _, _, _ => h.elim
abbrev dLs (ps : List (Int × Int)) : PyData := .list (ps.map dP)
theorem lq_dps : ∀ {xs : List V} {os : List (List (Int × Int))}, LsQ K G xs os → DpAll K G xs (os.map dLs)
  | [], [], _ => .nil
  | x :: xs, o :: os, ⟨⟨r, zs, h1, h2, h3⟩, h4⟩ => by
    rw [h1]
    exact .cons (.lst (sl_of h2) h3) (lq_dps h4)
  | [], _ :: _, h => h.elim
  | _ :: _, [], h => h.elim
theorem lq_zip : ∀ {xs : List V} {os : List (List (Int × Int))}, LsQ K G xs os → xs = (xs.zip os).map Prod.fst ∧ os = (xs.zip os).map Prod.snd ∧ ∀ b ∈ xs.zip os, ∃ (r : Addr) (zs : List V), b.1 = .ref r ∧ G r = some (.lst zs) ∧ DpAll K G zs (b.2.map dP)
  | [], [], _ => ⟨rfl, rfl, fun _ h => nomatch h⟩
  | x :: xs, o :: os, ⟨h1, h3⟩ => by
    obtain ⟨a, b, c⟩ := lq_zip h3
    refine ⟨by simp only [List.zip_cons_cons, List.map_cons]; rw [← a], by simp only [List.zip_cons_cons, List.map_cons]; rw [← b], fun z hz => ?_⟩
    simp only [List.zip_cons_cons] at hz
    rcases List.mem_cons.mp hz with e | e
    · rw [e]; exact h1
    · exact c z e
  | [], _ :: _, h => h.elim
  | _ :: _, [], h => h.elim
theorem lq_of : ∀ {bs : List (V × List (Int × Int))}, (∀ b ∈ bs, ∃ (r : Addr) (zs : List V), b.1 = .ref r ∧ G r = some (.lst zs) ∧ DpAll K G zs (b.2.map dP)) → LsQ K G (bs.map Prod.fst) (bs.map Prod.snd)
  | [], _ => trivial
  | b :: bs, h => ⟨h b (List.mem_cons_self ..), lq_of fun c hc => h c (List.mem_cons_of_mem _ hc)⟩
/-- what changes another list -/
theorem lq_mut {D : Addr} {u : HO} (keep : ∀ {zs : List V} {o : List (Int × Int)}, DpAll K G zs (o.map dP) → DpAll K (upd G D u) zs (o.map dP)) : ∀ {xs : List V} {os : List (List (Int × Int))}, LsQ K G xs os → (∀ x ∈ xs, x ≠ .ref D) → LsQ K (upd G D u) xs os
  | [], [], _, _ => trivial
  | x :: xs, o :: os, ⟨⟨r, zs, h1, h2, h3⟩, h4⟩, n => ⟨⟨r, zs, h1, by
      have : r ≠ D := fun e => n x (List.mem_cons_self ..) (by rw [h1, e])
      rw [upd_ne this]; exact h2, keep h3⟩, lq_mut keep h4 fun y hy => n y (List.mem_cons_of_mem _ hy)⟩
  | [], _ :: _, h, _ => h.elim
  | _ :: _, [], h, _ => h.elim
end
section
open PySem.W
variable {X : Cx}
def rSortedQ (K : PySem.W.Frag) : List V → Hp → VK → Prop := fun vs H Q => ∃ (a : Addr) (xs : List V) (os : List (List (Int × Int))), vs = [V.ref a] ∧ SqL K H a xs ∧ LsQ K H xs os ∧
  ∀ (ys : List V) (os' : List (List (Int × Int))) (p : Addr), os'.Perm os → (os'.Pairwise fun a b => flatP a ≤ flatP b) → LsQ K H ys os' → ys.Perm xs → H p = none → Q (.ref p) (upd H p (.lst ys))
theorem each_valsQ : ∀ {bs : List (V × List (Int × Int))} {us : List Value}, Vals (bs.map Prod.fst) us → EachIs (fun (v : Value) (b : V × List (Int × Int)) => RelV b.1 v) us bs
  | [], _, h => by cases h; exact .nil
  | b :: bs, _, h => by
    cases h with
    | cons h1 h2 => exact .cons h1 (each_valsQ h2)
theorem vals_eachQ : ∀ {bs : List (V × List (Int × Int))} {us : List Value}, EachIs (fun (v : Value) (b : V × List (Int × Int)) => RelV b.1 v) us bs → Vals (bs.map Prod.fst) us
  | _, _, .nil => .nil
  | _, _, .cons h1 h2 => .cons h1 (vals_eachQ h2)
theorem depth_dP (p : Int × Int) : PyData.depth (dP p) ≤ 1 := by simp [dP, PyData.depth, PyData.depthAll]
theorem depth_dPs : ∀ ps : List (Int × Int), PyData.depthAll (ps.map dP) ≤ 1
  | [] => by simp [PyData.depthAll]
  | p :: ps => by
    have h1 := depth_dP p
    have h2 := depth_dPs ps
    show PyData.depthAll (dP p :: ps.map dP) ≤ 1
    simp only [PyData.depthAll]
    omega
theorem cr_sortedQ (hu : X.A.units + 64 < cLine) : CallR X (.builtin "sorted") (rSortedQ X.K) := by
  intro pins s σ H vs us Q I r h
  obtain ⟨a, xs, os, rfl, hs, ls, q⟩ := h
  obtain ⟨its, rv, hl, hz⟩ := I.list hs
  rw [Vals.ref1 r]
  obtain ⟨e1, e2, e3⟩ := lq_zip ls
  generalize xs.zip os = bs at e1 e2 e3
  subst e1
  subst e2
  have each := each_valsQ rv
  have reads : EachIs (fun (v : Value) (b : V × List (Int × Int)) => ∃ as, Reads s.heap v (PyData.list (b.2.map dP)) as) its bs := by
    clear q hs ls hl hz r
    induction each with
    | nil => exact .nil
    | @cons v b vs' bs' h1 h2 ih =>
      refine .cons ?_ (ih (fun c hc => e3 c (List.mem_cons_of_mem _ hc)) (by cases rv with | cons _ r2 => exact r2))
      obtain ⟨r0, zs, er, hr, dz⟩ := e3 b (List.mem_cons_self ..)
      rw [er] at h1
      exact Dp.reads I _ (.ref r0) v (.lst (sl_of hr) dz) h1
  refine sorted_data (enc := fun b : V × List (Int × Int) => PyData.list (b.2.map dP)) (R := fun (v : Value) (b : V × List (Int × Int)) => RelV b.1 v) hl.isList each reads (AllAlike.of fun b b' => by simp only [alike]; exact alike_dPsA _ _) (Sortable.others fun b => ⟨by simp, by simp⟩) (by rw [List.length_map] at hz; exact hz) (fun b hb => ?_) fun out hlen ho => ?_
  · have : PyData.depth (PyData.list (b.2.map dP)) ≤ 2 := by
      rw [PyData.depth]
      have := depth_dPs b.2
      omega
    omega
  · rw [dataLe_prs (fun b : V × List (Int × Int) => b.2)] at ho
    obtain ⟨ep, he'⟩ := PyProof.Rows.sortedAll_at s.heap its out.toArray
    have vo := vals_eachQ ho
    generalize hbs : bs.mergeSort (fun p q => decide (flatP p.2 ≤ flatP q.2)) = bs' at ho vo
    have pm : bs'.Perm bs := by rw [← hbs]; exact List.mergeSort_perm ..
    have srt : bs'.Pairwise (fun p q => decide (flatP p.2 ≤ flatP q.2) = true) := by
      rw [← hbs]
      refine List.pairwise_mergeSort (fun a b c h1 h2 => ?_) (fun a b => ?_) bs
      · simp only [decide_eq_true_eq] at h1 h2 ⊢
        exact List.le_trans h1 h2
      · simp only [Bool.or_eq_true, decide_eq_true_eq]
        exact List.le_total _ _
    refine ⟨.ref _, upd H (s.heap.objs.size + 1) (.lst (bs'.map Prod.fst)), I.laid (t' := s.toks) (fun _ _ => PyProof.Rows.sortedAll_old) (Nat.le_succ _) ⟨by rw [List.length_map, pm.length_eq]; rw [List.length_map] at hz; exact hz, out, ep, vo, he'⟩, rfl, ?_⟩
    refine q _ (bs'.map Prod.snd) _ (pm.map _) ?_ (lq_of fun b hb => e3 b (pm.mem_iff.mp hb)) (pm.map _) (I.hok.fresh (Nat.le_succ _))
    rw [List.pairwise_map]
    exact srt.imp fun h => of_decide_eq_true h
end
end Tk

namespace Tk
open PySem PySem.Spec PyProof.Rows L2
theorem te_eqR {t : TE} {σ : L2.St} {H : Hp} {Q : VK} (x : V) (h : ∀ Q' : VK, Q' x H → t σ H Q') (hq : Q x H) : t σ H Q := h Q hq
/-- a Ratio made of two ints -/
theorem mk_ratio {C : Addr} {G : Hp} {x dx' : Addr} {t b : Int} {R : VK} {E : XK} (b0 : b ≠ 0) (bl : b.natAbs.log2 < 9000) (nx : G x = none) (ndx : G dx' = none) (q : ∀ G' : Hp, Same G G' → RatAt C G' x (lowQ t b) → R .non G') :
    spRInit C [.ref x, .int t, .int b] (upd (upd G dx' (.own x)) x (.ins C dx' [])) R E := by
  have sm : Same G (upd (upd G dx' (.own x)) x (.ins C dx' [])) := fun b o e => by
    rw [upd_ne (ne_of_none e nx), upd_ne (ne_of_none e ndx)]
    exact e
  exact ⟨x, dx', t, b, rfl, upd_same, b0, bl, fun G' keep h => q G' (fun b o e => keep b o (ne_of_none e nx) (sm b o e)) h⟩
/-- Ratios in a list -/
def RatsP (C : Addr) (H : Hp) : List V → List (Int × Int) → Prop
  | [], [] => True
  | x :: xs, q :: qs => (∃ p, x = .ref p ∧ RatAt C H p q) ∧ RatsP C H xs qs
  | _, _ => False
theorem rats_s {C : Addr} {H H' : Hp} (e : Same H H') : ∀ {xs : List V} {qs : List (Int × Int)}, RatsP C H xs qs → RatsP C H' xs qs
  | [], [], _ => trivial
  | _ :: _, _ :: _, ⟨⟨p, h1, h2⟩, h⟩ => ⟨⟨p, h1, rat_s h2 e⟩, rats_s e h⟩
  | [], _ :: _, h => h.elim
  | _ :: _, [], h => h.elim
theorem rats_app {C : Addr} {H : Hp} : ∀ {xs ys : List V} {qs rs : List (Int × Int)}, RatsP C H xs qs → RatsP C H ys rs → RatsP C H (xs ++ ys) (qs ++ rs)
  | [], _, [], _, _, h => h
  | _ :: _, _, _ :: _, _, ⟨h1, h2⟩, h => ⟨h1, rats_app h2 h⟩
  | [], _, _ :: _, _, h, _ => h.elim
  | _ :: _, _, [], _, h, _ => h.elim
theorem rats_at {C : Addr} {H : Hp} : ∀ {xs : List V} {qs : List (Int × Int)}, RatsP C H xs qs → xs.length = qs.length ∧ ∀ (i : Nat) (x : V) (q : Int × Int), xs[i]? = some x → qs[i]? = some q → ∃ p, x = .ref p ∧ RatAt C H p q
  | [], [], _ => ⟨rfl, fun i x q h _ => by simp at h⟩
  | x :: xs, q :: qs, ⟨h1, h⟩ => by
    obtain ⟨l, g⟩ := rats_at h
    refine ⟨by simp [l], fun i y z hy hz => ?_⟩
    cases i with
    | zero =>
      simp at hy hz
      subst hy
      subst hz
      exact h1
    | succ i => exact g i y z (by simpa using hy) (by simpa using hz)
  | [], _ :: _, h => h.elim
  | _ :: _, [], h => h.elim
/-- a list of another place changes -/
theorem rat_but {C l : Addr} {H H' : Hp} {p : Addr} {q : Int × Int} {xs : List V} (h : RatAt C H p q) (hl : H l = some (.lst xs)) (e : SmX l H H') : RatAt C H' p q := by
  obtain ⟨dx, h⟩ := h
  exact ⟨dx, e _ _ (fun z => by rw [z, hl] at h; cases h) h⟩
theorem pair_but {K : PySem.W.Frag} {l : Addr} {H H' : Hp} {p : Addr} {q : Int × Int} {xs : List V} (h : PairAt K H p q) (hl : H l = some (.lst xs)) (e : SmX l H H') : PairAt K H' p q := by
  rcases h with (h | ⟨z, h⟩) | h
  · exact .inl (.inl (e _ _ (fun z => by rw [z, hl] at h; cases h) h))
  · exact .inl (.inr ⟨z, e _ _ (fun z => by rw [z, hl] at h; cases h) h⟩)
  · exact .inr h
theorem rats_but {C l : Addr} {H H' : Hp} {zs : List V} (hl : H l = some (.lst zs)) (e : SmX l H H') : ∀ {xs : List V} {qs : List (Int × Int)}, RatsP C H xs qs → RatsP C H' xs qs
  | [], [], _ => trivial
  | _ :: _, _ :: _, ⟨⟨p, h1, h2⟩, h⟩ => ⟨⟨p, h1, rat_but h2 hl e⟩, rats_but hl e h⟩
  | [], _ :: _, h => h.elim
  | _ :: _, [], h => h.elim
/-- pairs in a list -/
def PrsP (K : PySem.W.Frag) (H : Hp) : List V → List (Int × Int) → Prop
  | [], [] => True
  | x :: xs, q :: qs => (∃ p, x = .ref p ∧ PairAt K H p q) ∧ PrsP K H xs qs
  | _, _ => False
theorem prs_sR {K : PySem.W.Frag} {H H' : Hp} (e : Same H H') : ∀ {xs : List V} {qs : List (Int × Int)}, PrsP K H xs qs → PrsP K H' xs qs
  | [], [], _ => trivial
  | _ :: _, _ :: _, ⟨⟨p, h1, h2⟩, h⟩ => ⟨⟨p, h1, pair_sR h2 e⟩, prs_sR e h⟩
  | [], _ :: _, h => h.elim
  | _ :: _, [], h => h.elim
theorem prs_appR {K : PySem.W.Frag} {H : Hp} : ∀ {xs ys : List V} {qs rs : List (Int × Int)}, PrsP K H xs qs → PrsP K H ys rs → PrsP K H (xs ++ ys) (qs ++ rs)
  | [], _, [], _, _, h => h
  | _ :: _, _, _ :: _, _, ⟨h1, h2⟩, h => ⟨h1, prs_appR h2 h⟩
  | [], _, _ :: _, _, h, _ => h.elim
  | _ :: _, _, [], _, h, _ => h.elim
theorem prs_butR {K : PySem.W.Frag} {l : Addr} {H H' : Hp} {zs : List V} (hl : H l = some (.lst zs)) (e : SmX l H H') : ∀ {xs : List V} {qs : List (Int × Int)}, PrsP K H xs qs → PrsP K H' xs qs
  | [], [], _ => trivial
  | _ :: _, _ :: _, ⟨⟨p, h1, h2⟩, h⟩ => ⟨⟨p, h1, pair_but h2 hl e⟩, prs_butR hl e h⟩
  | [], _ :: _, h => h.elim
  | _ :: _, [], h => h.elim
theorem prs_dps {K : PySem.W.Frag} {H : Hp} : ∀ {xs : List V} {qs : List (Int × Int)}, PrsP K H xs qs → DpAll K H xs (qs.map dP)
  | [], [], _ => .nil
  | _ :: _, _ :: _, ⟨⟨p, h1, h2⟩, h⟩ => by
    rw [h1]
    exact .cons (dP_mk h2) (prs_dps h)
  | [], _ :: _, h => h.elim
  | _ :: _, [], h => h.elim
theorem eqvs_prs : ∀ {ps qs : List (Int × Int)}, PyData.eqvAll (ps.map dP) (qs.map dP) = decide (ps = qs)
  | [], [] => by simp [PyData.eqvAll]
  | [], q :: qs => by simp [PyData.eqvAll]
  | p :: ps, [] => by simp [PyData.eqvAll]
  | p :: ps, q :: qs => by
    show (PyData.eqv (dP p) (dP q) && PyData.eqvAll (ps.map dP) (qs.map dP)) = _
    rw [eqv_dPq, eqvs_prs]
    by_cases c1 : p = q <;> by_cases c2 : ps = qs <;> simp [c1, c2]
theorem eqv_prs {ps qs : List (Int × Int)} : PyData.eqv (.list (ps.map dP)) (.list (qs.map dP)) = decide (ps = qs) := by
  simp only [PyData.eqv]
  exact eqvs_prs
end Tk

namespace Tk
open PySem PySem.Spec PyProof.Rows L2
/-! ## repr of a list that holds an own object -/
/-- the lists under repr hold an own object each -/
def GuardOk (g : List Code) (H : Hp) : Prop := ∀ (id : String) (v : Value) (rest : List Value) (kw : List (Str × Value)), Code.builtin id ⟨v :: rest, kw⟩ ∈ g →
  ∃ (a p : Addr) (xs : List V) (C dx : Addr) (fs : List (Str × V)), v = .ref a ∧ H a = some (.lst xs) ∧ V.ref p ∈ xs ∧ H p = some (.ins C dx fs)
theorem guard_nil (H : Hp) : GuardOk [] H := fun _ _ _ _ h => nomatch h
theorem guard_s {g : List Code} {H H' : Hp} (h : GuardOk g H) (e : Same H H') : GuardOk g H' := fun id v rest kw hm => by
  obtain ⟨a, p, xs, C, dx, fs, h1, h2, h3, h4⟩ := h id v rest kw hm
  exact ⟨a, p, xs, C, dx, fs, h1, e _ _ h2, h3, e _ _ h4⟩
theorem vals_mem {p : Addr} : ∀ {xs : List V} {us : List Value}, Vals xs us → V.ref p ∈ xs → Value.ref p ∈ us
  | _, _, .nil, h => nomatch h
  | _, _, .cons r t, h => by
    rcases List.mem_cons.mp h with e | h
    · subst e
      cases r
      exact List.mem_cons_self ..
    · exact List.mem_cons_of_mem _ (vals_mem t h)
theorem reads_mem {h : Heap} {v : Value} : ∀ {vs : List Value} {ds : List PyData} {as : List Addr}, ReadsAll h vs ds as → v ∈ vs → ∃ d bs, Reads h v d bs
  | _, _, _, .nil, m => nomatch m
  | _, _, _, .cons r t, m => by
    rcases List.mem_cons.mp m with e | m
    · subst e
      exact ⟨_, _, r⟩
    · exact reads_mem t m
theorem guard_clear {X : Cx} {pins : List (Addr × Obj)} {σ : L2.St} {H : Hp} {s : Shared} {g : List Code} {b : Addr} {d : PyData} {as : List Addr} (I : Inv X pins σ H s) (h : GuardOk g H) (r : Reads s.heap (.ref b) d as) : Clear g b := by
  intro id v rest kw hm e
  obtain ⟨a, p, xs, C, dx, fs, rfl, ha, hp, hi⟩ := h id v rest kw hm
  cases e
  obtain ⟨_, its, n, rv, _, ho⟩ := I.lstM ha
  obtain ⟨mA, J, _⟩ := ins_get I.hok hi
  have hoP := J.obj
  have hcP : (PySem.W.instObj C dx).cls = .ref C := rfl
  have m := vals_mem rv hp
  have noP : ∀ d bs, ¬ Reads s.heap (.ref p) d bs := by
    intro d bs r
    cases r with
    | list h1 h2 _ _ => rw [hoP] at h1; cases h1; exact nomatch (hcP.symm.trans h2)
    | tuple h1 h2 _ _ => rw [hoP] at h1; cases h1; exact nomatch (hcP.symm.trans h2)
    | dict h1 h2 _ _ _ => rw [hoP] at h1; cases h1; exact nomatch (hcP.symm.trans h2)
  cases r with
  | list h1 h2 h3 h4 =>
    rw [ho] at h1
    cases h1
    cases h3
    obtain ⟨d, bs, r⟩ := reads_mem h4 (by simpa using m)
    exact noP d bs r
  | tuple h1 h2 _ _ => rw [ho] at h1; cases h1; injection h2 with e; exact absurd e (by decide)
  | dict h1 h2 _ _ _ => rw [ho] at h1; cases h1; injection h2 with e; exact absurd e (by decide)
/-- promises of defs that are called while repr runs -/
structure FnC (P : Program) (w : World) (K : PySem.W.Frag) (mg : Str → Option Value) (base : Heap) (k : Nat) (f : Addr) (fd : FuncData) (ps : List Str) (sp : Sp) : Prop where
  len : ∀ vs H Q E, sp vs H Q E → vs.length = ps.length
  run : ∀ (g : List Code) (A : Around) (outer : List Env) (s : Shared) (H : Hp) (args : Args) (us : List Value) (vs : List V) (Q : VK) (E : XK),
    A.guards = some g → GuardOk g H → Room k A → Env0 P w K mg base A outer s H → BindsTo s fd args (ps.zip us) → Vals vs us → sp vs H Q E →
    codeAny (model P w) A (.call (.ref f) args) (CR CX0 outer P w H s Q E) s
theorem FnC.toG {P : Program} {w : World} {K : PySem.W.Frag} {mg : Str → Option Value} {base : Heap} {k : Nat} {f : Addr} {fd : FuncData} {ps : List Str} {sp : Sp} (F : FnC P w K mg base k f fd ps sp) : FnG P w K mg base k f fd ps sp :=
  ⟨F.len, fun A outer s H args us vs Q E hg => F.run [] A outer s H args us vs Q E hg (guard_nil H)⟩
section
variable {P : Program} {w : World} {K : PySem.W.Frag} {mg : Str → Option Value} {base : Heap}
theorem okC {nm qual : Str} {st : Stmt} {f : Addr} {fd : FuncData} {N ps : List Str} {k : Nat} {sp : Sp} (F : Fun K nm qual st f fd) (S : FnScope N ps (defScope st)) (len : ∀ vs H Q E, sp vs H Q E → vs.length = ps.length)
    (body : ∀ (cdv : Value) (g : List Code) (A : Around) (outer : List Env) (s : Shared) (H : Hp) (vs : List V) (Q : VK) (E : XK), A.guards = some g → GuardOk g H →
      Room k (A.deeper (envOfC qual (defScope st) s.heap.objs.size f cdv)) → sp vs H Q E →
      ∃ t, PSs (cxOf CX0 P w K mg base N qual (defScope st) f cdv A outer s H E).nox (defBody st) t ∧ t { nx := fun _ H' => Q .non H', rt := Q } (start N vs) H) :
    FnC P w K mg base (k + 1) f fd ps sp := by
  obtain ⟨oc, od, kV, doc, pm, an, cdv, ct, osl, rfl, lk, hcd⟩ := F.ex
  constructor
  · exact len
  intro g A outer s H args us vs Q E hgd hgo room en bnd vals hsp
  have nvs := len _ _ _ _ hsp
  have inK : K.In s.heap := en.mod.kin.keeps (fun b o z => (en.bs b o z).1)
  have noLim : s.heap.NoLimit := en.mod.nolimit.keeps (fun b o z => (en.bs b o z).1)
  have places : ∀ y ∈ ps.zip us, (defScope st).names.lookup y.1 = some .local ∨ ((defScope st).names.lookup y.1 = some .cell ∧ ((cellsFrom (s.heap.objs.size + 1) (defScope st).names []).lookup y.1).isSome = true) := by
    rintro ⟨n, v⟩ hy
    cases S.par n (List.of_mem_zip hy).1 with
    | inl l => exact Or.inl l
    | inr c => exact Or.inr ⟨c, PySem.W.cellsFrom_some _ _ _ (Or.inl c)⟩
  apply codeAny_call_function room.depth (inK _ _ lk) rfl S.co S.gen rfl (PySem.W.codeRec_of inK hcd)
  apply bnd
  apply wpAny_newFunctionEnv_cells S.kind places
  intro ev hev st1 ic
  subst hev
  refine ⟨noLim.keeps ic.toInCall.keep, ?_⟩
  apply codeAny_func
  obtain ⟨t, ht0, hq⟩ := body cdv g A outer s H vs Q E hgd hgo (room.deeper _) hsp
  have ht := ht0.nox
  have inv0 : Inv (cxOf CX0 P w K mg base N qual (defScope st) f cdv A outer s H E) [] (start N vs) H st1 := inv_start S room.hd en nvs vals ic
  have done : ∀ {σ' : L2.St} {H' : Hp} {v : V} {u : Value} {s' : Shared}, Inv (cxOf CX0 P w K mg base N qual (defScope st) f cdv A outer s H E) [] σ' H' s' → RelV v u → Q v H' → CE outer P w H s Q u s' := by
    intro σ' H' v u s' J rv q
    exact ⟨v, H', J.os, J.bare, J.base, J.hok, rv, q⟩
  refine wpAny_mono (ht.run [] st1 (start N vs) H _ inv0 hq) ?_ (fun e s' z => z)
  intro fl s' z
  cases fl with
  | next => obtain ⟨σ', H', J, q⟩ := z; exact done (v := V.non) (u := Value.none) J rfl q
  | ret u => obtain ⟨v, σ', H', J, rv, q⟩ := z; exact done J rv q
  | brk => obtain ⟨a1, a2, a3, q⟩ := z; exact q.elim
  | cont => obtain ⟨a1, a2, a3, q⟩ := z; exact q.elim
end
section
variable {X : Cx}
/-- an f-string's part that is a list of data, while repr runs -/
def tFmtC (K : PySem.W.Frag) (g : List Code) (te : TE) : TE := fun σ H Q => te σ H fun x H1 => ∃ (a : Addr) (ds : List PyData), x = .ref a ∧ GuardOk g H1 ∧ Dp K H1 (.ref a) (.list ds) ∧ (PyData.list ds).showable = true ∧ (PyData.list ds).hasDict = false ∧ (PyData.list ds).depth ≤ 50 ∧ (PyData.list ds).shown.length ≤ sizeLine ∧ Q (.str (PyData.list ds).shown) H1
theorem pe_fmtC {e : Expr} {te : TE} {pos : Pos} {g : List Code} (hgd : X.A.guards = some g) (hu : X.A.units + 64 < cLine) (he : PE X e te) : PE X (.FormattedValue e (-1) none pos) (tFmtC X.K g te) := by
  refine ⟨fun pins s σ H Q I h => ?_⟩
  refine wpAny_FormattedValue_plain (thn (he.run pins s σ H _ I h) fun v s1 hv => ?_)
  obtain ⟨x, H1, I1, r1, a, ds, rfl, go, hd, hs, hn, hdp, hz, q⟩ := hv
  cases r1
  obtain ⟨as, rd⟩ := Dp.reads I1 (.list ds) (.ref a) (.ref a) hd rfl
  have fin : ∀ (h' : Heap) (u tk : Tok), (∀ b o, s1.heap.get? b = some o → h'.get? b = some o) → ∃ y t, Value.str (PyData.list ds).shown u = .str y t ∧ EP X pins σ Q (.str (PyData.list ds).shown u) { s1 with heap := h', toks := tk } := fun h' u tk keep =>
    ⟨_, _, rfl, .str (PyData.list ds).shown, H1, I1.kept keep, ⟨u, rfl⟩, q⟩
  cases rd with
  | @list _ o vs n _ as' h1 h2 h3 h4 =>
    have hz' : (listText (PyData.shownAll ds)).length ≤ sizeLine := by simpa only [PyData.shown] using hz
    obtain ⟨bs, hb, hk⟩ := ReprAllK.of_readsAll (prog := X.prog) (w := X.w) h4 (by simpa [PyData.showable] using hs) (fun hx => by simp only [PyData.hasDict] at hn; rw [hn] at hx; cases hx) (fun t ht => Nat.le_trans (listText_mem_le ht) hz')
    have hna : a ∉ bs := not_mem_of_deeper (.list h1 h2 h3 h4) (by simp only [PyData.depth]; omega) hb
    have clr : ∀ b ∈ a :: bs, Clear g b := by
      intro b hm
      rcases List.mem_cons.mp hm with e | hm
      · rw [e]; exact guard_clear I1 go (.list h1 h2 h3 h4)
      · obtain ⟨d', as'', r', _⟩ := hb b hm
        exact guard_clear I1 go r'
    refine wpAny_formatField_slot (T := "list") (fun _ _ => nofun) (by omega) ⟨o, h1, h2⟩ F.slot_list_format F.slot_list_str F.slot_list_repr.toG ?_
    simp only [PyData.depth] at hdp
    simp only [PyData.shown] at fin
    obtain ⟨l⟩ := vs
    cases l with
    | nil =>
      have h4' : ReadsAll s1.heap [] ds _ := h4
      cases h4'
      simp only [PyData.shownAll, listText_nil] at fin
      exact call_list_repr_empty ⟨o, h1, h2⟩ h1 h3 (fin s1.heap _ _ fun _ _ e => e)
    | cons x l =>
      exact call_list_reprK h1 h2 h3 hna (by simpa using hk.length_eq) (fun i y e => hk.item i y (by simpa using e)) hgd clr (by show X.A.units + 1 + 1 + _ < cLine; omega) (fun _ _ e => e) (fun h' u tk keep => fin h' u tk keep) hz'
end
section
variable {prog : Program} {w : World} {A : Around} {E : Value → Shared → Prop} {s : Shared} {K : PySem.W.Frag} {h₀ : Heap} {L x C f : Addr} {ox : Obj} {od : Option Obj} {m : Str → Option Value}
theorem boundBy_own {last : Value → List Value → Sem Value} {name : Str} {Q : Option Value → Shared → Prop} (X : K.In s.heap) (I : PySem.W.InstAt s.heap x ox C od) (hs : PySem.W.findIn K (.ref C) name = some (some (.ref f))) (hf : PySem.W.isFn K (.ref f) = true)
    (h : wpAny (model prog w) A (last (.ref f) [.ref x]) (fun v => Q (some v)) E s) : wpAny (model prog w) A (callSpecialIfBoundBy? last (.ref x) name) Q E s := by
  simp only [callSpecialIfBoundBy?, bindSpecialIfBound?]
  refine wpAny_holding (wpAny_bind (wpAny_bind (wpAny_bind (I.type.here ((PySem.W.looks_findIn X hs).here ?_)))))
  refine wpAny_bind (wpAny_askSetting (wpAny_ite ?_))
  have fin : wpAny (model prog w) A (last (.ref f) [.ref x] >>= fun v => pure (some v)) Q E s := wpAny_bind (wpAny_mono h (fun v s' h' => wpAny_pure h') fun _ _ h' => h')
  split
  · exact wpAny_bind ((PySem.W.bind_fn X _ (beq_iff_eq.mp hf)).here (wpAny_pure (by exact fin)))
  · exact wpAny_tryCatch (wpAny_bind ((PySem.W.bind_fn X _ (beq_iff_eq.mp hf)).here (wpAny_pure (by exact fin))))
theorem under_own {b : Nat} {Q : Str → Shared → Prop} (hb : b ≤ sizeLine) (hu : A.units < cLine) (X : K.In s.heap) (I : PySem.W.InstAt s.heap x ox C od) (hs : PySem.W.findIn K (.ref C) "__repr__" = some (some (.ref f))) (hf : PySem.W.isFn K (.ref f) = true)
    (h : wpAny (model prog w) A (call (.ref f) [.ref x]) (fun v s' => ∃ t u, v = .str t u ∧ Q t s') E s) : wpAny (model prog w) A (pyReprUnder b (.ref x)) Q E s := by
  refine wpAny_pyReprUnder_ref hb ?_
  unfold pyReprObjUnder pyReprObjBy
  refine wpAny_bind (wpAny_cRoomFor hu ?_)
  refine wpAny_bind (wpAny_bind (I.type.here ((PySem.W.looks_findIn X hs).here ?_)))
  show wpAny _ _ (if (some (Value.ref f)).isNone = true then _ else _) _ _ _
  rw [if_neg (by simp)]
  refine wpAny_bind (m := callSpecialIfBoundBy? _ (.ref x) (Str.ofString "__repr__")) (boundBy_own X I hs hf ?_)
  refine wpAny_mono h (fun v s' hv => ?_) fun _ _ e => e
  obtain ⟨t, u, rfl, q⟩ := hv
  refine wpAny_bind (wpAny_isInstance (typeIs_str _ _ _) isSubtype_str_str ?_)
  first
    | exact wpAny_pure ⟨_, _, rfl, q⟩
    | (rw [if_pos rfl]; exact wpAny_pure ⟨_, _, rfl, q⟩)
end
theorem room_loop {k : Nat} {A : Around} {args : Args} (r : Room (k + 1) A) : Room k (A.under (.builtin "list.__repr__.loop" args)) := by
  have e1 : (A.under (.builtin "list.__repr__.loop" args)).units = A.units + 1 := units_under_list_loop A args
  have e2 : (A.under (.builtin "list.__repr__.loop" args)).depth ≤ A.depth + 1 := by
    show A.depth + (Code.builtin "list.__repr__.loop" args).weight ≤ A.depth + 1
    have : (Code.builtin "list.__repr__.loop" args).weight ≤ 1 := by
      simp [Code.weight, Code.isCreation, Code.isGuard, Code.isCaller, Code.frames, Code.isFrame, guardIds]
    omega
  exact ⟨r.hd, by have := r.dp; omega, by have := r.un; omega⟩
section
variable {X : Cx}
theorem run_ownC {k : Nat} {f : Addr} {fd : FuncData} {ps : List Str} {sp : Sp} {g : List Code} {pins : List (Addr × Obj)} {σ : L2.St} {H : Hp} {s : Shared} {A : Around} {us : List Value} {vs : List V} {Q : VK} (F : FnC X.prog X.w X.K X.mg X.base k f fd ps sp) (hgd : A.guards = some g) (hgo : GuardOk g H) (hr : Room k A) (hfr : A.frames = X.A.frames) (hb : Binds X.K fd ps []) (I : Inv X pins σ H s) (r : Vals vs us) (q : sp vs H Q fun _ _ _ => False) :
    wpAny (model X.prog X.w) A (call (.ref f) us) (EP X pins σ Q) X.xe s := by
  have e0 : Env0 X.prog X.w X.K X.mg X.base A X.stack s H := by
    have e := I.env0
    exact ⟨by rw [hfr]; exact e.frames, e.mod, e.bs, e.bsz, e.funs, e.frf, e.hok, e.bare⟩
  have hl : us.length = ps.length := by rw [← r.length]; exact F.len _ _ _ _ q
  refine wpAny_call (codeAny_mono (F.run g A X.stack s H ⟨us, []⟩ us vs _ _ hgd hgo hr e0 (by
    have := hb s us I.kIn (by simpa using hl)
    simpa using this) r q) fun r s' hq => ?_)
  cases r with
  | error e => exact False.elim hq
  | ok fl =>
    cases fl with
    | ret w' => exact I.after hq
    | next => exact False.elim hq
    | brk => exact False.elim hq
    | cont => exact False.elim hq
end
end Tk

namespace Tk
open PySem PySem.Spec PyProof.Rows L2
/-- repr of a list of an own object and data -/
def rRep2 (K : PySem.W.Frag) (C : Addr) (sp : Sp) : List V → Hp → VK → Prop := fun xs H Q => ∃ (a p : Addr) (y : V) (d : PyData) (dx : Addr) (fs : List (Str × V)) (t : Str), xs = [.ref a] ∧ H a = some (.lst [.ref p, y]) ∧ H p = some (.ins C dx fs) ∧ Dp K H y d ∧ d.showable = true ∧ d.hasDict = false ∧ d.depth ≤ 50 ∧
  t.length + d.shown.length + 100 ≤ sizeLine ∧ (∀ (H0 : Hp) (R : VK), Same H H0 → (∀ H', Same H0 H' → R (.str t) H') → sp [.ref p] H0 R fun _ _ _ => False) ∧ ∀ H', Same H H' → Q (.str (listText [t, d.shown])) H'
section
variable {X : Cx}
theorem call_repr2 {k : Nat} {C f : Addr} {fd : FuncData} {ps : List Str} {sp : Sp} (h1 : PySem.W.findIn X.K (.ref C) "__repr__" = some (some (.ref f))) (h2 : PySem.W.isFn X.K (.ref f) = true) (F : FnC X.prog X.w X.K X.mg X.base k f fd ps sp) (hgd : X.A.guards = some []) (hr : Room (k + 2) X.A) (hb : Binds X.K fd ps []) :
    CallR X (.builtin "repr") (rRep2 X.K C sp) := by
  intro pins s σ H xs us Q I r hq
  obtain ⟨a, p, y, d, dx, fs, t, rfl, ha, hp, hd, hs, hn, hdp, hz, run, q⟩ := hq
  obtain rfl : us = [Value.ref a] := Vals.ref1 r
  obtain ⟨_, its, n, rv, _, ho⟩ := I.lstM ha
  obtain ⟨u, rfl, ru⟩ : ∃ u, its = [Value.ref p, u] ∧ RelV y u := by
    cases rv with
    | cons r1 r2 =>
      cases r1
      cases r2 with
      | cons r3 r4 =>
        cases r4
        exact ⟨_, rfl, r3⟩
  have hun := hr.un
  have hzt : (listText [t, d.shown]).length ≤ sizeLine := by
    have e1 : (listText [t, d.shown]).length = t.length + d.shown.length + 4 := by
      show (((((Str.ofString "[" ++ Str.ofString "") ++ t) ++ Str.ofString ", ") ++ d.shown) ++ Str.ofString "]").length = _
      rw [strLen_append, strLen_append, strLen_append, strLen_append, strLen_append]
      have l1 : (Str.ofString "[").length = 1 := by decide +kernel
      have l2 : (Str.ofString "").length = 0 := by decide +kernel
      have l3 : (Str.ofString ", ").length = 2 := by decide +kernel
      have l4 : (Str.ofString "]").length = 1 := by decide +kernel
      omega
    omega
  refine call_repr_slot (T := "list") (idr := "list.__repr__") (by omega) ⟨_, ho, rfl⟩ PySem.F.slot_list_repr.toG ?_
  refine wpAny_call (codeAny_call_builtin PySem.F.slot_list_repr.plain PySem.F.entry_list_repr (PySem.F.slot_list_repr.check _ _ _ _ _ _ _ _ ⟨_, ho, rfl⟩ (PySem.F.args_list_repr_1 _) ?_))
  refine wpAny_list_repr_head (A := X.A.in1.in1) (g := []) (b := 0) hgd (fun _ _ _ h => nomatch h) ho rfl ?_
  refine wpAny_bind (m := newList []) (wpAny_newObj_type ?_)
  refine wpAny_pure ⟨PySem.F.quiet_list_repr_loop _, ?_⟩
  have hP : H s.heap.objs.size = none := I.fresh
  have J0 : Inv X pins σ (upd H s.heap.objs.size (.lst [])) { s with heap := s.heap.push { cls := .type "list", data := .seq ([] : List Value).toArray } } := I.lnew (its := []) .nil (by decide)
  have ho0 := Heap.get?_push_of_some { cls := .type "list", data := .seq ([] : List Value).toArray } ho
  have s0 : Same H (upd H s.heap.objs.size (.lst [])) := same_new hP
  have hP0 : (upd H s.heap.objs.size (.lst [])) s.heap.objs.size = some (.lst []) := upd_same
  generalize s.heap.objs.size = P at hP J0 s0 hP0
  -- the object
  refine codeAny_builtin PySem.F.entry_list_repr_loop ?_
  show wpAny _ _ (Builtin.«list.__repr__.loop» ⟨[.ref a, .int 0 0, .ref P, .int 0 0], []⟩) _ _ _
  rw [repr_loop_tree]
  refine wpAny_bind (wpAny_listItems ho0 rfl ?_)
  show wpAny _ _ (do
      let s ← holding [Value.ref p] (pyReprUnder ((0 : Int).toNat + 1) (Value.ref p))
      let signs := (0 : Int).toNat + (s.length + 2)
      let r ← mkStr s
      Builtin.List.listUpdate (.ref P) (·.push r)
      again (.builtin "list.__repr__.loop" ⟨[.ref a, rawInt (0 + 1), .ref P, rawInt signs], []⟩)) _ _ _
  obtain ⟨mA, O, _⟩ := ins_get J0.hok (s0 _ _ hp)
  obtain ⟨od, O, _⟩ := O.look
  have go0 : GuardOk [Code.builtin "list.__repr__.loop" ⟨[.ref a, .int 0 0, .ref P, .int 0 0], []⟩] (upd H P (.lst [])) := fun id v rest kw hm => by
    cases List.mem_singleton.mp hm
    exact ⟨a, p, _, C, dx, fs, rfl, s0 _ _ ha, List.mem_cons_self .., s0 _ _ hp⟩
  have g0 : (X.A.in1.under (.builtin "list.__repr__.loop" ⟨[.ref a, .int 0 0, .ref P, .int 0 0], []⟩)).guards = some [Code.builtin "list.__repr__.loop" ⟨[.ref a, .int 0 0, .ref P, .int 0 0], []⟩] := guards_under_guard (isGuard_list_loop _) hgd
  have room0 : Room k (X.A.in1.under (.builtin "list.__repr__.loop" ⟨[.ref a, .int 0 0, .ref P, .int 0 0], []⟩)) := room_loop (r := (hr.in1 : Room (k + 1) X.A.in1))
  refine wpAny_bind (wpAny_holding (under_own (by show 1 ≤ sizeLine; omega) room0.units0 J0.kIn O h1 h2 ?_))
  refine wpAny_mono (run_ownC (vs := [V.ref p]) (us := [Value.ref p]) F g0 go0 room0 rfl hb J0 (.cons rfl .nil) (run _ (fun v H1 => v = .str t ∧ Same (upd H P (.lst [])) H1) s0 fun H1 e => ⟨rfl, e⟩)) (fun v s1 hv => ?_) fun _ _ e => ?_
  · obtain ⟨z, H1, J1, rz, rfl, e1⟩ := hv
    obtain ⟨tk0, rfl⟩ := rz
    refine ⟨t, tk0, rfl, ?_⟩
    refine wpAny_bind (wpAny_mkStr ?_ (by omega))
    refine wpAny_bind ?_
    show wpAny _ _ (updateSeq P _) _ _ _
    obtain ⟨_, itsP, nP, rvP, _, hoP⟩ := J1.lstM (e1 _ _ hP0)
    cases rvP
    refine wpAny_updateSeq hoP rfl (wpAny_pure ⟨PySem.F.quiet_list_repr_loop _, ?_⟩) (by simp)
    have J2 := J1.lset (its' := [.str t s1.toks]) (ys := [.str t]) (t' := s1.toks + 1) (f := (·.push (.str t s1.toks))) (e1 _ _ hP0) hoP (by simp) (.cons ⟨_, rfl⟩ .nil) (szle (by show 1 ≤ 100000; decide))
    have s2 : Same H (upd H1 P (.lst [.str t])) := same_mut (s0.trans e1) hP
    have hP2 : (upd H1 P (.lst [.str t])) P = some (.lst [.str t]) := upd_same
    show codeAny _ _ (.builtin "list.__repr__.loop" ⟨[.ref a, .int 1 0, .ref P, .int (((0 : Int).toNat + (t.length + 2) : Nat) : Int) 0], []⟩) _ { s1 with heap := s1.heap.update P (Obj.mapSeq (·.push (.str t s1.toks))), toks := s1.toks + 1 }
    have eN : (0 : Int).toNat + (t.length + 2) = t.length + 2 := by simp
    rw [eN]
    generalize ({ s1 with heap := s1.heap.update P (Obj.mapSeq (·.push (.str t s1.toks))), toks := s1.toks + 1 } : Shared) = t1 at J2
    generalize upd H1 P (.lst [.str t]) = H2 at J2 s2 hP2
    -- the data
    obtain ⟨_, itsA, nA, rvA, _, hoA⟩ := J2.lstM (s2 _ _ ha)
    obtain ⟨u, rfl, ru⟩ : ∃ u, itsA = [Value.ref p, u] ∧ RelV y u := by
      cases rvA with
      | cons r1 r2 =>
        cases r1
        cases r2 with
        | cons r3 r4 =>
          cases r4
          exact ⟨_, rfl, r3⟩
    refine codeAny_builtin PySem.F.entry_list_repr_loop ?_
    show wpAny _ _ (Builtin.«list.__repr__.loop» ⟨[.ref a, .int 1 0, .ref P, .int ((t.length + 2 : Nat) : Int) 0], []⟩) _ _ _
    rw [repr_loop_tree]
    refine wpAny_bind (wpAny_listItems hoA rfl ?_)
    show wpAny _ _ (do
      let s ← holding [u] (pyReprUnder ((((t.length + 2 : Nat) : Int)).toNat + 1) u)
      let signs := (((t.length + 2 : Nat) : Int)).toNat + (s.length + 2)
      let r ← mkStr s
      Builtin.List.listUpdate (.ref P) (·.push r)
      again (.builtin "list.__repr__.loop" ⟨[.ref a, rawInt (1 + 1), .ref P, rawInt signs], []⟩)) _ _ _
    rw [Int.toNat_natCast]
    have go1 : GuardOk [Code.builtin "list.__repr__.loop" ⟨[.ref a, .int 1 0, .ref P, .int ((t.length + 2 : Nat) : Int) 0], []⟩] H2 := fun id v rest kw hm => by
      cases List.mem_singleton.mp hm
      exact ⟨a, p, _, C, dx, fs, rfl, s2 _ _ ha, List.mem_cons_self .., s2 _ _ hp⟩
    have g1 : (X.A.in1.under (.builtin "list.__repr__.loop" ⟨[.ref a, .int 1 0, .ref P, .int ((t.length + 2 : Nat) : Int) 0], []⟩)).guards = some [Code.builtin "list.__repr__.loop" ⟨[.ref a, .int 1 0, .ref P, .int ((t.length + 2 : Nat) : Int) 0], []⟩] := guards_under_guard (isGuard_list_loop _) hgd
    have room1 : Room k (X.A.in1.under (.builtin "list.__repr__.loop" ⟨[.ref a, .int 1 0, .ref P, .int ((t.length + 2 : Nat) : Int) 0], []⟩)) := room_loop (r := (hr.in1 : Room (k + 1) X.A.in1))
    obtain ⟨as, rd⟩ := Dp.reads J2 d y u (dp_s hd s2) ru
    obtain ⟨bs, hbs, hk⟩ := ReprK.of_reads (prog := X.prog) (w := X.w) rd hs (PyData.noDict_hsm hn) (by omega)
    refine wpAny_bind (wpAny_holding (hk (t.length + 2 + 1) (by omega) _ _ _ _ _ g1 (fun b hm => ?_) (by have := room1.un; omega) (fun _ _ e => e) fun h' tk keep => ?_))
    · obtain ⟨d', as', r', _⟩ := hbs b hm
      exact guard_clear J2 go1 r'
    have J3 : Inv X pins σ H2 { t1 with heap := h', toks := tk } := J2.kept keep
    refine wpAny_bind (wpAny_mkStr ?_ (by omega))
    refine wpAny_bind ?_
    show wpAny _ _ (updateSeq P _) _ _ _
    obtain ⟨_, itsP, nP, rvP, _, hoP⟩ := J3.lstM hP2
    obtain ⟨t0, rfl⟩ : ∃ t0, itsP = [.str t t0] := by
      cases rvP with
      | cons r1 r2 =>
        cases r2
        obtain ⟨t0, rfl⟩ := r1
        exact ⟨t0, rfl⟩
    refine wpAny_updateSeq hoP rfl (wpAny_pure ⟨PySem.F.quiet_list_repr_loop _, ?_⟩) (szle (by show 1 ≤ 100000; decide))
    have J4 := J3.lset (its' := [.str t t0, .str d.shown tk]) (ys := [.str t, .str d.shown]) (t' := tk + 1) (f := (·.push (.str d.shown tk))) hP2 hoP (by simp) (.cons ⟨_, rfl⟩ (.cons ⟨_, rfl⟩ .nil)) (szle (by show 2 ≤ 100000; decide))
    have s4 : Same H (upd H2 P (.lst [.str t, .str d.shown])) := same_mut s2 hP
    have hP4 : (upd H2 P (.lst [.str t, .str d.shown])) P = some (.lst [.str t, .str d.shown]) := upd_same
    show codeAny _ _ (.builtin "list.__repr__.loop" ⟨[.ref a, .int 2 0, .ref P, .int ((t.length + 2 + (d.shown.length + 2) : Nat) : Int) 0], []⟩) _ { t1 with heap := h'.update P (Obj.mapSeq (·.push (.str d.shown tk))), toks := tk + 1 }
    generalize ({ t1 with heap := h'.update P (Obj.mapSeq (·.push (.str d.shown tk))), toks := tk + 1 } : Shared) = t2 at J4
    generalize upd H2 P (.lst [.str t, .str d.shown]) = H4 at J4 s4 hP4
    -- the end
    obtain ⟨_, itsA, nA, rvA, _, hoA⟩ := J4.lstM (s4 _ _ ha)
    obtain ⟨u4, rfl, ru4⟩ : ∃ u, itsA = [Value.ref p, u] ∧ RelV y u := by
      cases rvA with
      | cons r1 r2 =>
        cases r1
        cases r2 with
        | cons r3 r4 =>
          cases r4
          exact ⟨_, rfl, r3⟩
    obtain ⟨_, itsP, nP, rvP, _, hoP⟩ := J4.lstM hP4
    obtain ⟨t0, t1', rfl⟩ : ∃ t0 t1, itsP = [.str t t0, .str d.shown t1] := by
      cases rvP with
      | cons r1 r2 =>
        obtain ⟨t0, rfl⟩ := r1
        cases r2 with
        | cons r3 r4 =>
          cases r4
          obtain ⟨t1, rfl⟩ := r3
          exact ⟨t0, t1, rfl⟩
    refine codeAny_builtin PySem.F.entry_list_repr_loop ?_
    show wpAny _ _ (Builtin.«list.__repr__.loop» ⟨[.ref a, .int 2 0, .ref P, .int ((t.length + 2 + (d.shown.length + 2) : Nat) : Int) 0], []⟩) _ _ _
    rw [repr_loop_tree]
    refine wpAny_bind (wpAny_listItems hoA rfl ?_)
    show wpAny _ _ (reprEnd (.ref P)) _ _ _
    unfold reprEnd
    refine wpAny_bind (wpAny_listItems hoP rfl ?_)
    have eL : ([.str t t0, .str d.shown t1'] : List Value).toArray.toList = strValues [(t, t0), (d.shown, t1')] := rfl
    rw [eL, repr_fold]
    refine wpAny_bind (wpAny_pure ?_)
    refine wpAny_bind (wpAny_mkStr (wpAny_pure ?_) hzt)
    exact ⟨_, _, rfl, .str (listText [t, d.shown]), H4, J4.tok _, ⟨_, rfl⟩, q H4 s4⟩
  · exact e
end
end Tk

namespace Tk
open PySem PySem.Spec PyProof.Rows L2
/-! ## repr of lists and tuples, one in another, that hold own objects -/
mutual
/-- v shows as t; lists and tuples lie n deep -/
inductive Tx (R : Hp → Addr → Str → Prop) (H : Hp) : V → Str → Nat → Prop
  | int (i : Int) (h : (PyData.int i).showable = true) : Tx R H (.int i) (PyData.int i).shown 0
  | bl (b : Bool) : Tx R H (.bl b) (PyData.bool b).shown 0
  | non : Tx R H .non PyData.none.shown 0
  | own {p : Addr} {t : Str} (h : R H p t) : Tx R H (.ref p) t 0
  | lst {a : Addr} {xs : List V} {ts : List Str} {n : Nat} (h : H a = some (.lst xs)) (f : xs.length ≤ 1000) (g : TxA R H xs ts n) : Tx R H (.ref a) (listText ts) (n + 1)
  | tup {a : Addr} {xs : List V} {ts : List Str} {n : Nat} (h : H a = some (.tup xs)) (f : xs.length ≤ 1000) (g : TxA R H xs ts n) : Tx R H (.ref a) (tupleText ts) (n + 1)
inductive TxA (R : Hp → Addr → Str → Prop) (H : Hp) : List V → List Str → Nat → Prop
  | nil : TxA R H [] [] 0
  | cons {x : V} {t : Str} {m : Nat} {xs : List V} {ts : List Str} {n : Nat} (h : Tx R H x t m) (g : TxA R H xs ts n) : TxA R H (x :: xs) (t :: ts) (max m n)
end
/-- what R says of the objects of the class at C, whose __repr__ keeps the promise sp -/
structure Shows (C : Addr) (R : Hp → Addr → Str → Prop) (sp : Sp) : Prop where
  st : ∀ {H H' : Hp} {p : Addr} {t : Str}, R H p t → Same H H' → R H' p t
  ins : ∀ {H : Hp} {p : Addr} {t : Str}, R H p t → ∃ (dx : Addr) (fs : List (Str × V)), H p = some (.ins C dx fs)
  run : ∀ {H : Hp} {p : Addr} {t : Str} {Q : VK}, R H p t → (∀ H', Same H H' → Q (.str t) H') → sp [.ref p] H Q fun _ _ _ => False
section
variable {C : Addr} {R : Hp → Addr → Str → Prop} {sp : Sp}
theorem txa_len {H : Hp} : ∀ {xs : List V} {ts : List Str} {n : Nat}, TxA R H xs ts n → xs.length = ts.length
  | [], _, _, h => by cases h; rfl
  | x :: xs, _, _, h => by
    cases h with
    | cons h g => rw [List.length_cons, List.length_cons, txa_len g]
theorem txa_at {H : Hp} : ∀ {xs : List V} {ts : List Str} {n : Nat}, TxA R H xs ts n → ∀ (i : Nat) (x : V), xs[i]? = some x → ∃ t m, ts[i]? = some t ∧ Tx R H x t m ∧ m ≤ n
  | [], _, _, h, i, x, e => by simp at e
  | y :: xs, _, _, h, i, x, e => by
    cases h with
    | cons h g =>
      cases i with
      | zero =>
        simp at e
        subst e
        exact ⟨_, _, rfl, h, Nat.le_max_left _ _⟩
      | succ i =>
        obtain ⟨t, m, e1, e2, e3⟩ := txa_at g i x (by simpa using e)
        exact ⟨t, m, by simpa using e1, e2, Nat.le_trans e3 (Nat.le_max_right _ _)⟩
theorem txa_s' {H H' : Hp} {n : Nat} (ih : ∀ m, m ≤ n → ∀ v t, Tx R H v t m → Tx R H' v t m) : ∀ {xs : List V} {ts : List Str} {k : Nat}, k ≤ n → TxA R H xs ts k → TxA R H' xs ts k
  | [], _, _, _, h => by cases h; exact .nil
  | x :: xs, _, _, hk, h => by
    cases h with
    | cons h g => exact .cons (ih _ (Nat.le_trans (Nat.le_max_left _ _) hk) _ _ h) (txa_s' ih (Nat.le_trans (Nat.le_max_right _ _) hk) g)
theorem tx_s (Z : Shows C R sp) {H H' : Hp} (e : Same H H') : ∀ (n : Nat) (v : V) (t : Str), Tx R H v t n → Tx R H' v t n := by
  intro n
  induction n using Nat.strongRecOn with
  | ind n ih =>
    intro v t h
    cases h with
    | int i h => exact .int i h
    | bl b => exact .bl b
    | non => exact .non
    | own h => exact .own (Z.st h e)
    | lst h f g => exact .lst (e _ _ h) f (txa_s' (fun m hm => ih m (Nat.lt_succ_of_le hm)) (Nat.le_refl _) g)
    | tup h f g => exact .tup (e _ _ h) f (txa_s' (fun m hm => ih m (Nat.lt_succ_of_le hm)) (Nat.le_refl _) g)
theorem txa_s (Z : Shows C R sp) {H H' : Hp} (e : Same H H') {xs : List V} {ts : List Str} {n : Nat} (h : TxA R H xs ts n) : TxA R H' xs ts n := txa_s' (fun m _ => tx_s Z e m) (Nat.le_refl _) h
theorem txa_uq {H : Hp} {n : Nat} (ih : ∀ m, m ≤ n → ∀ v t, Tx R H v t m → ∀ t' m', Tx R H v t' m' → m = m') : ∀ {xs : List V} {ts ts' : List Str} {k k' : Nat}, k ≤ n → TxA R H xs ts k → TxA R H xs ts' k' → k = k'
  | [], _, _, _, _, _, h, h' => by cases h; cases h'; rfl
  | x :: xs, _, _, _, _, hk, h, h' => by
    cases h with
    | cons h g =>
      cases h' with
      | cons h' g' => rw [ih _ (Nat.le_trans (Nat.le_max_left _ _) hk) _ _ h _ _ h', txa_uq ih (Nat.le_trans (Nat.le_max_right _ _) hk) g g']
theorem tx_uq (Z : Shows C R sp) {H : Hp} : ∀ (n : Nat) (v : V) (t : Str), Tx R H v t n → ∀ (t' : Str) (m : Nat), Tx R H v t' m → n = m := by
  intro n
  induction n using Nat.strongRecOn with
  | ind n ih =>
    intro v t h t' m h'
    cases h with
    | int i h => cases h'; rfl
    | bl b => cases h'; rfl
    | non => cases h'; rfl
    | own h =>
      obtain ⟨dx, fs, e⟩ := Z.ins h
      cases h' with
      | own _ => rfl
      | lst h' _ _ => rw [e] at h'; cases h'
      | tup h' _ _ => rw [e] at h'; cases h'
    | lst h _ g =>
      cases h' with
      | own h' => obtain ⟨dx, fs, e⟩ := Z.ins h'; rw [e] at h; cases h
      | lst h' _ g' =>
        rw [h] at h'
        cases h'
        rw [txa_uq (fun m hm => ih m (Nat.lt_succ_of_le hm)) (Nat.le_refl _) g g']
      | tup h' _ _ => rw [h] at h'; cases h'
    | tup h _ g =>
      cases h' with
      | own h' => obtain ⟨dx, fs, e⟩ := Z.ins h'; rw [e] at h; cases h
      | tup h' _ g' =>
        rw [h] at h'
        cases h'
        rw [txa_uq (fun m hm => ih m (Nat.lt_succ_of_le hm)) (Nat.le_refl _) g g']
      | lst h' _ _ => rw [h] at h'; cases h'
end
/-- the lists and tuples under repr lie deeper than n -/
def GuardT (R : Hp → Addr → Str → Prop) (H : Hp) (n : Nat) (g : List Code) : Prop := ∀ (id : String) (v : Value) (rest : List Value) (kw : List (Str × Value)), Code.builtin id ⟨v :: rest, kw⟩ ∈ g → ∃ (a : Addr) (t : Str) (m : Nat), v = .ref a ∧ Tx R H (.ref a) t m ∧ n < m
/-- the repr of v under another one's: t -/
def ItemR (X : Cx) (pins : List (Addr × Obj)) (σ : L2.St) (R : Hp → Addr → Str → Prop) (kk : Nat) (H0 : Hp) (n : Nat) (v : V) (t : Str) : Prop :=
  ∀ (base : Nat) (A : Around) (g : List Code) (H : Hp) (s : Shared) (u : Value) (Q : Str → Shared → Prop) (E : Value → Shared → Prop), (∀ e s, X.xe e s → E e s) → base + t.length ≤ sizeLine → A.guards = some g → GuardT R H0 n g → Room (kk + n) A → A.frames = X.A.frames → Same H0 H → Inv X pins σ H s → RelV v u →
    (∀ H' s', Same H H' → Inv X pins σ H' s' → Q t s') → wpAny (model X.prog X.w) A (pyReprUnder base u) Q E s
section
variable {X : Cx} {pins : List (Addr × Obj)} {σ : L2.St} {R : Hp → Addr → Str → Prop}
theorem vals_at {x : V} : ∀ {xs : List V} {us : List Value} {i : Nat}, Vals xs us → xs[i]? = some x → ∃ u, us[i]? = some u ∧ RelV x u
  | _, _, i, .nil, h => by simp at h
  | _, _, 0, .cons r _, h => by
    simp at h
    subst h
    exact ⟨_, rfl, r⟩
  | _, _, i + 1, .cons _ t, h => by
    obtain ⟨u, e, r⟩ := vals_at (i := i) t (by simpa using h)
    exact ⟨u, by simpa using e, r⟩
theorem strs_of {H : Hp} {ts : List Str} : ∀ {us : List Value}, Vals (ts.map V.str) us → ∃ l : List (Str × Tok), us = strValues l ∧ l.map (·.1) = ts := by
  induction ts with
  | nil => intro us h; cases h; exact ⟨[], rfl, rfl⟩
  | cons t ts ih =>
    intro us h
    cases h with
    | cons r1 r2 =>
      obtain ⟨l, rfl, e⟩ := ih r2
      obtain ⟨tk, rfl⟩ := r1
      exact ⟨(t, tk) :: l, rfl, by simp [e]⟩
theorem loop_R {kk n : Nat} {H0 Hs : Hp} {a P : Addr} {xs : List V} {ts : List Str} {A : Around} {g : List Code} {base : Nat} {Rr : Result → Shared → Prop} (hlen : xs.length = ts.length) (hsz : base + (listText ts).length ≤ sizeLine) (few : xs.length ≤ 100000)
    (hT : ∀ (i : Nat) (x : V), xs[i]? = some x → ∃ t m, ts[i]? = some t ∧ m ≤ n ∧ ItemR X pins σ R kk H0 m x t) (hat : ∃ t, Tx R H0 (.ref a) t (n + 1)) (hg : A.guards = some g) (hG : GuardT R H0 (n + 1) g) (hr : Room (kk + n + 1) A) (hf : A.frames = X.A.frames) (ha : H0 a = some (.lst xs)) (h0s : Same H0 Hs) (hP0 : Hs P = none)
    (hE : ∀ e s', X.xe e s' → Rr (.error e) s') (hR : ∀ (H' : Hp) (s' : Shared) (u : Tok), Same Hs H' → Inv X pins σ H' s' → Rr (.ok (.ret (.str (listText ts) u))) s') :
    ∀ (k i : Nat) (s : Shared) (H : Hp), ts.length - i = k → i ≤ ts.length → Same Hs H → H P = some (.lst ((ts.take i).map V.str)) → Inv X pins σ H s →
    codeAny (model X.prog X.w) A (.builtin "list.__repr__.loop" ⟨[.ref a, rawInt i, .ref P, rawInt ((base + piled (ts.take i) : Nat) : Int)], []⟩) Rr s := by
  have hp3 := piled_le_listText ts
  intro k
  induction k with
  | zero =>
    intro i s H hk hi sH hP I
    have hin : i = ts.length := by omega
    obtain ⟨_, itsA, nA, rvA, _, hoA⟩ := I.lstM ((h0s.trans sH) _ _ ha)
    obtain ⟨_, itsP, nP, rvP, _, hoP⟩ := I.lstM hP
    refine codeAny_builtin PySem.F.entry_list_repr_loop ?_
    show wpAny _ _ (Builtin.«list.__repr__.loop» ⟨[.ref a, .int i 0, .ref P, .int ((base + piled (ts.take i) : Nat) : Int) 0], []⟩) _ _ _
    rw [repr_loop_tree]
    refine wpAny_bind (wpAny_listItems hoA rfl ?_)
    have hnone : itsA.toArray[(i : Int).toNat]? = none := by
      have := rvA.length
      simp
      omega
    simp only [hnone]
    unfold reprEnd
    refine wpAny_bind (wpAny_listItems hoP rfl ?_)
    obtain ⟨l, e1, e2⟩ := strs_of (H := H) rvP
    rw [show itsP.toArray.toList = strValues l by simp [e1], repr_fold]
    refine wpAny_bind (wpAny_pure ?_)
    rw [show l.map (·.1) = ts by rw [e2, hin, List.take_length]]
    exact wpAny_bind (wpAny_mkStr (wpAny_pure (hR H _ _ sH (I.tok _))) (by show (listText ts).length ≤ sizeLine; omega))
  | succ k ih =>
    intro i s H hk hi sH hP I
    have hlt : i < ts.length := by omega
    obtain ⟨x, hx⟩ : ∃ x, xs[i]? = some x := ⟨xs[i]'(by omega), by simp [show i < xs.length by omega]⟩
    obtain ⟨t, m, ht, hm, hrep⟩ := hT i x hx
    have hp1 := piled_take_succ ht
    have hp2 := piled_take_le ts (i + 1)
    obtain ⟨_, itsA, nA, rvA, _, hoA⟩ := I.lstM ((h0s.trans sH) _ _ ha)
    refine codeAny_builtin PySem.F.entry_list_repr_loop ?_
    show wpAny _ _ (Builtin.«list.__repr__.loop» ⟨[.ref a, .int i 0, .ref P, .int ((base + piled (ts.take i) : Nat) : Int) 0], []⟩) _ _ _
    rw [repr_loop_tree]
    refine wpAny_bind (wpAny_listItems hoA rfl ?_)
    obtain ⟨u, hu, ru⟩ : ∃ u, itsA[i]? = some u ∧ RelV x u := vals_at rvA hx
    have hsome : itsA.toArray[(i : Int).toNat]? = some u := by simp [hu]
    simp only [hsome]
    rw [Int.toNat_natCast]
    have room0 : Room (kk + m) (A.under (.builtin "list.__repr__.loop" ⟨[.ref a, .int i 0, .ref P, .int ((base + piled (ts.take i) : Nat) : Int) 0], []⟩)) := (room_loop hr).mono (by omega)
    obtain ⟨ta, hta⟩ := hat
    have go : GuardT R H0 m (Code.builtin "list.__repr__.loop" ⟨[.ref a, .int i 0, .ref P, .int ((base + piled (ts.take i) : Nat) : Int) 0], []⟩ :: g) := fun id v rest kw hmem => by
      rcases List.mem_cons.mp hmem with e | hmem
      · cases e
        exact ⟨a, ta, n + 1, rfl, hta, by omega⟩
      · obtain ⟨b, tb, mb, e1, e2, e3⟩ := hG id v rest kw hmem
        exact ⟨b, tb, mb, e1, e2, by omega⟩
    refine wpAny_bind (wpAny_holding (hrep (base + piled (ts.take i) + 1) _ _ H s u _ _ hE (by omega) (guards_under_guard (isGuard_list_loop _) hg) go room0 hf (h0s.trans sH) I ru fun H1 s1 e1 I1 => ?_))
    refine wpAny_bind (wpAny_mkStr ?_ (by omega))
    refine wpAny_bind ?_
    show wpAny _ _ (updateSeq P _) _ _ _
    obtain ⟨_, itsP, nP, rvP, _, hoP⟩ := I1.lstM (e1 _ _ hP)
    have lP : itsP.length = i := by
      rw [← rvP.length, List.length_map, List.length_take]
      omega
    refine wpAny_updateSeq hoP rfl (wpAny_pure ⟨PySem.F.quiet_list_repr_loop _, ?_⟩) (by
      have : itsP.toArray.size ≤ 100000 := by simp; omega
      exact szle this)
    have J2 := I1.lset (its' := itsP ++ [.str t s1.toks]) (ys := (ts.take i).map V.str ++ [.str t]) (t' := s1.toks + 1) (f := (·.push (.str t s1.toks))) (e1 _ _ hP) hoP (by simp) (rvP.append (.cons (show RelV (.str t) (.str t s1.toks) from ⟨_, rfl⟩) .nil)) (szle (by simp; omega))
    have s2 : Same Hs (upd H1 P (.lst ((ts.take i).map V.str ++ [.str t]))) := same_mut (sH.trans e1) hP0
    have e3 : ((i : Int) + 1) = ((i + 1 : Nat) : Int) := by omega
    have e4 : base + piled (ts.take i) + (t.length + 2) = base + piled (ts.take (i + 1)) := by omega
    rw [e3, e4]
    refine ih (i + 1) _ _ (by omega) (by omega) s2 ?_ J2
    rw [take_at ht, List.map_append]
    exact upd_same
theorem clear_T {C : Addr} {sp : Sp} (Z : Shows C R sp) {H0 : Hp} {a : Addr} {t : Str} {n : Nat} {g : List Code} (h : Tx R H0 (.ref a) t n) (hG : GuardT R H0 n g) : Clear g a := fun id v rest kw hm e => by
  obtain ⟨b, tb, m, e1, e2, e3⟩ := hG id v rest kw hm
  rw [e1] at e
  cases e
  have := tx_uq Z _ _ _ h _ _ e2
  omega
theorem item_lst {C : Addr} {sp : Sp} (Z : Shows C R sp) {kk n : Nat} {H0 : Hp} {a : Addr} {xs : List V} {ts : List Str} (ha : H0 a = some (.lst xs)) (few : xs.length ≤ 1000) (g0 : TxA R H0 xs ts n)
    (hT : ∀ (i : Nat) (x : V), xs[i]? = some x → ∃ t m, ts[i]? = some t ∧ m ≤ n ∧ ItemR X pins σ R kk H0 m x t) : ItemR X pins σ R kk H0 (n + 1) (.ref a) (listText ts) := by
  intro base A g H s u Q E hE hb hg hG hr hf sH I ru hQ
  obtain rfl : u = Value.ref a := ru
  obtain ⟨z, its, nn, rv, _, ho⟩ := I.lstM (sH _ _ ha)
  have hx : Tx R H0 (.ref a) (listText ts) (n + 1) := .lst ha few g0
  cases rv with
  | nil =>
    cases g0
    refine ReprK.listEmpty (as := []) (h₀ := s.heap) (d := 0) ho rfl rfl base hb A g E s Q hg (fun _ h => nomatch h) (by have := hr.units0; omega) (fun _ _ e => e) fun h' tk keep => ?_
    exact hQ H _ (fun _ _ e => e) (I.kept keep)
  | @cons x0 u0 xs' us' r0 r' =>
    refine wpAny_pyReprUnder_ref (by omega) (wpAny_pyReprObjUnder_twin (twin := "list.__repr__.under") ⟨_, ho, rfl⟩ PySem.F.slot_list_repr.toG rfl hr.units0 ?_)
    refine call_twin_plain PySem.F.plain_list_repr_under PySem.F.entry_list_repr_under PySem.F.check_list_repr_under ⟨_, ho, rfl⟩ PySem.F.slot_list_repr.toG (PySem.F.args_list_repr_1 _) ?_
    refine wpAny_list_repr_head (A := A.in1) hg (fun v rest kw hm => listSameRef_of_ne (clear_T Z hx hG _ _ _ _ hm)) ho rfl ?_
    refine wpAny_bind (m := newList []) (wpAny_newObj_type ?_)
    refine wpAny_pure ⟨PySem.F.quiet_list_repr_loop _, ?_⟩
    have hP : H s.heap.objs.size = none := I.fresh
    have J0 : Inv X pins σ (upd H s.heap.objs.size (.lst [])) { s with heap := s.heap.push { cls := .type "list", data := .seq ([] : List Value).toArray } } := I.lnew (its := []) .nil (by decide)
    refine loop_R (n := n) (H0 := H0) (base := base) (txa_len g0) hb (by omega) hT ⟨_, hx⟩ hg hG hr hf ha (Hs := H) sH hP hE (fun H' s' u e J => ⟨⟨_, _, rfl⟩, _, _, rfl, hQ _ _ e J⟩) _ 0 _ _ rfl (Nat.zero_le _) (same_new hP) upd_same J0
theorem fold_R {kk n : Nat} {H0 : Hp} {A : Around} {g : List Code} {E : Value → Shared → Prop} (hE : ∀ e s, X.xe e s → E e s) (hg : A.guards = some g) (hG : GuardT R H0 n g) (hr : Room (kk + n) A) (hf : A.frames = X.A.frames) :
    ∀ (xs : List V) (ts : List Str) (us : List Value) (acc : Array Str) (c : Nat) (s : Shared) (H : Hp) (Q : (Array Str × Nat) → Shared → Prop), xs.length = ts.length → Vals xs us →
    (∀ (i : Nat) (x : V), xs[i]? = some x → ∃ t m, ts[i]? = some t ∧ m ≤ n ∧ ItemR X pins σ R kk H0 m x t) → c + piled ts ≤ sizeLine → Same H0 H → Inv X pins σ H s →
    (∀ H' s', Same H H' → Inv X pins σ H' s' → Q ⟨acc ++ ts.toArray, c + piled ts⟩ s') → wpAny (model X.prog X.w) A (forIn us (⟨acc, c⟩ : (Array Str × Nat)) tupBody) Q E s := by
  intro xs
  induction xs with
  | nil =>
    intro ts us acc c s H Q hl rv hT hc sH I hQ
    cases rv
    cases ts with
    | nil =>
      have h0 := hQ H s (fun _ _ e => e) I
      simp only [List.forIn_nil]
      exact wpAny_pure (by simpa [piled] using h0)
    | cons _ _ => simp at hl
  | cons x xs ih =>
    intro ts us acc c s H Q hl rv hT hc sH I hQ
    cases ts with
    | nil => simp at hl
    | cons t ts =>
      cases rv with
      | cons r0 rv =>
        rw [piled_cons] at hc
        obtain ⟨t', m, e1, hm, hrep⟩ := hT 0 x rfl
        cases (show t = t' by simpa using e1)
        rw [List.forIn_cons]
        refine wpAny_bind ?_
        show wpAny _ _ (pyReprUnder (c + 1) _ >>= _) _ _ _
        refine wpAny_bind (hrep (c + 1) A g H s _ _ E hE (by omega) hg (fun id v rest kw hmem => ?_) (hr.mono (by omega)) hf sH I r0 fun H1 s1 e2 I1 => wpAny_pure ?_)
        · obtain ⟨b, tb, mb, q1, q2, q3⟩ := hG id v rest kw hmem
          exact ⟨b, tb, mb, q1, q2, by omega⟩
        refine ih ts _ (acc.push t) (c + (t.length + 2)) s1 H1 Q (by simpa using hl) rv (fun i y hy => ?_) (by omega) (sH.trans e2) I1 fun H2 s2 e3 I2 => ?_
        · obtain ⟨t2, m2, q1, q2⟩ := hT (i + 1) y (by simpa using hy)
          exact ⟨t2, m2, by simpa using q1, q2⟩
        · have h1 := hQ H2 s2 (e2.trans e3) I2
          have e : c + piled (t :: ts) = c + (t.length + 2) + piled ts := by rw [piled_cons]; omega
          rw [e] at h1
          simpa using h1
theorem room_tup {k : Nat} {A : Around} {args : Args} (r : Room (k + 1) A) : Room k (A.under (.builtin "tuple.__repr__.under" args)) := by
  have e1 : (A.under (.builtin "tuple.__repr__.under" args)).units = A.units + 1 := by
    first | rfl | simp [Around.under, Code.cUnits, Code.frames, Code.isFrame]
  have e2 : (A.under (.builtin "tuple.__repr__.under" args)).depth ≤ A.depth + 1 := by
    show A.depth + (Code.builtin "tuple.__repr__.under" args).weight ≤ A.depth + 1
    have : (Code.builtin "tuple.__repr__.under" args).weight ≤ 1 := by
      simp [Code.weight, Code.isCreation, Code.isGuard, Code.isCaller, Code.frames, Code.isFrame, guardIds]
    omega
  exact ⟨r.hd, by have := r.dp; omega, by have := r.un; omega⟩
theorem tup_own {kk n : Nat} {H0 H : Hp} {a : Addr} {xs : List V} {ts : List Str} {A : Around} {g : List Code} {s : Shared} {Rr : Result → Shared → Prop} {base : Nat} {id : String} {rest : List Value}
    (hr' : Room (kk + n) (A.under (.builtin id ⟨.ref a :: rest, []⟩))) (hcg : (Code.builtin id ⟨.ref a :: rest, []⟩).isGuard = true) (hx : Tx R H0 (.ref a) (tupleText ts) (n + 1)) (clr : Clear g a) (hlen : xs.length = ts.length)
    (hT : ∀ (i : Nat) (x : V), xs[i]? = some x → ∃ t m, ts[i]? = some t ∧ m ≤ n ∧ ItemR X pins σ R kk H0 m x t) (hg : A.guards = some g) (hG : GuardT R H0 (n + 1) g) (hf : (A.under (.builtin id ⟨.ref a :: rest, []⟩)).frames = X.A.frames) (sH : Same H0 H) (ha : H0 a = some (.tup xs)) (I : Inv X pins σ H s)
    (hE : ∀ e s', X.xe e s' → Rr (.error e) s') (hR : ∀ (H' : Hp) (s' : Shared) (u : Tok), Same H H' → Inv X pins σ H' s' → Rr (.ok (.ret (.str (tupleText ts) u))) s') (hsz : base + (tupleText ts).length ≤ sizeLine) :
    wpOwn (model X.prog X.w) A (.builtin id ⟨.ref a :: rest, []⟩) (Builtin.tupleReprAt base ⟨[.ref a], []⟩) (fun fin s' => match fin with | .done f => Rr (.ok f) s' | .again c' => c'.quiet = true ∧ codeAny (model X.prog X.w) A c' Rr s') (fun e s' => Rr (.error e) s') s := by
  obtain ⟨its, rv, it, _⟩ := I.tuple (st_of (sH _ _ ha))
  have hp := piled_le_tupleText ts
  have li : its.length = ts.length := by rw [← rv.length]; exact hlen
  rw [tuple_repr_tree, tupleReprUnderWay_eq]
  refine wpOwn_bind (wpOwn_stackTailAny hg (tupGuardF_off _) (tupGuardF_pos _) ?_)
  rw [show (g.any fun c => tupGuardF (.ref a) (c, default)) = false from List.any_eq_false.mpr fun c hc => by rw [tupGuardF_of_clear clr c hc]; exact Bool.false_ne_true]
  refine wpOwn_of_wpAny ?_
  show wpAny _ _ (tupleReprRest base (.ref a)) _ _ s
  unfold tupleReprRest Builtin.Tuple.tupleItemsOf
  obtain ⟨o, ho, hc, nn, hd⟩ := it
  refine wpAny_bind (wpAny_bind (wpAny_seqItems ho hd (wpAny_pure ?_)))
  rw [← Array.forIn_toList]
  have go : GuardT R H0 n (Code.builtin id ⟨.ref a :: rest, []⟩ :: g) := fun id' v rest' kw hmem => by
    rcases List.mem_cons.mp hmem with e | hmem
    · cases e
      exact ⟨a, _, n + 1, rfl, hx, by omega⟩
    · obtain ⟨b, tb, mb, e1, e2, e3⟩ := hG id' v rest' kw hmem
      exact ⟨b, tb, mb, e1, e2, by omega⟩
  refine wpAny_bind (fold_R (H0 := H0) hE (guards_under_guard hcg hg) go hr' hf xs ts _ _ _ s H _ hlen (by simpa using rv) hT (by omega) sH I fun H1 s1 e1 I1 => ?_)
  have sz0 : (tupleText ts).length ≤ sizeLine := by omega
  refine wpAny_bind (wpAny_mkStr (wpAny_pure ?_) (by simpa [tupleText, li] using sz0))
  have h1 := hR H1 { s1 with toks := s1.toks + 1 } s1.toks e1 (I1.tok _)
  simpa [tupleText, li] using h1
theorem item_tup {C : Addr} {sp : Sp} (Z : Shows C R sp) {kk n : Nat} {H0 : Hp} {a : Addr} {xs : List V} {ts : List Str} (ha : H0 a = some (.tup xs)) (few : xs.length ≤ 1000) (g0 : TxA R H0 xs ts n)
    (hT : ∀ (i : Nat) (x : V), xs[i]? = some x → ∃ t m, ts[i]? = some t ∧ m ≤ n ∧ ItemR X pins σ R kk H0 m x t) : ItemR X pins σ R kk H0 (n + 1) (.ref a) (tupleText ts) := by
  intro base A g H s u Q E hE hb hg hG hr hf sH I ru hQ
  obtain rfl : u = Value.ref a := ru
  have hx : Tx R H0 (.ref a) (tupleText ts) (n + 1) := .tup ha few g0
  obtain ⟨its, rv, ⟨o, ho, hc, nn, hd⟩, _⟩ := I.tuple (st_of (sH _ _ ha))
  refine wpAny_pyReprUnder_ref (by omega) (wpAny_pyReprObjUnder_twin (twin := "tuple.__repr__.under") ⟨o, ho, hc⟩ PySem.F.slot_tuple_repr rfl hr.units0 ?_)
  refine call_twin_own (PySem.F.quiet_tuple_repr_under _) PySem.F.entry_tuple_repr_under PySem.F.check_tuple_repr_under ⟨o, ho, hc⟩ PySem.F.slot_tuple_repr (PySem.F.args_tuple_repr_1 _) ?_
  exact tup_own (n := n) (room_tup hr) (isGuard_tuple_repr_under _) hx (clear_T Z hx hG) (txa_len g0) hT hg hG hf sH ha I hE (fun H' s' u e J => ⟨⟨_, _, rfl⟩, _, _, rfl, hQ _ _ e J⟩) hb
theorem item_own {C f : Addr} {fd : FuncData} {ps : List Str} {sp : Sp} (Z : Shows C R sp) {kk k n : Nat} {H0 : Hp} {p : Addr} {t : Str} (h1 : PySem.W.findIn X.K (.ref C) "__repr__" = some (some (.ref f))) (h2 : PySem.W.isFn X.K (.ref f) = true) (F : FnOk X.prog X.w X.K X.mg X.base CX0 k f fd ps sp) (hk : k ≤ kk) (hb : Binds X.K fd ps [])
    (h : R H0 p t) : ItemR X pins σ R kk H0 n (.ref p) t := by
  intro base A g H s u Q E hE hbs hg hG hr hf sH I ru hQ
  obtain rfl : u = Value.ref p := ru
  have h' := Z.st h sH
  obtain ⟨dx, fs, hi⟩ := Z.ins h'
  obtain ⟨mA, O, _⟩ := ins_get I.hok hi
  obtain ⟨od, O, _⟩ := O.look
  refine under_own (by omega) hr.units0 I.kIn O h1 h2 ?_
  have e0 : Env0 X.prog X.w X.K X.mg X.base A X.stack s H := by
    have e := I.env0
    exact ⟨by rw [hf]; exact e.frames, e.mod, e.bs, e.bsz, e.funs, e.frf, e.hok, e.bare⟩
  have q0 := Z.run h' (Q := fun v H1 => v = .str t ∧ Same H H1) fun H1 e => ⟨rfl, e⟩
  have hl : 1 = ps.length := F.len _ _ _ _ q0
  refine wpAny_call (codeAny_mono (F.run A X.stack s H ⟨[.ref p], []⟩ [.ref p] [.ref p] _ _ (hr.mono (by omega)) e0 (by
    have := hb s [.ref p] I.kIn (by simpa using hl)
    simpa using this) (.cons rfl .nil) q0) fun r s' hq => ?_)
  cases r with
  | error e => exact False.elim hq
  | ok fl =>
    cases fl with
    | ret w' =>
      obtain ⟨v, H', J, rv, ev, e1⟩ := I.after hq
      subst ev
      obtain ⟨tk, rfl⟩ := rv
      exact ⟨t, tk, rfl, hQ _ _ e1 J⟩
    | next => exact False.elim hq
    | brk => exact False.elim hq
    | cont => exact False.elim hq
/-- what __repr__ of the class at C gives -/
structure OwnRep (X : Cx) (C : Addr) (R : Hp → Addr → Str → Prop) (sp : Sp) (k : Nat) (f : Addr) (fd : FuncData) (ps : List Str) : Prop where
  shows : Shows C R sp
  at_ : PySem.W.findIn X.K (.ref C) "__repr__" = some (some (.ref f))
  fn : PySem.W.isFn X.K (.ref f) = true
  ok : FnOk X.prog X.w X.K X.mg X.base CX0 k f fd ps sp
  bs : Binds X.K fd ps []
theorem item_sc {kk n : Nat} {H0 : Hp} {v : V} {t : Str} (h : ∀ u, RelV v u → ReprIs X.prog X.w u t) : ItemR X pins σ R kk H0 n v t := by
  intro base A g H s u Q E hE hbs hg hG hr hf sH I ru hQ
  exact h u ru base hbs A E s Q fun tk => hQ H _ (fun _ _ e => e) (I.tok _)
theorem item_R {C f : Addr} {fd : FuncData} {ps : List Str} {sp : Sp} {k : Nat} (O : OwnRep X C R sp k f fd ps) {H0 : Hp} : ∀ (n : Nat) (v : V) (t : Str), Tx R H0 v t n → ItemR X pins σ R k H0 n v t := by
  intro n
  induction n using Nat.strongRecOn with
  | ind n ih =>
    intro v t h
    cases h with
    | int i h =>
      refine item_sc fun u ru => ?_
      obtain ⟨tk, rfl⟩ := ru
      have := ReprIs.int (prog := X.prog) (w := X.w) tk (by simpa [PyData.showable] using h)
      simpa only [PyData.shown] using this
    | bl b =>
      refine item_sc fun u ru => ?_
      obtain rfl : u = Value.bool b := ru
      have := ReprIs.bool (prog := X.prog) (w := X.w) b
      simpa only [PyData.shown] using this
    | non =>
      refine item_sc fun u ru => ?_
      obtain rfl : u = Value.none := ru
      have := ReprIs.none (prog := X.prog) (w := X.w)
      simpa only [PyData.shown] using this
    | own h => exact item_own O.shows O.at_ O.fn O.ok (Nat.le_refl _) O.bs h
    | lst h f g =>
      refine item_lst O.shows h f g (fun i x hx => ?_)
      obtain ⟨t, m, e1, e2, e3⟩ := txa_at g i x hx
      exact ⟨t, m, e1, e3, ih m (Nat.lt_succ_of_le e3) x t e2⟩
    | tup h f g =>
      refine item_tup O.shows h f g (fun i x hx => ?_)
      obtain ⟨t, m, e1, e2, e3⟩ := txa_at g i x hx
      exact ⟨t, m, e1, e3, ih m (Nat.lt_succ_of_le e3) x t e2⟩
/-- repr of a list that is not empty -/
def rRepT (R : Hp → Addr → Str → Prop) (N : Nat) : List V → Hp → VK → Prop := fun xs H Q => ∃ (a : Addr) (y : V) (ys : List V) (ts : List Str) (n : Nat), xs = [.ref a] ∧ H a = some (.lst (y :: ys)) ∧ (y :: ys).length ≤ 1000 ∧ TxA R H (y :: ys) ts n ∧ n ≤ N ∧ (listText ts).length ≤ sizeLine ∧
  ∀ H', Same H H' → Q (.str (listText ts)) H'
theorem call_reprT {C f : Addr} {fd : FuncData} {ps : List Str} {sp : Sp} {k N : Nat} (O : OwnRep X C R sp k f fd ps) (hgd : X.A.guards = some []) (hr : Room (k + N + 2) X.A) : CallR X (.builtin "repr") (rRepT R N) := by
  intro pins s σ H xs us Q I r hq
  obtain ⟨a, y, ys, ts, n, rfl, ha, few, g0, hn, hz, q⟩ := hq
  obtain rfl : us = [Value.ref a] := Vals.ref1 r
  obtain ⟨_, its, nn, rv, _, ho⟩ := I.lstM ha
  have hun := hr.un
  have hx : Tx R H (.ref a) (listText ts) (n + 1) := .lst ha few g0
  cases rv with
  | @cons x0 u0 xs' us' r0 r' =>
    refine call_repr_slot (T := "list") (idr := "list.__repr__") (by omega) ⟨_, ho, rfl⟩ PySem.F.slot_list_repr.toG ?_
    refine wpAny_call (codeAny_call_builtin PySem.F.slot_list_repr.plain PySem.F.entry_list_repr (PySem.F.slot_list_repr.check _ _ _ _ _ _ _ _ ⟨_, ho, rfl⟩ (PySem.F.args_list_repr_1 _) ?_))
    refine wpAny_list_repr_head (A := X.A.in1.in1) (g := []) (b := 0) hgd (fun _ _ _ h => nomatch h) ho rfl ?_
    refine wpAny_bind (m := newList []) (wpAny_newObj_type ?_)
    refine wpAny_pure ⟨PySem.F.quiet_list_repr_loop _, ?_⟩
    have hP : H s.heap.objs.size = none := I.fresh
    have J0 : Inv X pins σ (upd H s.heap.objs.size (.lst [])) { s with heap := s.heap.push { cls := .type "list", data := .seq ([] : List Value).toArray } } := I.lnew (its := []) .nil (by decide)
    refine loop_R (X := X) (pins := pins) (σ := σ) (R := R) (A := X.A.in1) (a := a) (P := s.heap.objs.size) (xs := y :: ys) (ts := ts) (kk := k) (n := n) (H0 := H) (Hs := H) (base := 0) (txa_len g0) (by omega) (by omega) (fun i x hx => ?_) ⟨_, hx⟩ (g := []) hgd (fun _ _ _ _ h => nomatch h) (hr.in1.mono (by omega)) rfl ha (fun _ _ e => e) hP ?_ ?_ _ 0 _ _ rfl (Nat.zero_le _) (same_new hP) upd_same J0
    · obtain ⟨t, m, e1, e2, e3⟩ := txa_at g0 i x hx
      exact ⟨t, m, e1, e3, item_R O m x t e2⟩
    · exact fun _ _ e => e
    · exact fun H' s' u e J => ⟨_, _, rfl, ⟨.str (listText ts), H', J, ⟨_, rfl⟩, q H' e⟩⟩
end
end Tk

namespace Tk
open PySem PySem.Spec PyProof.Rows L2
/-! ## == of lists, one in another, that hold own objects -/
mutual
/-- x == y is c; lists lie n deep -/
inductive Eq2 (D : Hp → Addr → Addr → Bool → Prop) (H : Hp) : V → V → Bool → Nat → Prop
  | own {p q : Addr} {c : Bool} (h : D H p q c) : Eq2 D H (.ref p) (.ref q) c 0
  | dif {a b : Addr} {xs ys : List V} (h1 : H a = some (.lst xs)) (h2 : H b = some (.lst ys)) (n : xs.length ≠ ys.length) : Eq2 D H (.ref a) (.ref b) false 1
  | lst {a b : Addr} {xs ys : List V} {c : Bool} {n : Nat} (h1 : H a = some (.lst xs)) (h2 : H b = some (.lst ys)) (g : Eq2A D H xs ys c n) : Eq2 D H (.ref a) (.ref b) c (n + 1)
inductive Eq2A (D : Hp → Addr → Addr → Bool → Prop) (H : Hp) : List V → List V → Bool → Nat → Prop
  | nil : Eq2A D H [] [] true 0
  | cons {x y : V} {c : Bool} {m : Nat} {xs ys : List V} {d : Bool} {n : Nat} (h : Eq2 D H x y c m) (g : Eq2A D H xs ys d n) : Eq2A D H (x :: xs) (y :: ys) (c && d) (max m n)
end
/-- what __eq__ of the class at C gives -/
structure OwnEq (X : Cx) (C : Addr) (D : Hp → Addr → Addr → Bool → Prop) (sp : Sp) (k : Nat) (f : Addr) (fd : FuncData) (ps : List Str) : Prop where
  st : ∀ {H H' : Hp} {p q : Addr} {c : Bool}, D H p q c → Same H H' → D H' p q c
  ins : ∀ {H : Hp} {p q : Addr} {c : Bool}, D H p q c → (∃ (dx : Addr) (fs : List (Str × V)), H p = some (.ins C dx fs)) ∧ ∃ (dx : Addr) (fs : List (Str × V)), H q = some (.ins C dx fs)
  rf : ∀ {H : Hp} {p : Addr} {c : Bool}, D H p p c → c = true
  run : ∀ {H : Hp} {p q : Addr} {c : Bool} {Q : VK}, D H p q c → (∀ H', Same H H' → Q (.bl c) H') → sp [.ref p, .ref q] H Q fun _ _ _ => False
  at_ : PySem.W.findIn X.K (.ref C) "__eq__" = some (some (.ref f))
  fn : PySem.W.isFn X.K (.ref f) = true
  ok : FnOk X.prog X.w X.K X.mg X.base CX0 k f fd ps sp
  bs : Binds X.K fd ps []
section
variable {X : Cx} {pins : List (Addr × Obj)} {σ : L2.St} {C f : Addr} {D : Hp → Addr → Addr → Bool → Prop} {sp : Sp} {k : Nat} {fd : FuncData} {ps : List Str}
theorem e2a_len {H : Hp} : ∀ {xs ys : List V} {c : Bool} {n : Nat}, Eq2A D H xs ys c n → xs.length = ys.length
  | [], _, _, _, h => by cases h; rfl
  | x :: xs, _, _, _, h => by
    cases h with
    | cons h g => rw [List.length_cons, List.length_cons, e2a_len g]
theorem e2a_rf' {H : Hp} {n : Nat} (ih : ∀ m, m ≤ n → ∀ v c, Eq2 D H v v c m → c = true) : ∀ {xs : List V} {c : Bool} {k : Nat}, k ≤ n → Eq2A D H xs xs c k → c = true
  | [], _, _, _, h => by cases h; rfl
  | x :: xs, _, _, hk, h => by
    cases h with
    | cons h g => rw [ih _ (Nat.le_trans (Nat.le_max_left _ _) hk) _ _ h, e2a_rf' ih (Nat.le_trans (Nat.le_max_right _ _) hk) g]; rfl
theorem e2_rf (O : OwnEq X C D sp k f fd ps) {H : Hp} : ∀ (n : Nat) (v : V) (c : Bool), Eq2 D H v v c n → c = true := by
  intro n
  induction n using Nat.strongRecOn with
  | ind n ih =>
    intro v c h
    cases h with
    | own h => exact O.rf h
    | dif h1 h2 hn => rw [h1] at h2; cases h2; exact absurd rfl hn
    | lst h1 h2 g =>
      rw [h1] at h2
      cases h2
      exact e2a_rf' (fun m hm => ih m (Nat.lt_succ_of_le hm)) (Nat.le_refl _) g
/-- x == y within another one's: c -/
def EqR (X : Cx) (pins : List (Addr × Obj)) (σ : L2.St) (kk : Nat) (H0 : Hp) (n : Nat) (x y : V) (c : Bool) : Prop :=
  ∀ (A : Around) (H : Hp) (s : Shared) (u v : Value) (Q : Bool → Shared → Prop) (E : Value → Shared → Prop), (∀ e s, X.xe e s → E e s) → Room (kk + n) A → A.frames = X.A.frames → Same H0 H → Inv X pins σ H s → RelV x u → RelV y v →
    (∀ H' s', Same H H' → Inv X pins σ H' s' → Q c s') → wpAny (model X.prog X.w) A (eqBool u v) Q E s
def RcR (X : Cx) (pins : List (Addr × Obj)) (σ : L2.St) (kk : Nat) (H0 : Hp) (n : Nat) (a b : Addr) (c : Bool) : Prop :=
  ∀ (A : Around) (H : Hp) (s : Shared) (Q : Value → Shared → Prop) (E : Value → Shared → Prop), (∀ e s, X.xe e s → E e s) → Room (kk + n) A → A.frames = X.A.frames → Same H0 H → Inv X pins σ H s →
    (∀ H' s', Same H H' → Inv X pins σ H' s' → Q (.bool c) s') → wpAny (model X.prog X.w) A (richCompare .Eq (.ref a) (.ref b)) Q E s
theorem eq_of_rc {kk n : Nat} {H0 : Hp} {a b : Addr} {c : Bool} (hs : a = b → c = true) (h : RcR X pins σ kk H0 n a b c) : EqR X pins σ kk H0 n (.ref a) (.ref b) c := by
  intro A H s u v Q E hE hr hf sH I ru rv hQ
  obtain rfl : u = Value.ref a := ru
  obtain rfl : v = Value.ref b := rv
  unfold eqBool
  refine wpAny_holding ?_
  refine wpAny_ite_split (fun hab => ?_) (fun _ => ?_)
  · have e : a = b := by have := eq_of_beq hab; injection this
    have := hQ H s (fun _ _ e => e) I
    rw [hs e] at this
    exact wpAny_bind (wpAny_rule (wpAny_pure this))
  · exact wpAny_bind (h A H s _ E hE hr hf sH I fun H' s' e J => wpAny_truthy_bool (hQ H' s' e J))
theorem rc_own (O : OwnEq X C D sp k f fd ps) {n : Nat} {H0 : Hp} {p q : Addr} {c : Bool} (h : D H0 p q c) : RcR X pins σ k H0 n p q c := by
  intro A H s Q E hE hr hf sH I hQ
  have h' := O.st h sH
  obtain ⟨⟨dx, fs, hi⟩, dy, gs, hj⟩ := O.ins h'
  obtain ⟨mA, J, _⟩ := ins_get I.hok hi
  obtain ⟨mB, J', _⟩ := ins_get I.hok hj
  obtain ⟨od, J, _⟩ := J.look
  obtain ⟨od', J', _⟩ := J'.look
  obtain ⟨m, hF⟩ := I.fr
  refine PySem.W.cmp_K (op := .Eq) (tb := .ref C) hr.units0 hF I.ok.mod.kin J J'.type (by simp [PySem.W.notFirst]) O.at_ O.fn ?_
  have e0 : Env0 X.prog X.w X.K X.mg X.base A X.stack s H := by
    have e := I.env0
    exact ⟨by rw [hf]; exact e.frames, e.mod, e.bs, e.bsz, e.funs, e.frf, e.hok, e.bare⟩
  have q0 := O.run h' (Q := fun v H1 => v = .bl c ∧ Same H H1) fun H1 e => ⟨rfl, e⟩
  have hl : 2 = ps.length := O.ok.len _ _ _ _ q0
  refine wpAny_call (codeAny_mono (O.ok.run A X.stack s H ⟨[.ref p, .ref q], []⟩ [.ref p, .ref q] [.ref p, .ref q] _ _ (hr.mono (by omega)) e0 (by
    have := O.bs s [.ref p, .ref q] I.kIn (by simpa using hl)
    simpa using this) (.cons rfl (.cons rfl .nil)) q0) fun r s' hq => ?_)
  cases r with
  | error e => exact False.elim hq
  | ok fl =>
    cases fl with
    | ret w' =>
      obtain ⟨v, H', J, rv, ev, e1⟩ := I.after hq
      subst ev
      cases rv
      exact hQ _ _ e1 J
    | next => exact False.elim hq
    | brk => exact False.elim hq
    | cont => exact False.elim hq
open AutoSeq1 (wpAny_loadPart') in
open MeetsSeq MeetsSeq2 MeetsSeq3 SeqRoads2 in
theorem eqloop_R {kk n : Nat} {H0 : Hp} {l b : Addr} {xs ys : List V} {neg : Bool} {A : Around} {Rr : Result → Shared → Prop} (hl0 : H0 l = some (.lst xs)) (hb0 : H0 b = some (.lst ys)) (hsz : xs.length = ys.length) (cs : Nat → Bool)
    (hT : ∀ (i : Nat) (x y : V), xs[i]? = some x → ys[i]? = some y → ∃ m, m ≤ n ∧ EqR X pins σ kk H0 m x y (cs i)) (hr : Room (kk + n + 1) A) (hf : A.frames = X.A.frames)
    (hE : ∀ e s', X.xe e s' → Rr (.error e) s') :
    ∀ (j i : Nat) (s : Shared) (H : Hp), xs.length - i = j → Same H0 H → Inv X pins σ H s → (∀ H' s', Same H H' → Inv X pins σ H' s' → Rr (.ok (.ret (.bool (((List.range xs.length).drop i).all cs != neg)))) s') →
    wpAny (model X.prog X.w) A.in1 (Builtin.«list.__eq__.loop» ⟨[.ref l, .ref b, rawInt i, rawInt (if neg then 3 else 2)], []⟩) (fun fin s' => match fin with | .done f => Rr (.ok f) s' | .again c' => c'.quiet = true ∧ codeAny (model X.prog X.w) A c' Rr s') (fun e s' => Rr (.error e) s') s := by
  intro j
  induction j with
  | zero =>
    intro i s H hk sH I hR
    obtain ⟨_, its, n1, rv, _, ho⟩ := I.lstM (sH _ _ hl0)
    obtain ⟨_, its2, n2, rv2, _, ho2⟩ := I.lstM (sH _ _ hb0)
    have la := rv.length
    have lb := rv2.length
    have h := hR H s (fun _ _ e => e) I
    obtain ⟨hp, g, d, tk, os⟩ := s
    have hd : (List.range xs.length).drop i = [] := by simp; omega
    rw [hd] at h
    have hi1 : its.toArray[((i : Nat) : Int).toNat]? = none := by simp; omega
    have hi2 : its2.toArray[((i : Nat) : Int).toNat]? = none := by simp; omega
    cases neg with
    | false =>
      wp_walk using wpAny_loadPart' ho, wpAny_loadPart' ho2
      rw [hi1, hi2]
      wp_walk using wpAny_loadPart' ho, wpAny_loadPart' ho2
      show Rr (.ok (.ret (.bool (its.toArray.size == its2.toArray.size)))) _
      rw [show (its.toArray.size == its2.toArray.size) = true by simp; omega]
      simpa using h
    | true =>
      wp_walk using wpAny_loadPart' ho, wpAny_loadPart' ho2
      rw [hi1, hi2]
      wp_walk using wpAny_loadPart' ho, wpAny_loadPart' ho2
      show Rr (.ok (.ret (.bool (its.toArray.size != its2.toArray.size)))) _
      rw [show (its.toArray.size != its2.toArray.size) = false by simp; omega]
      simpa using h
  | succ j ih =>
    intro i s H hk sH I hR
    have hlt : i < xs.length := by omega
    obtain ⟨x, hx⟩ : ∃ x, xs[i]? = some x := ⟨xs[i]'hlt, by simp [hlt]⟩
    obtain ⟨y, hy⟩ : ∃ y, ys[i]? = some y := ⟨ys[i]'(by omega), by simp [show i < ys.length by omega]⟩
    obtain ⟨m, hm, he⟩ := hT i x y hx hy
    obtain ⟨_, its, n1, rv, _, ho⟩ := I.lstM (sH _ _ hl0)
    obtain ⟨_, its2, n2, rv2, _, ho2⟩ := I.lstM (sH _ _ hb0)
    obtain ⟨u, hu, ru⟩ := vals_at rv hx
    obtain ⟨v, hv, rv'⟩ := vals_at rv2 hy
    have hi1 : its.toArray[((i : Nat) : Int).toNat]? = some u := by simp [hu]
    have hi2 : its2.toArray[((i : Nat) : Int).toNat]? = some v := by simp [hv]
    have hd : (List.range xs.length).drop i = i :: (List.range xs.length).drop (i + 1) := by simp [List.drop_eq_getElem_cons, hlt]
    have hc : ((i : Int) + 1) = ((i + 1 : Nat) : Int) := by push_cast; rfl
    rw [hd, List.all_cons] at hR
    have room1 : Room (kk + m) A.in1 := Room.in1 (hr.mono (by omega))
    obtain ⟨hp, g, d, tk, os⟩ := s
    cases neg with
    | false =>
      wp_walk using wpAny_loadPart' ho, wpAny_loadPart' ho2
      rw [hi1, hi2]
      refine wpAny_bind (he A.in1 H _ u v _ _ hE room1 hf sH I ru rv' fun H1 s1 e1 I1 => ?_)
      obtain ⟨_, jts, m1, rw1, _, po⟩ := I1.lstM ((sH.trans e1) _ _ hl0)
      obtain ⟨_, jts2, m2, rw2, _, po2⟩ := I1.lstM ((sH.trans e1) _ _ hb0)
      obtain ⟨u1, hu1, _⟩ := vals_at rw1 hx
      obtain ⟨v1, hv1, _⟩ := vals_at rw2 hy
      have hj1 : jts.toArray[((i : Nat) : Int).toNat]? = some u1 := by simp [hu1]
      have hj2 : jts2.toArray[((i : Nat) : Int).toNat]? = some v1 := by simp [hv1]
      have hR' := hR H1 s1 e1 I1
      have hR2 : ∀ H2 s2, Same H1 H2 → Inv X pins σ H2 s2 → _ := fun H2 s2 e2 I2 => hR H2 s2 (e1.trans e2) I2
      obtain ⟨hp1, g1, d1, tk1, os1⟩ := s1
      cases hb' : cs i with
      | true =>
        wp_walk
        rw [hc]
        refine ⟨plainId_quiet plain_eq_loop _, codeAny_builtin entry_eq_loop ?_⟩
        rw [Around.under_plainId plain_eq_loop _]
        refine ih (i + 1) _ H1 (by omega) (sH.trans e1) I1 (fun H2 s2 e2 I2 => ?_)
        have h := hR2 H2 s2 e2 I2
        rw [hb'] at h
        simpa using h
      | false =>
        rw [hb'] at hR'
        wp_walk using wpAny_loadPart' po, wpAny_loadPart' po2
        rw [hj1, hj2]
        wp_walk
        simpa using hR'
    | true =>
      wp_walk using wpAny_loadPart' ho, wpAny_loadPart' ho2
      rw [hi1, hi2]
      refine wpAny_bind (he A.in1 H _ u v _ _ hE room1 hf sH I ru rv' fun H1 s1 e1 I1 => ?_)
      obtain ⟨_, jts, m1, rw1, _, po⟩ := I1.lstM ((sH.trans e1) _ _ hl0)
      obtain ⟨_, jts2, m2, rw2, _, po2⟩ := I1.lstM ((sH.trans e1) _ _ hb0)
      obtain ⟨u1, hu1, _⟩ := vals_at rw1 hx
      obtain ⟨v1, hv1, _⟩ := vals_at rw2 hy
      have hj1 : jts.toArray[((i : Nat) : Int).toNat]? = some u1 := by simp [hu1]
      have hj2 : jts2.toArray[((i : Nat) : Int).toNat]? = some v1 := by simp [hv1]
      have hR' := hR H1 s1 e1 I1
      have hR2 : ∀ H2 s2, Same H1 H2 → Inv X pins σ H2 s2 → _ := fun H2 s2 e2 I2 => hR H2 s2 (e1.trans e2) I2
      obtain ⟨hp1, g1, d1, tk1, os1⟩ := s1
      cases hb' : cs i with
      | true =>
        wp_walk
        rw [hc]
        refine ⟨plainId_quiet plain_eq_loop _, codeAny_builtin entry_eq_loop ?_⟩
        rw [Around.under_plainId plain_eq_loop _]
        refine ih (i + 1) _ H1 (by omega) (sH.trans e1) I1 (fun H2 s2 e2 I2 => ?_)
        have h := hR2 H2 s2 e2 I2
        rw [hb'] at h
        simpa using h
      | false =>
        rw [hb'] at hR'
        wp_walk using wpAny_loadPart' po, wpAny_loadPart' po2
        rw [hj1, hj2]
        wp_walk
        simpa using hR'
theorem e2a_at {H : Hp} : ∀ {xs ys : List V} {c : Bool} {n : Nat}, Eq2A D H xs ys c n → ∃ cs : List Bool, cs.length = xs.length ∧ c = cs.all id ∧ ∀ (i : Nat) (x y : V), xs[i]? = some x → ys[i]? = some y → ∃ m, m ≤ n ∧ Eq2 D H x y (cs[i]?.getD false) m
  | [], _, _, _, h => by
    cases h
    exact ⟨[], rfl, rfl, fun i x y h => by simp at h⟩
  | x :: xs, _, _, _, h => by
    cases h with
    | @cons _ y c m _ ys d n h g =>
      obtain ⟨cs, e1, e2, e3⟩ := e2a_at g
      refine ⟨c :: cs, by simp [e1], by rw [e2]; rfl, fun i u v hu hv => ?_⟩
      cases i with
      | zero =>
        simp at hu hv
        subst hu
        subst hv
        exact ⟨m, Nat.le_max_left _ _, h⟩
      | succ i =>
        obtain ⟨m', q1, q2⟩ := e3 i u v (by simpa using hu) (by simpa using hv)
        exact ⟨m', Nat.le_trans q1 (Nat.le_max_right _ _), by simpa using q2⟩
theorem all_cs : ∀ cs : List Bool, (List.range cs.length).all (fun i => cs[i]?.getD false) = cs.all id := by
  intro cs
  rw [Bool.eq_iff_iff]
  simp only [List.all_eq_true, List.mem_range]
  constructor
  · intro h x hx
    obtain ⟨i, hi, e⟩ := List.getElem_of_mem hx
    have := h i hi
    simp [hi, e] at this
    exact this
  · intro h i hi
    simp [hi]
    exact h _ (List.getElem_mem hi)
open AutoSeq1 (wpAny_loadPart') in
open MeetsSeq MeetsSeq2 MeetsSeq3 SeqRoads2 in
theorem rc_lst {kk n : Nat} {H0 : Hp} {a b : Addr} {xs ys : List V} (ha : H0 a = some (.lst xs)) (hb : H0 b = some (.lst ys)) (hsz : xs.length = ys.length) (cs : Nat → Bool)
    (hT : ∀ (i : Nat) (x y : V), xs[i]? = some x → ys[i]? = some y → ∃ m, m ≤ n ∧ EqR X pins σ kk H0 m x y (cs i)) : RcR X pins σ kk H0 (n + 1) a b ((List.range xs.length).all cs) := by
  intro A H s Q E hE hr hf sH I hQ
  obtain ⟨_, its, n1, rv, _, ho⟩ := I.lstM (sH _ _ ha)
  obtain ⟨_, its2, n2, rv2, _, ho2⟩ := I.lstM (sH _ _ hb)
  have la := rv.length
  have lb := rv2.length
  refine wpAny_richCompare_same_room (op := .Eq) ⟨_, ho, rfl⟩ ⟨_, ho2, rfl⟩ PySem.F.slot_list_eq (wpAny_call (codeAny_call_builtin PySem.F.slot_list_eq.plain PySem.F.entry_list_eq (PySem.F.slot_list_eq.check _ _ _ _ _ _ _ _ ⟨_, ho, rfl⟩ (PySem.F.args_list_eq_2 _ _) ?_))) hr.units0
  have f3 := AutoSeq1.sub_list_list
  have hne : ¬ (its.toArray.size != its2.toArray.size) = true := by simp; omega
  obtain ⟨hp, g, d, tk, os⟩ := s
  wp_walk using wpAny_loadPart' ho, wpAny_loadPart' ho2
  rw [if_neg hne]
  wp_walk
  refine ⟨plainId_quiet plain_eq_loop _, codeAny_builtin entry_eq_loop ?_⟩
  rw [Around.under_plainId plain_eq_loop _]
  refine eqloop_R (n := n) (neg := false) (Rr := fun r s' => match r with | .ok (.ret v) => v ≠ .notImplemented ∧ Q v s' | .ok _ => False | .error e => E e s') ha hb hsz cs hT hr hf hE _ 0 _ H rfl sH I (fun H' s' e J => ?_)
  rw [List.drop_zero, Bool.bne_false]
  exact ⟨(fun x => nomatch x), hQ H' s' e J⟩
open AutoSeq1 (wpAny_loadPart') in
open MeetsSeq MeetsSeq2 MeetsSeq3 SeqRoads2 in
theorem rc_dif {kk n : Nat} {H0 : Hp} {a b : Addr} {xs ys : List V} (ha : H0 a = some (.lst xs)) (hb : H0 b = some (.lst ys)) (hsz : xs.length ≠ ys.length) : RcR X pins σ kk H0 (n + 1) a b false := by
  intro A H s Q E hE hr hf sH I hQ
  obtain ⟨_, its, n1, rv, _, ho⟩ := I.lstM (sH _ _ ha)
  obtain ⟨_, its2, n2, rv2, _, ho2⟩ := I.lstM (sH _ _ hb)
  have la := rv.length
  have lb := rv2.length
  exact SeqAt.RcAt.lists_lengths (items := its.toArray) (items2 := its2.toArray) ⟨_, ho, rfl, _, rfl⟩ ⟨_, ho2, rfl, _, rfl⟩ (by simp; omega) hr.units0 X.prog X.w E Q (hQ H s (fun _ _ e => e) I)
theorem eq_R (O : OwnEq X C D sp k f fd ps) {H0 : Hp} : ∀ (n : Nat) (x y : V) (c : Bool), Eq2 D H0 x y c n → EqR X pins σ k H0 n x y c := by
  intro n
  induction n using Nat.strongRecOn with
  | ind n ih =>
    intro x y c h
    cases h with
    | own h => exact eq_of_rc (fun e => by subst e; exact O.rf h) (rc_own O h)
    | dif h1 h2 hn => exact eq_of_rc (fun e => by subst e; rw [h1] at h2; cases h2; exact absurd rfl hn) (rc_dif (n := 0) h1 h2 hn)
    | lst h1 h2 g =>
      obtain ⟨cs, e1, e2, e3⟩ := e2a_at g
      refine eq_of_rc (fun e => by subst e; exact e2_rf O _ _ _ (.lst h1 h2 g)) ?_
      have := rc_lst (X := X) (pins := pins) (σ := σ) (kk := k) h1 h2 (e2a_len g) (fun i => cs[i]?.getD false) (fun i u v hu hv => by
        obtain ⟨m, q1, q2⟩ := e3 i u v hu hv
        exact ⟨m, q1, ih m (Nat.lt_succ_of_le q1) u v _ q2⟩)
      rw [← e1, all_cs, ← e2] at this
      exact this
/-- x == y of two lists -/
def rEqT (D : Hp → Addr → Addr → Bool → Prop) (N : Nat) : R2 := fun x y H Q => ∃ (a b : Addr) (c : Bool) (n : Nat), x = .ref a ∧ y = .ref b ∧ Eq2 D H (.ref a) (.ref b) c n ∧ n ≤ N ∧ ∀ H', Same H H' → Q (.bl c) H'
theorem op_eqT (O : OwnEq X C D sp k f fd ps) {N : Nat} (hr : Room (k + N) X.A) : OpR X (compareOp .Eq) (rEqT D N) := by
  intro pins s σ H x y v u Q I rx ry hq
  obtain ⟨a, b, c, n, rfl, rfl, h, hn, q⟩ := hq
  cases rx
  cases ry
  show wpAny (model X.prog X.w) X.A (richCompare .Eq (.ref a) (.ref b)) (EP X pins σ Q) X.xe s
  have fin : ∀ H' s', Same H H' → Inv X pins σ H' s' → EP X pins σ Q (.bool c) s' := fun H' s' e J => ⟨.bl c, H', J, rfl, q H' e⟩
  have hr' : Room (k + n) X.A := hr.mono (by omega)
  cases h with
  | own h => exact rc_own (n := 0) O h X.A H s _ _ (fun _ _ e => e) hr' rfl (fun _ _ e => e) I fin
  | dif h1 h2 hd => exact rc_dif (n := 0) h1 h2 hd X.A H s _ _ (fun _ _ e => e) hr' rfl (fun _ _ e => e) I fin
  | lst h1 h2 g =>
    obtain ⟨cs, e1, e2, e3⟩ := e2a_at g
    have := rc_lst (X := X) (pins := pins) (σ := σ) (kk := k) h1 h2 (e2a_len g) (fun i => cs[i]?.getD false) (fun i u v hu hv => by
      obtain ⟨m, q1, q2⟩ := e3 i u v hu hv
      exact ⟨m, q1, eq_R O m u v _ q2⟩)
    rw [← e1, all_cs, ← e2] at this
    exact this X.A H s _ _ (fun _ _ e => e) hr' rfl (fun _ _ e => e) I fin
end
end Tk

namespace Tk
open PySem PySem.Spec PyProof.Rows L2
section
variable {X : Cx} {pins : List (Addr × Obj)} {σ : L2.St} {C f : Addr} {D : Hp → Addr → Addr → Bool → Prop} {sp : Sp} {k : Nat} {fd : FuncData} {ps : List Str}
open AutoSeq1 (wpAny_loadPart') in
open MeetsSeq MeetsSeq2 MeetsSeq3 SeqRoads2 in
theorem ne_lst {kk n : Nat} {H0 : Hp} {a b : Addr} {xs ys : List V} (ha : H0 a = some (.lst xs)) (hb : H0 b = some (.lst ys)) (hsz : xs.length = ys.length) (cs : Nat → Bool)
    (hT : ∀ (i : Nat) (x y : V), xs[i]? = some x → ys[i]? = some y → ∃ m, m ≤ n ∧ EqR X pins σ kk H0 m x y (cs i)) {A : Around} {H : Hp} {s : Shared} {Q : Value → Shared → Prop} {E : Value → Shared → Prop} (hE : ∀ e s, X.xe e s → E e s) (hr : Room (kk + (n + 1)) A)
    (hf : A.frames = X.A.frames) (sH : Same H0 H) (I : Inv X pins σ H s) (hQ : ∀ H' s', Same H H' → Inv X pins σ H' s' → Q (.bool (!(List.range xs.length).all cs)) s') : wpAny (model X.prog X.w) A (richCompare .NotEq (.ref a) (.ref b)) Q E s := by
  obtain ⟨_, its, n1, rv, _, ho⟩ := I.lstM (sH _ _ ha)
  obtain ⟨_, its2, n2, rv2, _, ho2⟩ := I.lstM (sH _ _ hb)
  have la := rv.length
  have lb := rv2.length
  refine wpAny_richCompare_same_room (op := .NotEq) ⟨_, ho, rfl⟩ ⟨_, ho2, rfl⟩ PySem.F.slot_list_ne (wpAny_call (codeAny_call_builtin PySem.F.slot_list_ne.plain PySem.F.entry_list_ne (PySem.F.slot_list_ne.check _ _ _ _ _ _ _ _ ⟨_, ho, rfl⟩ (PySem.F.args_list_ne_2 _ _) ?_))) hr.units0
  have f3 := AutoSeq1.sub_list_list
  have hne : ¬ (its.toArray.size != its2.toArray.size) = true := by simp; omega
  obtain ⟨hp, g, d, tk, os⟩ := s
  wp_walk using wpAny_loadPart' ho, wpAny_loadPart' ho2
  rw [if_neg hne]
  wp_walk
  refine ⟨plainId_quiet plain_eq_loop _, codeAny_builtin entry_eq_loop ?_⟩
  rw [Around.under_plainId plain_eq_loop _]
  refine eqloop_R (n := n) (neg := true) (Rr := fun r s' => match r with | .ok (.ret v) => v ≠ .notImplemented ∧ Q v s' | .ok _ => False | .error e => E e s') ha hb hsz cs hT hr hf hE _ 0 _ H rfl sH I (fun H' s' e J => ?_)
  rw [List.drop_zero, Bool.bne_true]
  exact ⟨(fun x => nomatch x), hQ H' s' e J⟩
open AutoSeq1 (wpAny_loadPart') in
open MeetsSeq MeetsSeq2 MeetsSeq3 SeqRoads2 in
theorem ne_dif {kk : Nat} {H0 : Hp} {a b : Addr} {xs ys : List V} (ha : H0 a = some (.lst xs)) (hb : H0 b = some (.lst ys)) (hsz : xs.length ≠ ys.length) {A : Around} {H : Hp} {s : Shared} {Q : Value → Shared → Prop} {E : Value → Shared → Prop} (hr : Room kk A)
    (sH : Same H0 H) (I : Inv X pins σ H s) (hQ : ∀ H' s', Same H H' → Inv X pins σ H' s' → Q (.bool true) s') : wpAny (model X.prog X.w) A (richCompare .NotEq (.ref a) (.ref b)) Q E s := by
  obtain ⟨_, its, n1, rv, _, ho⟩ := I.lstM (sH _ _ ha)
  obtain ⟨_, its2, n2, rv2, _, ho2⟩ := I.lstM (sH _ _ hb)
  have la := rv.length
  have lb := rv2.length
  refine wpAny_richCompare_same_room (op := .NotEq) ⟨_, ho, rfl⟩ ⟨_, ho2, rfl⟩ PySem.F.slot_list_ne (wpAny_call (codeAny_call_builtin PySem.F.slot_list_ne.plain PySem.F.entry_list_ne (PySem.F.slot_list_ne.check _ _ _ _ _ _ _ _ ⟨_, ho, rfl⟩ (PySem.F.args_list_ne_2 _ _) ?_))) hr.units0
  have f3 := AutoSeq1.sub_list_list
  have hne : (its.toArray.size != its2.toArray.size) = true := by simp; omega
  have h := hQ H s (fun _ _ e => e) I
  obtain ⟨hp, g, d, tk, os⟩ := s
  wp_walk using wpAny_loadPart' ho, wpAny_loadPart' ho2
  rw [if_pos hne]
  wp_walk
  exact ⟨(fun x => nomatch x), h⟩
/-- x != y of two lists -/
def rNeT (D : Hp → Addr → Addr → Bool → Prop) (N : Nat) : R2 := fun x y H Q => ∃ (a b : Addr) (xs ys : List V) (c : Bool) (n : Nat), x = .ref a ∧ y = .ref b ∧ H a = some (.lst xs) ∧ H b = some (.lst ys) ∧ Eq2 D H (.ref a) (.ref b) c n ∧ n ≤ N ∧ ∀ H', Same H H' → Q (.bl (!c)) H'
theorem op_neT (O : OwnEq X C D sp k f fd ps) {N : Nat} (hr : Room (k + N) X.A) : OpR X (compareOp .NotEq) (rNeT D N) := by
  intro pins s σ H x y v u Q I rx ry hq
  obtain ⟨a, b, xs, ys, c, n, rfl, rfl, ha, hb, h, hn, q⟩ := hq
  cases rx
  cases ry
  show wpAny (model X.prog X.w) X.A (richCompare .NotEq (.ref a) (.ref b)) (EP X pins σ Q) X.xe s
  have fin : ∀ H' s', Same H H' → Inv X pins σ H' s' → EP X pins σ Q (.bool (!c)) s' := fun H' s' e J => ⟨.bl (!c), H', J, rfl, q H' e⟩
  have hr' : Room (k + n) X.A := hr.mono (by omega)
  cases h with
  | own h =>
    obtain ⟨⟨dx, fs, e⟩, _⟩ := O.ins h
    rw [ha] at e
    cases e
  | dif h1 h2 hd => exact ne_dif h1 h2 hd hr' (fun _ _ e => e) I fin
  | lst h1 h2 g =>
    obtain ⟨cs, e1, e2, e3⟩ := e2a_at g
    have e4 : (List.range cs.length).all (fun i => cs[i]?.getD false) = c := (all_cs cs).trans e2.symm
    refine ne_lst (kk := k) h1 h2 (e2a_len g) (fun i => cs[i]?.getD false) (fun i u v hu hv => ?_) (fun _ _ e => e) hr' rfl (fun _ _ e => e) I (fun H' s' e J => ?_)
    · obtain ⟨m, q1, q2⟩ := e3 i u v hu hv
      exact ⟨m, q1, eq_R O m u v _ q2⟩
    · rw [← e1, e4]
      exact fin H' s' e J
end
end Tk

namespace Tk
open PySem PySem.Spec PyProof.Rows L2
abbrev sAreNum : Stmt := top 16
abbrev sIsTab : Stmt := top 26
abbrev sChkTab : Stmt := top 27
abbrev sTold0 : Stmt := top 20
/-! ## rows and tables of numbers -/
/-- a Ratio shows as its text -/
def ShowQ (C : Addr) (H : Hp) (p : Addr) (t : Str) : Prop := ∃ q, RatAt C H p q ∧ Tiny q ∧ t = rpQ q
theorem showQ {C : Addr} : Shows C (ShowQ C) (spRShow C rpQ) where
  st := fun ⟨q, h, t, e⟩ s => ⟨q, rat_s h s, t, e⟩
  ins := fun ⟨q, ⟨dx, h⟩, _⟩ => ⟨dx, _, h⟩
  run := fun {H p t Q} ⟨q, h, t1, e⟩ r => ⟨p, q, rfl, h, t1, by rw [← e]; exact r H fun _ _ e => e⟩
/-- two Ratios are alike or not -/
def LikeQ (C : Addr) (H : Hp) (p r : Addr) (c : Bool) : Prop := ∃ x y, RatAt C H p x ∧ RatAt C H r y ∧ c = decide (x = y)
theorem rat_uq {C : Addr} {H : Hp} {p : Addr} {x y : Int × Int} (h : RatAt C H p x) (g : RatAt C H p y) : x = y := by
  obtain ⟨dx, h⟩ := h
  obtain ⟨dy, g⟩ := g
  rw [h] at g
  injection g with g
  injection g with _ _ g
  have e1 := rf_top x.1 x.2
  have e2 := rf_bot x.1 x.2
  rw [g, rf_top] at e1
  rw [g, rf_bot] at e2
  injection e1 with e1
  injection e1 with e1
  injection e2 with e2
  injection e2 with e2
  exact Prod.ext e1.symm e2.symm
theorem likeQ {X : Cx} {C f : Addr} {k : Nat} {fd : FuncData} {ps : List Str} (h1 : PySem.W.findIn X.K (.ref C) "__eq__" = some (some (.ref f))) (h2 : PySem.W.isFn X.K (.ref f) = true) (F : FnOk X.prog X.w X.K X.mg X.base CX0 k f fd ps (spREq C)) (b : Binds X.K fd ps []) :
    OwnEq X C (LikeQ C) (spREq C) k f fd ps where
  st := fun ⟨x, y, h, g, e⟩ s => ⟨x, y, rat_s h s, rat_s g s, e⟩
  ins := fun ⟨x, y, ⟨dx, h⟩, ⟨dy, g⟩, _⟩ => ⟨⟨dx, _, h⟩, dy, _, g⟩
  rf := fun ⟨x, y, h, g, e⟩ => by rw [e]; exact decide_eq_true (rat_uq h g)
  run := fun {H p q c Q} ⟨x, y, h, g, e⟩ r => ⟨p, q, x, y, rfl, h, g, by rw [← e]; exact r H fun _ _ e => e⟩
  at_ := h1
  fn := h2
  ok := F
  bs := b
theorem or_ok {P : Program} {w : World} {K : PySem.W.Frag} {mg : Str → Option Value} {base : Heap} {k : Nat} {f : Addr} {fd : FuncData} {ps : List Str} {sp1 sp2 : Sp} (F1 : FnOk P w K mg base CX0 k f fd ps sp1) (F2 : FnOk P w K mg base CX0 k f fd ps sp2) :
    FnOk P w K mg base CX0 k f fd ps (fun vs H Q E => sp1 vs H Q E ∨ sp2 vs H Q E) :=
  ⟨fun vs H Q E h => h.elim (F1.len vs H Q E) (F2.len vs H Q E), fun A outer s H args us vs Q E hr e0 b r h => h.elim (F1.run A outer s H args us vs Q E hr e0 b r) (F2.run A outer s H args us vs Q E hr e0 b r)⟩
/-- numbers in a list -/
def NumsP (C : Addr) (H : Hp) : List V → List (Int × Int) → Prop
  | [], [] => True
  | x :: xs, q :: qs => NumAt C H x q ∧ NumsP C H xs qs
  | _, _ => False
theorem nums_s {C : Addr} {H H' : Hp} (e : Same H H') : ∀ {xs : List V} {qs : List (Int × Int)}, NumsP C H xs qs → NumsP C H' xs qs
  | [], [], _ => trivial
  | _ :: _, _ :: _, ⟨h1, h⟩ => ⟨num_s h1 e, nums_s e h⟩
  | [], _ :: _, h => h.elim
  | _ :: _, [], h => h.elim
theorem nums_at {C : Addr} {H : Hp} : ∀ {xs : List V} {qs : List (Int × Int)}, NumsP C H xs qs → xs.length = qs.length ∧ ∀ (i : Nat) (x : V), xs[i]? = some x → ∃ q, qs[i]? = some q ∧ NumAt C H x q
  | [], [], _ => ⟨rfl, fun i x h => by simp at h⟩
  | x :: xs, q :: qs, ⟨h1, h⟩ => by
    obtain ⟨l, g⟩ := nums_at h
    refine ⟨by simp [l], fun i y hy => ?_⟩
    cases i with
    | zero =>
      simp at hy
      subst hy
      exact ⟨q, rfl, h1⟩
    | succ i => exact g i y (by simpa using hy)
  | [], _ :: _, h => h.elim
  | _ :: _, [], h => h.elim
/-- a row: a list or tuple of numbers -/
def RowAt (K : PySem.W.Frag) (C : Addr) (H : Hp) (v : V) (qs : List (Int × Int)) : Prop := ∃ a xs, v = .ref a ∧ SqA K H a xs ∧ NumsP C H xs qs
theorem row_s {K : PySem.W.Frag} {C : Addr} {H H' : Hp} {v : V} {qs : List (Int × Int)} (h : RowAt K C H v qs) (e : Same H H') : RowAt K C H' v qs := by
  obtain ⟨a, xs, h1, h2, h3⟩ := h
  exact ⟨a, xs, h1, h2.elim (fun h => .inl (same_l e h)) (fun h => .inr (same_t e h)), nums_s e h3⟩
def RowsP (K : PySem.W.Frag) (C : Addr) (H : Hp) : List V → List (List (Int × Int)) → Prop
  | [], [] => True
  | x :: xs, q :: qs => RowAt K C H x q ∧ RowsP K C H xs qs
  | _, _ => False
theorem rows_s {K : PySem.W.Frag} {C : Addr} {H H' : Hp} (e : Same H H') : ∀ {xs : List V} {qs : List (List (Int × Int))}, RowsP K C H xs qs → RowsP K C H' xs qs
  | [], [], _ => trivial
  | _ :: _, _ :: _, ⟨h1, h⟩ => ⟨row_s h1 e, rows_s e h⟩
  | [], _ :: _, h => h.elim
  | _ :: _, [], h => h.elim
theorem rows_at {K : PySem.W.Frag} {C : Addr} {H : Hp} : ∀ {xs : List V} {qs : List (List (Int × Int))}, RowsP K C H xs qs → xs.length = qs.length ∧ ∀ (i : Nat) (x : V), xs[i]? = some x → ∃ q, qs[i]? = some q ∧ RowAt K C H x q
  | [], [], _ => ⟨rfl, fun i x h => by simp at h⟩
  | x :: xs, q :: qs, ⟨h1, h⟩ => by
    obtain ⟨l, g⟩ := rows_at h
    refine ⟨by simp [l], fun i y hy => ?_⟩
    cases i with
    | zero =>
      simp at hy
      subst hy
      exact ⟨q, rfl, h1⟩
    | succ i => exact g i y (by simpa using hy)
  | [], _ :: _, h => h.elim
  | _ :: _, [], h => h.elim
/-- a table of n rows -/
def TabAt (K : PySem.W.Frag) (C : Addr) (H : Hp) (v : V) (n : Nat) (qss : List (List (Int × Int))) : Prop := n ≤ 6 ∧ qss.length = n ∧ (∀ qs ∈ qss, qs.length = n) ∧ ∃ a xs, v = .ref a ∧ SqA K H a xs ∧ RowsP K C H xs qss
theorem tab_s {K : PySem.W.Frag} {C : Addr} {H H' : Hp} {v : V} {n : Nat} {qss : List (List (Int × Int))} (h : TabAt K C H v n qss) (e : Same H H') : TabAt K C H' v n qss := by
  obtain ⟨h1, h2, h3, a, xs, h4, h5, h6⟩ := h
  exact ⟨h1, h2, h3, a, xs, h4, h5.elim (fun h => .inl (same_l e h)) (fun h => .inr (same_t e h)), rows_s e h6⟩
end Tk

namespace Tk
open PySem PySem.Spec PyProof.Rows L2
def spIsNumN (C : Addr) : Sp := fun vs H Q _ => ∃ (v : V) (q : Int × Int), vs = [v] ∧ NumAt C H v q ∧ Q (.bl true) H
def spAreNumT (K : PySem.W.Frag) (C : Addr) : Sp := fun vs H Q _ => ∃ (v : V) (qs : List (Int × Int)), vs = [v] ∧ RowAt K C H v qs ∧ qs.length ≤ 6 ∧ ∀ H', Same H H' → Q (.bl true) H'
def spIsTabT (K : PySem.W.Frag) (C : Addr) : Sp := fun vs H Q _ => ∃ (v : V) (n : Nat) (qss : List (List (Int × Int))), vs = [v] ∧ TabAt K C H v n qss ∧ ∀ H', Same H H' → Q (.bl true) H'
def spChkTab (K : PySem.W.Frag) (C : Addr) : Sp := fun vs H Q _ => ∃ (v : V) (n : Nat) (qss : List (List (Int × Int))), vs = [v] ∧ TabAt K C H v n qss ∧ ∀ H', Same H H' → Q .non H'
section
variable {P : Program} {w : World} {K : PySem.W.Frag} {mg : Str → Option Value} {base : Heap}
theorem imp_ok {k : Nat} {f : Addr} {fd : FuncData} {ps : List Str} {sp sp' : Sp} (F : FnOk P w K mg base CX0 k f fd ps sp) (h : ∀ vs H Q E, sp' vs H Q E → sp vs H Q E) : FnOk P w K mg base CX0 k f fd ps sp' :=
  ⟨fun vs H Q E z => F.len vs H Q E (h _ _ _ _ z), fun A outer s H args us vs Q E hr e0 b r z => F.run A outer s H args us vs Q E hr e0 b r (h _ _ _ _ z)⟩
theorem ok_isNumN {f f1 fI C : Addr} {fd fd1 dI : FuncData} (F : Fun K "is_number" "is_number" sIsNum f fd) (M : RtM K mg C fI dI) (D1 : Df K mg "is_integer" sIsInt ["value"] f1 fd1) (B : Bl mg) : FnOk P w K mg base CX0 2 f fd ["value"] (spIsNumN C) :=
  imp_ok (or_ok (ok_isNumR F M D1 B) (ok_isNumV F M D1 B)) fun vs H Q E ⟨v, q, e, h, r⟩ => by
    rcases h with ⟨p, rfl, h⟩ | ⟨i, rfl, rfl⟩
    · exact .inl ⟨p, q, e, h, r⟩
    · exact .inr ⟨.int i, some i, _, e, .int i, .base (.int i), M.kI, r⟩
abbrev nAreNum : List Str := ["value", "number"]
theorem sc_areNum : FnScope nAreNum ["value"] (defScope sAreNum) := ⟨rfl, rfl, rfl, by decide +kernel, rfl, by decide +kernel, by decide +kernel⟩
theorem ok_areNumT {f f1 f2 f5 fI C : Addr} {fd fd1 fd2 fd5 dI : FuncData} (F : Fun K "are_numbers" "are_numbers" sAreNum f fd) (M : RtM K mg C fI dI) (D1 : Df K mg "is_integer" sIsInt ["value"] f1 fd1) (D2 : Df K mg "is_number" sIsNum ["value"] f2 fd2) (D5 : Df K mg "is_list" sIsLst ["value"] f5 fd5) (B : Bl mg) :
    FnOk P w K mg base CX0 3 f fd ["value"] (spAreNumT K C) := by
  have G2 : FnOk P w K mg base CX0 2 f2 fd2 ["value"] (spIsNumN C) := ok_isNumN D2.F M D1 B
  have G5 : FnOk P w K mg base CX0 1 f5 fd5 ["value"] (spIsLst K) := ok_isLst D5.F B
  refine F.ok sc_areNum (fun vs H Q E h => ?_) (fun cdv A outer s H vs Q E hr h => ?_)
  · obtain ⟨v, qs, rfl, _⟩ := h
    rfl
  · obtain ⟨v, qs, rfl, ⟨a, xs, rfl, ha, hn⟩, few, q⟩ := h
    refine ⟨_, pss_one (ps_ret (pe_and (pe_call G5 (hr.mono (by decide)) rfl D5.g D5.F.kp D5.b .nil pass0 (pa_cons (pv 0) pa_nil)) (pe_one (pe_callB (cr_all rfl) (by rfl) B.all PyProof.Rows.boot_all (pa_cons
      (pe_lc (own := [("number", 1)]) (g := gName 1) (tt := tYes) (te := tCall (spIsNumN C) [] E0 (tCons (tVar 1) tNil)) rfl sc_areNum.nd (pi_sq (pv 0)) (blkOk_by (N := nAreNum) (sc := defScope sAreNum) (by decide +kernel))
        (fun _ _ _ _ _ => pg_name (i := 1) sc_areNum.nd rfl (Or.inl rfl)) (fun _ _ _ _ _ => pts_nil) (fun _ _ _ _ _ => pe_call G2 hr rfl D2.g D2.F.kp D2.b .nil pass0 (pa_cons (pv 1) pa_nil))) pa_nil))))), ?_⟩
    refine ⟨_, rfl, .ref a, some xs, rfl, .sq ha, fun H1 s1 => ⟨true, rfl, iteT ?_⟩⟩
    have h1 := same_a s1 ha
    have n1 := nums_s s1 hn
    refine ⟨_, rfl, a, xs, rfl, h1, fun it hit D hD => ?_⟩
    refine lc_sq hit (LcP H1 D fun k => List.replicate k (V.bl true)) (lcp_0 hD rfl) (fun k H2 _ p => p.1) ?_ ?_
    · intro k x H2 hx p
      obtain ⟨z, hz, hnum⟩ := (nums_at n1).2 k x hx
      have hk := lt_of_at hz
      refine ⟨rfl, _, rfl, x, z, rfl, num_s hnum p.1, ?_⟩
      exact lcp_put hD p (by rw [List.replicate_succ']) (by rw [List.length_replicate]; omega)
    · intro H2 p
      refine ⟨D, List.replicate xs.length true, rfl, sl_of (by rw [p.2, List.map_replicate]), ?_⟩
      rw [show (List.replicate xs.length true).all id = true by simp]
      exact q H2 (s1.trans p.1)
def lenR (K : PySem.W.Frag) : List V → Hp → VK → Prop := fun xs H Q => ∃ p ys, xs = [V.ref p] ∧ (SqL K H p ys ∨ SqT K H p ys) ∧ Q (.int ys.length) H
abbrev teTabRow (K : PySem.W.Frag) (C : Addr) : TE := tAndV (tCall (spAreNumT K C) [] E0 (tCons (tVar 1) tNil)) (tOp rEq (tCB (lenR K) (tCons (tVar 1) tNil)) (tCB (lenR K) (tCons (tVar 0) tNil)))
abbrev nIsTab : List Str := ["value", "row"]
theorem sc_isTab : FnScope nIsTab ["value"] (defScope sIsTab) := ⟨rfl, rfl, rfl, by decide +kernel, rfl, by decide +kernel, by decide +kernel⟩
theorem ok_isTabT {f f1 f2 f3 f5 f7 fI C : Addr} {fd fd1 fd2 fd3 fd5 fd7 dI : FuncData} (F : Fun K "is_table" "is_table" sIsTab f fd) (M : RtM K mg C fI dI) (D1 : Df K mg "is_integer" sIsInt ["value"] f1 fd1) (D2 : Df K mg "is_number" sIsNum ["value"] f2 fd2) (D3 : Df K mg "are_numbers" sAreNum ["value"] f3 fd3)
    (D5 : Df K mg "is_list" sIsLst ["value"] f5 fd5) (D7 : Df K mg "is_size" sIsSize ["value"] f7 fd7) (G7 : FnOk P w K mg base CX0 3 f7 fd7 ["value"] spIsSize) (B : Bl mg) : FnOk P w K mg base CX0 4 f fd ["value"] (spIsTabT K C) := by
  have G3 : FnOk P w K mg base CX0 3 f3 fd3 ["value"] (spAreNumT K C) := ok_areNumT D3.F M D1 D2 D5 B
  have G5 : FnOk P w K mg base CX0 1 f5 fd5 ["value"] (spIsLst K) := ok_isLst D5.F B
  refine F.ok sc_isTab (fun vs H Q E h => ?_) (fun cdv A outer s H vs Q E hr h => ?_)
  · obtain ⟨v, n, qss, rfl, _⟩ := h
    rfl
  · obtain ⟨v, n, qss, rfl, ⟨n6, ln, lr, a, xs, rfl, ha, hR⟩, q⟩ := h
    refine ⟨_, pss_cons (ps_if (PW.pt (pw_or (pt_not (pt_val (pe_call G5 (hr.mono (by decide)) rfl D5.g D5.F.kp D5.b .nil pass0 (pa_cons (pv 0) pa_nil))))
        (pw_or1 (pt_not (pt_val (pe_call G7 hr rfl D7.g D7.F.kp D7.b .nil pass0 (pa_cons (pe_callB call_len_seq (by rfl) B.len PySem.boot_len (pa_cons (pv 0) pa_nil)) pa_nil))))))) (pss_one (ps_ret pe_bl)) pss_nil)
      (pss_one (ps_ret (pe_callB (cr_all rfl) (by rfl) B.all PyProof.Rows.boot_all (pa_cons
        (pe_lc (own := [("row", 1)]) (g := gName 1) (tt := tYes) (te := teTabRow K C) rfl sc_isTab.nd (pi_sq (pv 0)) (blkOk_by (N := nIsTab) (sc := defScope sIsTab) (by decide +kernel))
          (fun _ _ _ _ _ => pg_name (i := 1) sc_isTab.nd rfl (Or.inl rfl)) (fun _ _ _ _ _ => pts_nil) (fun _ _ _ _ _ => pe_and (pe_call G3 hr rfl D3.g D3.F.kp D3.b .nil pass0 (pa_cons (pv 1) pa_nil)) (pe_one (pe_cmpR op_eq (pe_callB call_len_seq (by rfl) B.len PySem.boot_len (pa_cons (pv 1) pa_nil)) (pe_callB call_len_seq (by rfl) B.len PySem.boot_len (pa_cons (pv 0) pa_nil)) (nomark _))))) pa_nil)))), ?_⟩
    refine ⟨_, rfl, .ref a, some xs, rfl, .sq ha, fun H1 s1 => ⟨true, rfl, ?_⟩⟩
    have h1 := same_a s1 ha
    have R1 := rows_s s1 hR
    have lx : xs.length = n := by rw [(rows_at R1).1]; exact ln
    refine ⟨_, rfl, a, xs, rfl, h1, _, rfl, ?_⟩
    rw [show (decide ((0 : Int) ≤ (xs.length : Int)) && decide ((xs.length : Int) ≤ 6)) = true by rw [lx]; simp; omega]
    refine ⟨_, rfl, iteF ?_⟩
    refine ⟨_, rfl, a, xs, rfl, h1, fun it hit D hD => ?_⟩
    refine lc_sq hit (LcP H1 D fun k => List.replicate k (V.bl true)) (lcp_0 hD rfl) (fun k H2 _ p => p.1) ?_ ?_
    · intro k x H2 hx p
      obtain ⟨z, hz, hrow⟩ := (rows_at R1).2 k x hx
      have hk := lt_of_at hx
      have lz := lr z (List.mem_of_getElem? hz)
      refine ⟨rfl, _, rfl, x, z, rfl, row_s hrow p.1, by omega, fun H3 s3 => ⟨true, rfl, iteT ?_⟩⟩
      have p3 : LcP H1 D (fun k => List.replicate k (V.bl true)) k H3 := ⟨p.1.trans s3, s3 _ _ p.2⟩
      obtain ⟨b, ys, rfl, hb, hn⟩ := row_s hrow (p.1.trans s3)
      refine ⟨_, rfl, b, ys, rfl, hb, _, rfl, a, xs, rfl, same_a p3.1 h1, rfl, ?_⟩
      rw [show decide (V.int (ys.length : Int) = V.int (xs.length : Int)) = true from decide_eq_true (by rw [(nums_at hn).1, lz, lx])]
      exact lcp_put hD p3 (by rw [List.replicate_succ']) (by rw [List.length_replicate]; omega)
    · intro H2 p
      refine ⟨D, List.replicate xs.length true, rfl, sl_of (by rw [p.2, List.map_replicate]), ?_⟩
      rw [show (List.replicate xs.length true).all id = true by simp]
      exact q H2 (s1.trans p.1)
theorem sc_chkTab : FnScope ["table"] ["table"] (defScope sChkTab) := ⟨rfl, rfl, rfl, by decide +kernel, rfl, by decide +kernel, by decide +kernel⟩
theorem ok_chkTab {f f1 C : Addr} {fd fd1 : FuncData} (F : Fun K "check_table" "check_table" sChkTab f fd) (D1 : Df K mg "is_table" sIsTab ["value"] f1 fd1) (G1 : FnOk P w K mg base CX0 4 f1 fd1 ["value"] (spIsTabT K C)) : FnOk P w K mg base CX0 5 f fd ["table"] (spChkTab K C) := by
  refine F.ok sc_chkTab (fun vs H Q E h => ?_) (fun cdv A outer s H vs Q E hr h => ?_)
  · obtain ⟨v, n, qss, rfl, _⟩ := h
    rfl
  · obtain ⟨v, n, qss, rfl, ht, q⟩ := h
    refine ⟨_, pss_one (ps_if (pt_not (pt_val (pe_call G1 hr rfl D1.g D1.F.kp D1.b .nil pass0 (pa_cons (pv 0) pa_nil)))) pss_never pss_nil), ?_⟩
    exact ⟨_, rfl, v, n, qss, rfl, ht, fun H' s' => ⟨_, rfl, iteF (q H' s')⟩⟩
end
end Tk

namespace Tk
open PySem PySem.Spec PyProof.Rows L2
abbrev sLedQ : Stmt := top 19
/-! ## tables of Ratios in new lists -/
/-- rows that are lists of Ratios, none of them at L -/
def RtRows (L C : Addr) (H : Hp) : List V → List (List (Int × Int)) → Prop
  | [], [] => True
  | x :: xs, q :: qs => (∃ a ys, x = .ref a ∧ a ≠ L ∧ H a = some (.lst ys) ∧ RatsP C H ys q) ∧ RtRows L C H xs qs
  | _, _ => False
theorem rt_s {L C : Addr} {H H' : Hp} (e : Same H H') : ∀ {xs : List V} {qs : List (List (Int × Int))}, RtRows L C H xs qs → RtRows L C H' xs qs
  | [], [], _ => trivial
  | _ :: _, _ :: _, ⟨⟨a, ys, h1, h2, h3, h4⟩, h⟩ => ⟨⟨a, ys, h1, h2, e _ _ h3, rats_s e h4⟩, rt_s e h⟩
  | [], _ :: _, h => h.elim
  | _ :: _, [], h => h.elim
theorem rt_but {L C : Addr} {H : Hp} {zs : List V} {o : HO} (hl : H L = some (.lst zs)) : ∀ {xs : List V} {qs : List (List (Int × Int))}, RtRows L C H xs qs → RtRows L C (upd H L o) xs qs
  | [], [], _ => trivial
  | _ :: _, _ :: _, ⟨⟨a, ys, h1, h2, h3, h4⟩, h⟩ => ⟨⟨a, ys, h1, h2, by rw [upd_ne h2]; exact h3, rats_but hl smx_upd h4⟩, rt_but hl h⟩
  | [], _ :: _, h => h.elim
  | _ :: _, [], h => h.elim
theorem rt_app {L C : Addr} {H : Hp} : ∀ {xs ys : List V} {qs rs : List (List (Int × Int))}, RtRows L C H xs qs → RtRows L C H ys rs → RtRows L C H (xs ++ ys) (qs ++ rs)
  | [], _, [], _, _, h => h
  | _ :: _, _, _ :: _, _, ⟨h1, h2⟩, h => ⟨h1, rt_app h2 h⟩
  | [], _, _ :: _, _, h, _ => h.elim
  | _ :: _, _, [], _, h, _ => h.elim
theorem rt_len {L C : Addr} {H : Hp} : ∀ {xs : List V} {qs : List (List (Int × Int))}, RtRows L C H xs qs → xs.length = qs.length
  | [], [], _ => rfl
  | _ :: _, _ :: _, ⟨_, h⟩ => by rw [List.length_cons, List.length_cons, rt_len h]
  | [], _ :: _, h => h.elim
  | _ :: _, [], h => h.elim
/-- a table of Ratios: a list of lists -/
def RtTab (C : Addr) (H : Hp) (r : Addr) (qss : List (List (Int × Int))) : Prop := ∃ xs, H r = some (.lst xs) ∧ RtRows r C H xs qss
theorem rtt_s {C : Addr} {H H' : Hp} {r : Addr} {qss : List (List (Int × Int))} (h : RtTab C H r qss) (e : Same H H') : RtTab C H' r qss := let ⟨xs, h1, h2⟩ := h; ⟨xs, e _ _ h1, rt_s e h2⟩
theorem nums_of {C : Addr} {H : Hp} : ∀ {xs : List V} {qs : List (Int × Int)}, RatsP C H xs qs → NumsP C H xs qs
  | [], [], _ => trivial
  | _ :: _, _ :: _, ⟨⟨p, h1, h2⟩, h⟩ => ⟨.inl ⟨p, h1, h2⟩, nums_of h⟩
  | [], _ :: _, h => h.elim
  | _ :: _, [], h => h.elim
theorem rows_of {K : PySem.W.Frag} {L C : Addr} {H : Hp} : ∀ {xs : List V} {qs : List (List (Int × Int))}, RtRows L C H xs qs → RowsP K C H xs qs
  | [], [], _ => trivial
  | _ :: _, _ :: _, ⟨⟨a, ys, h1, _, h3, h4⟩, h⟩ => ⟨⟨a, ys, h1, .inl (sl_of h3), nums_of h4⟩, rows_of h⟩
  | [], _ :: _, h => h.elim
  | _ :: _, [], h => h.elim
theorem tab_of {K : PySem.W.Frag} {C : Addr} {H : Hp} {r : Addr} {n : Nat} {qss : List (List (Int × Int))} (h : RtTab C H r qss) (n6 : n ≤ 6) (ln : qss.length = n) (lr : ∀ qs ∈ qss, qs.length = n) : TabAt K C H (.ref r) n qss :=
  let ⟨xs, h1, h2⟩ := h
  ⟨n6, ln, lr, r, xs, rfl, .inl (sl_of h1), rows_of h2⟩
/-- lists that are new since H -/
def NewL (H : Hp) (xs : List V) : Prop := ∀ x ∈ xs, ∃ a, x = .ref a ∧ H a = none
theorem newl_nil {H : Hp} : NewL H [] := fun x h => nomatch h
theorem newl_put {H : Hp} {xs : List V} {a : Addr} (h : NewL H xs) (ha : H a = none) : NewL H (xs ++ [.ref a]) := fun x hx => by
  rcases List.mem_append.mp hx with z | z
  · exact h x z
  · exact ⟨a, List.mem_singleton.mp z, ha⟩
theorem newl_le {H H1 : Hp} {xs : List V} (h : NewL H1 xs) (e : Same H H1) : NewL H xs := fun x hx => let ⟨a, h1, h2⟩ := h x hx; ⟨a, h1, e.free h2⟩
def NewIn (H H' : Hp) (r : Addr) : Prop := ∃ xs, H' r = some (.lst xs) ∧ NewL H xs
/-- a new table of Ratios, its rows new as well -/
def NewTab (C : Addr) (H : Hp) (Q : VK) (qss : List (List (Int × Int))) : Prop := ∀ (H' : Hp) (r : Addr), Same H H' → H r = none → RtTab C H' r qss → NewIn H H' r → Q (.ref r) H'
def spToldQ (K : PySem.W.Frag) (C : Addr) : Sp := fun vs H Q _ => ∃ (v : V) (n : Nat) (qss : List (List (Int × Int))), vs = [v] ∧ TabAt K C H v n qss ∧ NewTab C H Q qss
section
variable {P : Program} {w : World} {K : PySem.W.Frag} {mg : Str → Option Value} {base : Heap}
abbrev nToldQ : List Str := ["rows", "row", "number"]
theorem sc_toldQ : FnScope nToldQ ["rows"] (defScope sTold0) := ⟨rfl, rfl, rfl, by decide +kernel, rfl, by decide +kernel, by decide +kernel⟩
abbrev scToldQ : Scope := { kind := .function, names := [(".0", .local), ("row", .local)], isGenerator := false, isCoroutine := false }
abbrev teAsR (C : Addr) (i : Nat) : TE := tCall (spAsR C) [] E0 (tCons (tVar i) tNil)
theorem ok_toldQ {f f1 f2 fI C : Addr} {fd fd1 fd2 dI : FuncData} (F : Fun K "told" "told" sTold0 f fd) (M : RtM K mg C fI dI) (D1 : Df K mg "is_integer" sIsInt ["value"] f1 fd1) (D2 : Df K mg "as_ratio" sAsRat ["number"] f2 fd2) (B : Bl mg) : FnOk P w K mg base CX0 5 f fd ["rows"] (spToldQ K C) := by
  have G2 : FnOk P w K mg base CX0 4 f2 fd2 ["number"] (spAsR C) := ok_asr D2.F M D1 B
  refine F.ok sc_toldQ (fun vs H Q E h => ?_) (fun cdv A outer s H vs Q E hr h => ?_)
  · obtain ⟨v, n, qss, rfl, _⟩ := h
    rfl
  · obtain ⟨v, n, qss, rfl, ⟨n6, ln, lr, a, xs, rfl, ha, hR⟩, q⟩ := h
    refine ⟨_, pss_one (ps_ret (pe_lc (own := [("row", 1)]) (g := gName 1) (tt := tYes) (te := tLc (iSq K (tVar 1)) (gName 2) tYes (teAsR C 2) [2]) rfl sc_toldQ.nd (pi_sq (pv 0)) (blkOk_by (N := nToldQ) (sc := defScope sTold0) (by decide +kernel))
      (fun _ _ _ _ _ => pg_name (i := 1) sc_toldQ.nd rfl (Or.inl rfl)) (fun _ _ _ _ _ => pts_nil)
      (fun _ _ _ _ _ => pe_lc (own := [("number", 2)]) (g := gName 2) (tt := tYes) (te := teAsR C 2) rfl sc_toldQ.nd (pi_sq (pv 1)) (blkOk_by (N := nToldQ) (sc := scToldQ) (by decide +kernel))
        (fun _ _ _ _ _ => pg_name (i := 2) sc_toldQ.nd rfl (Or.inl rfl)) (fun _ _ _ _ _ => pts_nil) (fun _ _ _ _ _ => pe_call G2 hr rfl D2.g D2.F.kp D2.b .nil pass0 (pa_cons (pv 2) pa_nil))))), ?_⟩
    refine ⟨_, rfl, a, xs, rfl, ha, fun it hit D hD => ?_⟩
    refine lc_sq hit (fun k G => Same H G ∧ ∃ acc, G D = some (.lst acc) ∧ RtRows D C G acc (qss.take k) ∧ NewL H acc) ⟨same_new hD, [], upd_same, by simp [RtRows], newl_nil⟩ (fun k G _ p => p.1) ?_ ?_
    · rintro k x G hx ⟨sG, acc, hacc, hP, hN⟩
      obtain ⟨z, hz, hrow⟩ := (rows_at hR).2 k x hx
      have lz := lr z (List.mem_of_getElem? hz)
      obtain ⟨b, ys, rfl, hb, hn⟩ := row_s hrow sG
      have fewk := rt_len hP
      have : (qss.take k).length ≤ 6 := by rw [List.length_take]; omega
      refine ⟨rfl, _, rfl, b, ys, rfl, hb, fun it2 hit2 D2 hD2 => ?_⟩
      have nDD : D2 ≠ D := fun e => by rw [e, hacc] at hD2; cases hD2
      refine lc_sq hit2 (fun j G2 => Same G G2 ∧ ∃ ac, G2 D2 = some (.lst ac) ∧ RatsP C G2 ac (z.take j)) ⟨same_new hD2, [], upd_same, by simp [RatsP]⟩ (fun j G2 _ p => p.1) ?_ ?_
      · rintro j y G2 hy ⟨s2, ac, hac, hQ⟩
        obtain ⟨w', hw, hnum⟩ := (nums_at hn).2 j y hy
        have fewj := (rats_at hQ).1
        have : (z.take j).length ≤ 6 := by rw [List.length_take]; omega
        refine ⟨rfl, _, rfl, y, w', rfl, num_s hnum s2, fun G3 p s3 hp => ?_⟩
        refine ⟨ac, s3 _ _ hac, szlt (by omega), same_mut (s2.trans s3) hD2, ac ++ [.ref p], upd_same, ?_⟩
        rw [take_at hw]
        exact rats_but (s3 _ _ hac) smx_upd (rats_app (rats_s s3 hQ) ⟨⟨p, rfl, hp⟩, trivial⟩)
      · rintro G2 ⟨s2, ac, hac, hQ⟩
        rw [show z.take ys.length = z by rw [(nums_at hn).1, List.take_length]] at hQ
        refine ⟨acc, s2 _ _ hacc, szlt (by omega), same_mut (sG.trans s2) hD, acc ++ [.ref D2], upd_same, ?_, newl_put hN (sG.free hD2)⟩
        rw [take_at hz]
        exact rt_but (s2 _ _ hacc) (rt_app (rt_s s2 hP) ⟨⟨D2, ac, rfl, nDD, hac, hQ⟩, trivial⟩)
    · rintro G ⟨sG, acc, hacc, hP, hN⟩
      rw [show qss.take xs.length = qss by rw [(rows_at hR).1, List.take_length]] at hP
      exact q G D sG hD ⟨acc, hacc, hP⟩ ⟨acc, hacc, hN⟩
end
end Tk

namespace ZmX
open PySem PySem.Spec PyProof.Rows L2
/-! ## zip of two, each a list or a tuple -/
/-- read as a tuple (t) or as a list -/
def SqB (t : Bool) (K : PySem.W.Frag) (H : Hp) (a : Addr) (xs : List V) : Prop := if t = true then SqT K H a xs else SqL K H a xs
def ItB (t : Bool) (h : Heap) (it l : Addr) (i : Nat) : Prop := if t = true then h.IsTupleIter it l i else h.IsListIter it l i
def SeB (t : Bool) (h : Heap) (l : Addr) (xs : Array Value) : Prop := if t = true then h.IsTuple l xs else h.IsList l xs
theorem drawB {prog : Program} {w : World} {A : Around} (hh : A.handled = none) (t : Bool) (it l : Addr) (hne : l ≠ it) (items : Array Value) :
    Draws prog w A it [it, l] items.size (fun i v => items[i]? = some v) (fun i h => ItB t h it l i ∧ SeB t h l items) := by
  cases t
  · exact Draws.list hh it l hne items
  · exact Draws.tuple hh it l hne items
theorem itB_obj {t : Bool} {h : Heap} {it l : Addr} {i : Nat} (s : ItB t h it l i) : ∃ o, h.get? it = some o ∧ ∀ v, o.data ≠ .cell v := by
  cases t <;> obtain ⟨o, e, _, d⟩ := s <;> exact ⟨o, e, fun v q => by rw [d] at q; cases q⟩
theorem itB_at {t : Bool} {h h' : Heap} {it l : Addr} {i : Nat} (s : ItB t h it l i) (k : ∀ o, h.get? it = some o → h'.get? it = some o) : ItB t h' it l i := by
  cases t
  · exact Heap.IsListIter.at s k
  · exact Heap.IsTupleIter.at s k
section
variable {X : Cx} {pins : List (Addr × Obj)} {σ : L2.St} {H : Hp} {s : Shared}
theorem seB_of {t : Bool} {a : Addr} {xs : List V} (I : Inv X pins σ H s) (h : SqB t X.K H a xs) : ∃ its : List Value, Vals xs its ∧ SeB t s.heap a its.toArray ∧ a < s.heap.objs.size := by
  cases t
  · obtain ⟨its, rv, p, _⟩ := I.list h
    exact ⟨its, rv, p.isList, p.lt⟩
  · obtain ⟨its, rv, p, _⟩ := I.tuple h
    obtain ⟨o, ho, _⟩ := id p
    exact ⟨its, rv, p, Heap.lt_size ho⟩
theorem sqB_inj {t : Bool} {a : Addr} {xs ys : List V} (I : Inv X pins σ H s) (h : SqB t X.K H a xs) (g : SqB t X.K H a ys) : xs = ys := by
  cases t
  · exact I.list_inj h g
  · exact I.tuple_inj h g
end
/-- the two as they stand at each turn, the items in new pairs -/
def ItzB (t u : Bool) (K : PySem.W.Frag) (a b : Addr) : It :=
  ⟨fun i H => ∃ (xs ys : List V) (x y : V), SqB t K H a xs ∧ SqB u K H b ys ∧ xs[i]? = some x ∧ ys[i]? = some y,
    fun i H v H' => ∃ T x y, v = .ref T ∧ H T = none ∧ H' = upd H T (.tup [x, y]) ∧ (∀ xs, SqB t K H a xs → xs[i]? = some x) ∧ ∀ ys, SqB u K H b ys → ys[i]? = some y,
    fun i H => ∃ xs ys : List V, SqB t K H a xs ∧ SqB u K H b ys ∧ i ≤ xs.length ∧ i ≤ ys.length ∧ (xs.length = i ∨ ys.length = i)⟩
theorem sepB {z TI TO i1 i2 a b : Addr} (D : ZipApart z TI TO i1 i2 a b) : ZipSep2 z TI TO i1 i2 [i1, a] [i2, b] where
  TIz := D.TIz
  TOz := D.TOz
  TITO := D.TITO
  TIi1 := D.TIi1
  mem1 := by simp
  zf1 := by simp; exact ⟨D.i1z.symm, D.l1z.symm⟩
  Tf1 := by simp; exact ⟨D.TOi1, D.l1TO.symm⟩
  TIi2 := D.TIi2
  mem2 := by simp
  zf2 := by simp; exact ⟨D.i2z.symm, D.l2z.symm⟩
  Tf2 := by simp; exact ⟨D.TOi2, D.l2TO.symm⟩
  sep1_2 := by simp; exact ⟨D.i12, D.l2i1.symm⟩
  sep2_1 := by simp; exact ⟨D.i12.symm, D.l1i2.symm⟩
theorem turn_zipB {P : Program} {w : World} {K : PySem.W.Frag} {elts : List Expr} {kk : Nat} {tpos : Pos} {t u : Bool} {a b z TI TO i1 i2 : Addr} (D : ZipApart z TI TO i1 i2 a b) :
    Turn P w K (.Tuple elts kk tpos) (ItzB t u K a b) [z, TI, TO, i1, i2] z (fun i h => IsZip h z TI TO .none ∧ IsPair h TI (.ref i1) (.ref i2) ∧ (∃ x y, IsPair h TO x y) ∧ ItB t h i1 a i ∧ ItB u h i2 b i) where
  mem := by simp
  obj := fun i h st c hc => by
    obtain ⟨hz, hTI, ⟨x, y, hTO⟩, h1, h2⟩ := st
    simp at hc
    rcases hc with rfl | rfl | rfl | rfl | rfl
    · exact ⟨_, hz, fun v q => nomatch q⟩
    · exact ⟨_, hTI, fun v q => nomatch q⟩
    · exact ⟨_, hTO, fun v q => nomatch q⟩
    · exact itB_obj h1
    · exact itB_obj h2
  keep := fun i h h' st k => by
    obtain ⟨hz, hTI, ⟨x, y, hTO⟩, h1, h2⟩ := st
    exact ⟨k z (by simp) _ hz, k TI (by simp) _ hTI, ⟨x, y, k TO (by simp) _ hTO⟩, itB_at h1 (k i1 (by simp)), itB_at h2 (k i2 (by simp))⟩
  item := by
    intro X hP hw hK hc i pins s σ H E I hf st hg
    subst hP hw hK
    obtain ⟨hz, hTI, ⟨x0, y0, hTO⟩, h1, h2⟩ := st
    obtain ⟨xs, ys, x, y, hqx, hqy, hx, hy⟩ := hg
    obtain ⟨its, rv, p, _⟩ := seB_of I hqx
    obtain ⟨its2, rv2, p2, _⟩ := seB_of I hqy
    obtain ⟨v1, hv1, r1⟩ := rv.get hx
    obtain ⟨v2, hv2, r2⟩ := rv2.get hy
    have n1 : i < its.length := by
      have := List.getElem?_eq_some_iff.mp hv1
      exact this.1
    have n2 : i < its2.length := by
      have := List.getElem?_eq_some_iff.mp hv2
      exact this.1
    have hzl : z < s.heap.objs.size := Heap.lt_size hz
    refine wpAny_pyNext_zipD2_item (sepB D) (drawB (show X.A.in1.handled = none from I.ok.hd hc) t i1 a D.l1i1 its.toArray) (drawB (show X.A.in1.handled = none from I.ok.hd hc) u i2 b D.l2i2 its2.toArray) hz hTI hTO ⟨h1, p⟩ ⟨h2, p2⟩ (by simp; omega) (by simp; omega)
      fun u1 u2 h' tk q1 q2 z' TO' s1 s2 hT hsz hk => ?_
    have e1 : u1 = v1 := by
      have : its[i]? = some u1 := by simpa using q1
      rw [hv1] at this
      exact (Option.some.inj this).symm
    have e2 : u2 = v2 := by
      have : its2[i]? = some u2 := by simpa using q2
      rw [hv2] at this
      exact (Option.some.inj this).symm
    subst e1 e2
    refine ⟨_, rfl, wpAny_letOwnedTupleGo_zip (s := { s with heap := h', toks := tk }) z' fun h'' z'' sb => ?_⟩
    have nz : s.heap.objs.size ≠ z := Nat.ne_of_gt hzl
    have new : ObjOk X.prog X.w (upd H s.heap.objs.size (.tup [x, y])) h'' s.heap.objs.size (.tup [x, y]) :=
      ⟨by show 2 ≤ sizeLine; decide, [u1, u2], .cons r1 (.cons r2 .nil), ⟨_, (sb.2 _ nz).trans hT, rfl, _, rfl⟩⟩
    have I1 : Inv X pins σ (upd H s.heap.objs.size (.tup [x, y])) { s with heap := h'', toks := tk } :=
      I.turnedNew (t' := tk) (ch := [z, TI, TO, i1, i2]) (fun c o hb q => by
        simp at hb
        exact (sb.2 c hb.1).trans (hk c o hb.1 hb.2.2.1 hb.2.2.2.1 hb.2.2.2.2 q)) hf (Nat.le_refl _) new
    refine ⟨.ref s.heap.objs.size, _, I1, rfl, ⟨_, x, y, rfl, I.hok.fresh (Nat.le_refl _), rfl, fun l hl => by rw [sqB_inj I hl hqx]; exact hx, fun l hl => by rw [sqB_inj I hl hqy]; exact hy⟩, ⟨z'', ?_, ⟨u1, u2, ?_⟩, ?_, ?_⟩, fun c hcm => ?_⟩
    · exact (sb.2 _ D.TIz).trans (hk _ _ D.TIz D.TITO D.TIi1 D.TIi2 hTI)
    · exact (sb.2 _ D.TOz).trans TO'
    · exact itB_at s1.1 fun o q => (sb.2 _ D.i1z).trans q
    · exact itB_at s2.1 fun o q => (sb.2 _ D.i2z).trans q
    · obtain ⟨o, ho⟩ : ∃ o, s.heap.get? c = some o := by
        simp at hcm
        rcases hcm with rfl | rfl | rfl | rfl | rfl
        · exact ⟨_, hz⟩
        · exact ⟨_, hTI⟩
        · exact ⟨_, hTO⟩
        · exact let ⟨o, e, _⟩ := itB_obj h1; ⟨o, e⟩
        · exact let ⟨o, e, _⟩ := itB_obj h2; ⟨o, e⟩
      rw [upd_ne (Nat.ne_of_lt (Heap.lt_size ho))]
      exact (hf c hcm).1
  done := by
    intro X hP hw hK hc i pins s σ H E I hf st hg
    subst hP hw hK
    obtain ⟨hz, hTI, ⟨x0, y0, hTO⟩, h1, h2⟩ := st
    obtain ⟨xs, ys, hqx, hqy, l1, l2, hend⟩ := hg
    obtain ⟨its, rv, p, _⟩ := seB_of I hqx
    obtain ⟨its2, rv2, p2, _⟩ := seB_of I hqy
    have e1 := rv.length
    have e2 := rv2.length
    refine wpAny_pyNext_zipD2_end (sepB D) (drawB (show X.A.in1.handled = none from I.ok.hd hc) t i1 a D.l1i1 its.toArray) (drawB (show X.A.in1.handled = none from I.ok.hd hc) u i2 b D.l2i2 its2.toArray) hz hTI hTO ⟨h1, p⟩ ⟨h2, p2⟩ (by simp; omega) (by simp; omega) (by simp; omega) fun h' tk hk => ⟨rfl, I.turnedL (t' := tk) (ch := [z, TI, TO, i1, i2]) (fun c o hb q => ?_) hf⟩
    simp at hb
    exact hk c o hb.1 hb.2.2.1 hb.2.2.2.1 hb.2.2.2.2 q
  self := fun A i s Q E st h => wpAny_pyIter_zip st.1 h
abbrev itO (t : Bool) (l : Addr) : Obj := { cls := .type (if t = true then "tuple_iterator" else "list_iterator"), data := .fields #[.ref l, .int 0 0] }
abbrev zB1 (h : Heap) (t : Bool) (l1 : Addr) : Heap := h.push (itO t l1)
abbrev zB2 (h : Heap) (t u : Bool) (l1 l2 : Addr) : Heap := (zB1 h t l1).push (itO u l2)
abbrev zB3 (h : Heap) (t u : Bool) (l1 l2 : Addr) : Heap := (zB2 h t u l1 l2).push { cls := .type "tuple", data := .seq #[.ref h.objs.size, .ref (zB1 h t l1).objs.size] }
abbrev zB4 (h : Heap) (t u : Bool) (l1 l2 : Addr) : Heap := (zB3 h t u l1 l2).push { cls := .type "tuple", data := .seq #[.none, .none] }
abbrev zB5 (h : Heap) (t u : Bool) (l1 l2 : Addr) : Heap := (zB4 h t u l1 l2).push { cls := .type "zip", data := .fields #[.none, .bool false, .bool false, .ref (zB2 h t u l1 l2).objs.size, .ref (zB3 h t u l1 l2).objs.size] }
theorem seB_push {t : Bool} {h : Heap} {l : Addr} {xs : Array Value} (s : SeB t h l xs) (o : Obj) : SeB t (h.push o) l xs := by
  cases t
  · exact Heap.IsList.push s o
  · exact Heap.IsTuple.push s o
theorem meets_zipB (t u : Bool) (l1 l2 : Addr) (xs ys : Array Value) :
    Meets (Builtin.«zip.__new__» ⟨[.type "zip", .ref l1, .ref l2], []⟩) (fun _ R s => SeB t s.heap l1 xs ∧ SeB u s.heap l2 ys ∧ R (.ok (.ret (.ref (zB4 s.heap t u l1 l2).objs.size))) { s with heap := zB5 s.heap t u l1 l2 }) :=
  .of_wp fun prog w A R s h => by
    obtain ⟨hp, g, d, tk, os⟩ := s
    obtain ⟨hl1, hl2, h⟩ := h
    have hsub := sub_zip
    cases t <;> cases u
    · have hL1 : Heap.IsList (Shared.heap ⟨hp, g, d, tk, os⟩) l1 xs := hl1
      have hL2 : Heap.IsList (Shared.heap ⟨hp.push { cls := .type "list_iterator", data := .fields #[.ref l1, .int 0 0] }, g, d, tk, os⟩) l2 ys := Heap.IsList.push hl2 _
      wp_walk using wpAny_pyIter_list hL1, wpAny_pyIter_list hL2
      exact ⟨_, rfl, h⟩
    · have hL1 : Heap.IsList (Shared.heap ⟨hp, g, d, tk, os⟩) l1 xs := hl1
      have hL2 : Heap.IsTuple (Shared.heap ⟨hp.push { cls := .type "list_iterator", data := .fields #[.ref l1, .int 0 0] }, g, d, tk, os⟩) l2 ys := Heap.IsTuple.push hl2 _
      wp_walk using wpAny_pyIter_list hL1, wpAny_pyIter_tuple hL2
      exact ⟨_, rfl, h⟩
    · have hL1 : Heap.IsTuple (Shared.heap ⟨hp, g, d, tk, os⟩) l1 xs := hl1
      have hL2 : Heap.IsList (Shared.heap ⟨hp.push { cls := .type "tuple_iterator", data := .fields #[.ref l1, .int 0 0] }, g, d, tk, os⟩) l2 ys := Heap.IsList.push hl2 _
      wp_walk using wpAny_pyIter_tuple hL1, wpAny_pyIter_list hL2
      exact ⟨_, rfl, h⟩
    · have hL1 : Heap.IsTuple (Shared.heap ⟨hp, g, d, tk, os⟩) l1 xs := hl1
      have hL2 : Heap.IsTuple (Shared.heap ⟨hp.push { cls := .type "tuple_iterator", data := .fields #[.ref l1, .int 0 0] }, g, d, tk, os⟩) l2 ys := Heap.IsTuple.push hl2 _
      wp_walk using wpAny_pyIter_tuple hL1, wpAny_pyIter_tuple hL2
      exact ⟨_, rfl, h⟩
end ZmX

namespace Tk
open PySem PySem.Spec PyProof.Rows L2
/-! ## repr of any of some values: data, texts, two dicts -/
inductive ShownV (K : PySem.W.Frag) (H : Hp) : V → Str → Prop
  | dp {v : V} {d : PyData} (h : Dp K H v d) (ok : ReprOk v d) : ShownV K H v d.shown
  | str (x : Str) (ok : (reprText x).length ≤ sizeLine) : ShownV K H (.str x) (reprText x)
  | d0 {a : Addr} (h : H a = some (.dK [])) : ShownV K H (.ref a) (PyData.dict []).shown
  | d1 {a : Addr} (h : H a = some (.dK [(.inl 0, .int 1)])) : ShownV K H (.ref a) (PyData.dict [(.int 0, .int 1)]).shown
theorem shown_s {K : PySem.W.Frag} {H H' : Hp} {v : V} {t : Str} (h : ShownV K H v t) (e : Same H H') : ShownV K H' v t := by
  cases h with
  | dp h ok => exact .dp (dp_s h e) ok
  | str x ok => exact .str x ok
  | d0 h => exact .d0 (e _ _ h)
  | d1 h => exact .d1 (e _ _ h)
section
variable {X : Cx}
def rRepX (K : PySem.W.Frag) : List V → Hp → VK → Prop := fun xs H Q => ∃ (v : V) (t : Str), xs = [v] ∧ ShownV K H v t ∧ Q (.str t) H
theorem rep_dict {pins : List (Addr × Obj)} {σ : L2.St} {H : Hp} {s : Shared} {a : Addr} {d : PyData} {as : List Addr} {Q : VK} (hgd : X.A.guards = some []) (hu : X.A.units + 64 < cLine) (I : Inv X pins σ H s) (rd : Reads s.heap (.ref a) d as) (sh : d.showable = true) (ns : ¬ sysModules ∈ as)
    (dp : d.depth ≤ 50) (len : d.shown.length ≤ sizeLine) (q : Q (.str d.shown) H) : wpAny (model X.prog X.w) X.A (call (.builtin "repr") [.ref a]) (EP X pins σ Q) X.xe s :=
  repr_of_reads' rd sh (fun _ => ns) hgd (by omega) (fun _ _ h => h) (fun h' u tk keep => ⟨.str d.shown, H, I.kept keep, ⟨u, rfl⟩, q⟩) len
theorem call_reprX (hgd : X.A.guards = some []) (hu : X.A.units + 64 < cLine) : CallR X (.builtin "repr") (rRepX X.K) := by
  intro pins s σ H xs us Q I r h
  obtain ⟨v, t, rfl, hs, q⟩ := h
  cases hs with
  | dp h ok => exact call_reprV hgd hu pins s σ H _ us Q I r ⟨_, _, rfl, h, ok, q⟩
  | str x ok =>
    cases r with
    | cons r1 r2 =>
      cases r2
      obtain ⟨t, rfl⟩ := r1
      exact PySem.P.repr_of_str ⟨.str (reprText x), H, I.tok _, ⟨_, rfl⟩, q⟩ ok
  | @d0 a h =>
    rw [Vals.ref1 r]
    obtain ⟨_, ns, vs, kv, o, es, ep, hg, ex, hd, _, pr, _⟩ := dk_of I.hok h
    have n1 : a ≠ sysModules := fun e => by rw [e] at ns; exact absurd ns (by decide)
    cases kv
    have e0 : es.toList = [] := by cases hl : es.toList with
      | nil => rfl
      | cons x xs => rw [hl] at pr; cases pr
    refine rep_dict hgd hu I (as := [a]) (.dict hg ex.1 hd (as := []) (bs := []) (by rw [e0]; exact .nil) (by rw [e0]; exact .nil)) (by decide +kernel) ?_ (by decide +kernel) (by decide +kernel) q
    intro hm
    exact n1 (List.mem_singleton.mp hm).symm
  | @d1 a h =>
    rw [Vals.ref1 r]
    obtain ⟨_, ns, vs, kv, o, es, ep, hg, ex, hd, _, pr, _⟩ := dk_of I.hok h
    have n1 : a ≠ sysModules := fun e => by rw [e] at ns; exact absurd ns (by decide)
    cases kv with
    | @cons _ q2 _ rest h1 hr =>
      cases hr
      obtain ⟨k0, v0⟩ := q2
      obtain ⟨e1, t1, e2⟩ := h1
      simp only at e1 e2
      subst e1
      subst e2
      obtain ⟨e, he, hk, hv⟩ : ∃ e, es.toList = [e] ∧ (mixKind X.prog X.w).is (.inl 0) e.key = true ∧ e.val = .int 1 t1 := by
        cases hl : es.toList with
        | nil => rw [hl] at pr; cases pr
        | cons x xs =>
          rw [hl] at pr
          cases pr with
          | cons h1 h2 h3 =>
            cases h3
            exact ⟨x, rfl, h1, h2⟩
      obtain ⟨tk, ek⟩ : ∃ tk, e.key = .int 0 tk := by
        revert hk
        show keyIs (.inl 0) e.key = true → _
        cases e.key with
        | int i t =>
          intro hk
          have : i = 0 := by simpa [keyIs, Value.isInt] using hk
          exact ⟨t, by rw [this]⟩
        | _ => intro hk; simp [keyIs, Value.isInt] at hk
      refine rep_dict hgd hu I (as := [a]) (.dict hg ex.1 hd (as := []) (bs := []) ?_ ?_) (by decide +kernel) ?_ (by decide +kernel) (by decide +kernel) q
      · rw [he]
        show ReadsAll _ [e.key] [PyData.int 0] []
        rw [ek]
        exact .cons (.int 0 tk) .nil
      · rw [he]
        show ReadsAll _ [e.val] [PyData.int 1] []
        rw [hv]
        exact .cons (.int 1 t1) .nil
      · intro hm
        exact n1 (List.mem_singleton.mp hm).symm
end
end Tk

/-! enumerate of a list or a tuple -/
namespace Tk
open PySem PySem.Spec PyProof.Rows L2
theorem meets_enum1 {v : Value} {o : Obj} {H : Heap → Prop} (B : Begins v o H) :
    Meets (Builtin.«enumerate.__new__» ⟨[.type "enumerate", v], []⟩) (fun _ R s => H s.heap ∧
      R (.ok (.ret (.ref (s.heap.push o).objs.size))) { s with heap := (s.heap.push o).push { cls := .type "enumerate", data := .fields #[.none, .bool false, .ref s.heap.objs.size, rawInt 0, .none, .none] } }) :=
  .of_wp fun prog w A R s h => by
    obtain ⟨hp, g, d, tk, os⟩ := s; obtain ⟨h1, h⟩ := h
    have hsub := sub_enumerate
    have q1 : ∀ {A' : Around} {E : Value → Shared → Prop} {Q : Value → Shared → Prop}, Q (.ref hp.objs.size) ⟨hp.push o, g, d, tk, os⟩ → wpAny (model prog w) A' (pyIter v) Q E ⟨hp, g, d, tk, os⟩ :=
      fun q => B.iter prog w _ _ ⟨hp, g, d, tk, os⟩ _ h1 q
    wp_walk using q1
    refine wpAny_stack_any fun st => wpAny_pure ?_
    split
    · rename_i c _ _ _ _ _
      cases (c == Value.type "enumerate")
      · wp_walk using q1
        exact ⟨_, rfl, h⟩
      · wp_walk using q1
        exact ⟨_, rfl, h⟩
    · wp_walk using q1
      exact ⟨_, rfl, h⟩
theorem enum_begins1 {prog : Program} {w : World} {A : Around} {E : Value → Shared → Prop} {s : Shared} {v : Value} {o : Obj} {H : Heap → Prop} {Q : Value → Shared → Prop} (B : Begins v o H) (h1 : H s.heap)
    (h : ∀ h', IsEnum h' (s.heap.objs.size + 1) s.heap.objs.size 0 .none → h'.get? s.heap.objs.size = some o → h'.objs.size = s.heap.objs.size + 2 →
      (∀ b o, s.heap.get? b = some o → h'.get? b = some o) → Q (.ref (s.heap.objs.size + 1)) { s with heap := h' }) :
    wpAny (model prog w) A (call (.type "enumerate") [v]) Q E s := by
  refine callType_new F.called_enumerate (by decide) (F.typeCall_enumerate_1 _) (F.newCall_enumerate_1 _) (fun obj => F.args_object_init_2 obj _) F.entry_enumerate_new
    (meets_enum1 B) ⟨h1, ?_⟩
  have hz : (s.heap.push o).objs.size = s.heap.objs.size + 1 := Heap.size_push ..
  show _ ∧ _
  rw [hz]
  have he : IsEnum ((s.heap.push o).push { cls := .type "enumerate", data := .fields #[.none, .bool false, .ref s.heap.objs.size, rawInt 0, .none, .none] }) (s.heap.objs.size + 1) s.heap.objs.size 0 .none := by
    have := Heap.get?_push_size (s.heap.push o) (o := { cls := .type "enumerate", data := .fields #[.none, .bool false, .ref s.heap.objs.size, rawInt 0, .none, .none] }) rfl
    rw [hz] at this; exact this
  refine ⟨⟨_, he, rfl⟩, h _ he (Heap.get?_push_of_some _ (Heap.get?_push_size _ B.free)) (by rw [Heap.size_push, hz]) fun b o x => Heap.get?_push_of_some _ (Heap.get?_push_of_some _ x)⟩
/-- the tuple at a, each item in a new pair -/
def IteT (K : PySem.W.Frag) (a : Addr) : It :=
  ⟨fun i H => ∃ (xs : List V) (x : V), SqT K H a xs ∧ xs[i]? = some x, fun i H v H' => ∃ T x, v = .ref T ∧ H T = none ∧ H' = upd H T (.tup [.int (i : Nat), x]) ∧ ∀ xs, SqT K H a xs → xs[i]? = some x, fun i H => ∃ xs : List V, SqT K H a xs ∧ xs.length = i⟩
theorem turn_enumT {P : Program} {w : World} {K : PySem.W.Frag} {elts : List Expr} {kk : Nat} {tpos : Pos} (a e it : Addr) :
    Turn P w K (.Tuple elts kk tpos) (IteT K a) [e, it] e (fun i h => (∃ old, IsEnum h e it ((i : Nat) : Int) old) ∧ h.IsTupleIter it a i ∧ e ≠ it) where
  mem := by simp
  obj := fun i h st b hb => by
    obtain ⟨⟨old, he⟩, ⟨o, ho, hc, hd⟩, _⟩ := st
    have e' : b = e ∨ b = it := by simpa using hb
    rcases e' with z | z
    · rw [z]; exact ⟨_, he, fun v q => nomatch q⟩
    · rw [z]; exact ⟨o, ho, fun v q => by rw [hd] at q; cases q⟩
  keep := fun i h h' st k => let ⟨⟨old, he⟩, hi, hne⟩ := st; ⟨⟨old, k e (by simp) _ he⟩, hi.at fun o q => k it (by simp) o q, hne⟩
  item := by
    intro X hP hw hK hc i pins s σ H E I hf st hg
    subst hP hw hK
    obtain ⟨⟨old, he⟩, hit, hne⟩ := st
    obtain ⟨xs, x, hq, hx⟩ := hg
    obtain ⟨its, rv, p, hz⟩ := I.tuple hq
    obtain ⟨u, hu, ru⟩ := rv.get hx
    have hel : e < s.heap.objs.size := Heap.lt_size he
    have hil : it < s.heap.objs.size := by obtain ⟨_, q, _⟩ := hit; exact Heap.lt_size q
    have nai : a ≠ it := fun z => by
      obtain ⟨o1, g1, c1, _⟩ := p
      obtain ⟨o2, g2, c2, _⟩ := hit
      rw [z, g2] at g1
      cases g1
      rw [c1] at c2
      injection c2 with c2
      exact absurd c2 (by decide)
    have nea : e ≠ a := fun z => by
      obtain ⟨o1, g1, c1, _⟩ := p
      have he' : s.heap.get? e = _ := he
      rw [← z, he'] at g1
      cases g1
      injection c1 with c2
      exact absurd c2 (by decide)
    have isT : s.heap.IsTuple a its.toArray := p
    have hlt : i < its.toArray.size := by
      obtain ⟨q, _⟩ := List.getElem?_eq_some_iff.mp hx
      rw [List.size_toArray, ← rv.length]
      exact q
    refine wpAny_pyNext_enum_itemD (Draws.tuple (prog := X.prog) (w := X.w) (A := X.A.in1) (I.ok.hd hc) it a nai its.toArray) he ⟨hit, isT⟩ hlt hne (by simp [hne, nea]) fun y h' tk hy ho st' hT hsz hk => ?_
    have ey : y = u := by
      have : its.toArray[i]? = some u := by simpa using hu
      rw [this] at hy
      exact (Option.some.inj hy).symm
    subst ey
    refine ⟨_, rfl, wpAny_letOwnedTupleGo_enum (s := { s with heap := h', toks := tk + 1 }) ho fun h'' he' sb => ?_⟩
    have hT2 : h''.get? s.heap.objs.size = some { cls := .type "tuple", data := .seq #[.int i tk, y] } := (sb.2 _ (Nat.ne_of_gt hel)).trans hT
    have new : ObjOk X.prog X.w (upd H s.heap.objs.size (.tup [.int (i : Nat), x])) h'' s.heap.objs.size (.tup [.int (i : Nat), x]) :=
      ⟨by show 2 ≤ sizeLine; decide, [.int i tk, y], .cons ⟨_, rfl⟩ (.cons ru .nil), ⟨_, hT2, rfl, _, rfl⟩⟩
    have I1 : Inv X pins σ (upd H s.heap.objs.size (.tup [.int (i : Nat), x])) { s with heap := h'', toks := tk + 1 } :=
      I.turnedNew (ch := [e, it]) (fun b ob hb q => (sb.2 b (fun z => hb (by simp [z]))).trans (hk b ob (fun z => hb (by simp [z])) (fun z => hb (by simp [z])) q)) hf (Nat.le_refl _) new
    refine ⟨.ref s.heap.objs.size, _, I1, rfl, ⟨_, x, rfl, I.hok.fresh (Nat.le_refl _), rfl, fun ys hy => by rw [I.tuple_inj hy hq]; exact hx⟩, ⟨⟨y, ?_⟩, st'.1.at fun o q => (sb.2 it (Ne.symm hne)).trans q, hne⟩, fun b hb => ?_⟩
    · have e1 : ((i + 1 : Nat) : Int) = (i : Int) + 1 := by omega
      rw [e1]; exact he'
    · have hb' : b < s.heap.objs.size := by
        have e' : b = e ∨ b = it := by simpa using hb
        rcases e' with z | z
        · rw [z]; exact hel
        · rw [z]; exact hil
      rw [upd_ne (Nat.ne_of_lt hb')]
      exact (hf b hb).1
  done := by
    intro X hP hw hK hc i pins s σ H E I hf st hg
    subst hP hw hK
    obtain ⟨⟨old, he⟩, hit, hne⟩ := st
    obtain ⟨xs, hq, hx⟩ := hg
    obtain ⟨its, rv, p, hz⟩ := I.tuple hq
    obtain ⟨f0, f1, f2, f3, f4, f5⟩ := hf it (by simp)
    have nai : a ≠ it := fun z => by
      obtain ⟨o1, g1, c1, _⟩ := p
      obtain ⟨o2, g2, c2, _⟩ := hit
      rw [z, g2] at g1
      cases g1
      rw [c1] at c2
      injection c2 with c2
      exact absurd c2 (by decide)
    have isT : s.heap.IsTuple a its.toArray := p
    have hn : its.toArray.size = i := by rw [List.size_toArray, ← rv.length]; exact hx
    have hit' : s.heap.IsTupleIter it a its.toArray.size := by rw [hn]; exact hit
    exact wpAny_pyNext_enum_endD (Draws.tuple (prog := X.prog) (w := X.w) (A := X.A.in1) (I.ok.hd hc) it a nai its.toArray) he ⟨hit', isT⟩ fun h' eb => ⟨rfl, I.turned (t' := s.toks) (fun b o hb q => eb b o hb q) f0 f1 f3 f4 f5⟩
  self := fun A i s Q E st h => let ⟨⟨_, he⟩, _⟩ := st; wpAny_pyIter_enum he h
theorem walk_enumT {K : PySem.W.Frag} {a : Addr} {xs : List V} : Walk (IteT K a) xs.length (fun H => SqT K H a xs) (YPair (fun i => some (.int (i : Nat))) (fun i => xs[i]?)) := by
  refine ⟨fun i _ hi q => ⟨xs, xs[i], q, by simp [hi]⟩, fun _ q => ⟨xs, q, rfl⟩, fun i H v H' _ q y => ?_⟩
  obtain ⟨T, x, h1, h2, h3, h4⟩ := y
  exact ⟨T, .int (i : Nat), x, h1, h2, h3, rfl, h4 xs q⟩
def iEnumA (K : PySem.W.Frag) (ta : L2.TA) : TI := fun σ H R => ta σ H fun vs H1 => ∃ a xs, vs = [.ref a] ∧ ((SqL K H1 a xs ∧ R (Ite K a) H1) ∨ (SqT K H1 a xs ∧ R (IteT K a) H1))
theorem pi_enumA {X : Cx} {e : Expr} {ta : L2.TA} {p pos tpos : Pos} {elts : List Expr} {kk : Nat} (hg : Gl X "enumerate") (hm : X.mg "enumerate" = none) (ha : PA X [e] ta) (hs : starEach [e] X.env = [(false, eval e X.env)] := by rfl) :
    PI X (.Tuple elts kk tpos) (.Call (.Name "enumerate" p) [e] [] pos) (iEnumA X.K ta) := by
  refine ⟨fun pins s σ H R I h => ?_⟩
  refine Call_ (ld_blt I hg hm boot_enumerate (PyProof.Rows.callWith_type1 (thn (ha.run pos pins s σ H _ I h) fun us s1 ⟨vs, H1, I1, r1, q1⟩ => ?_) hs rfl))
  obtain ⟨a, xs, ex, hq⟩ := q1
  subst ex
  cases r1 with
  | cons r rr =>
    cases rr
    cases r
    have fp : ∀ b ∈ [s1.heap.objs.size + 1, s1.heap.objs.size], FpOk X pins H1 b := fun b hb => by
      have e' : b = s1.heap.objs.size + 1 ∨ b = s1.heap.objs.size := by simpa using hb
      have hle : s1.heap.objs.size ≤ b := by
        rcases e' with z | z
        · rw [z]; exact Nat.le_add_right _ _
        · rw [z]; exact Nat.le_refl _
      exact I1.fpOk hle (I1.hok.fresh hle)
    rcases hq with ⟨hq, q⟩ | ⟨hq, q⟩
    · obtain ⟨its, rv, p', hz⟩ := I1.list hq
      refine call_enumerate_list p'.isList fun h' he hit hsz hk => wpAny_pyIter_enum he ?_
      have I2 : Inv X pins σ H1 { s1 with heap := h' } := I1.kept (t' := s1.toks) hk
      exact ⟨s1.heap.objs.size + 1, [s1.heap.objs.size + 1, s1.heap.objs.size], _, _, H1, rfl, I2, turn_enum a (s1.heap.objs.size + 1) s1.heap.objs.size, ⟨⟨.none, he⟩, hit, Nat.succ_ne_self _⟩, fp, q⟩
    · obtain ⟨its, rv, p', hz⟩ := I1.tuple hq
      refine enum_begins1 (begins_tuple a its.toArray) p' fun h' he hit hsz hk => wpAny_pyIter_enum he ?_
      have I2 : Inv X pins σ H1 { s1 with heap := h' } := I1.kept (t' := s1.toks) hk
      exact ⟨s1.heap.objs.size + 1, [s1.heap.objs.size + 1, s1.heap.objs.size], _, _, H1, rfl, I2, turn_enumT a (s1.heap.objs.size + 1) s1.heap.objs.size, ⟨⟨.none, he⟩, ⟨_, hit, rfl, rfl⟩, Nat.succ_ne_self _⟩, fp, q⟩
end Tk

namespace Tk
open PySem PySem.Spec PyProof.Rows L2
/-! ## a tuple's slice that is the whole tuple -/
theorem getItem_tuple_all {prog : Program} {w : World} {A : Around} {E : Value → Shared → Prop} {s : Shared} {t sl : Addr} {items : Array Value} {vl vu : Value} {lo hi : Option Int} {Q : Value → Shared → Prop}
    (ht : IsTup s.heap t items) (hs : s.heap.IsSliceOf sl vl vu .none) (pl : IsPart vl lo) (pu : IsPart vu hi) (hw : HT.sIx items.size 0 lo = 0 ∧ HT.sIx items.size items.size hi = items.size) (h : Q (.ref t) s) (hsz : items.size ≤ sizeLine) :
    wpAny (model prog w) A (getItem (.ref t) (.ref sl)) Q E s := by
  obtain ⟨os, hos, hcs, hds⟩ := id hs
  have hTs : s.TypeIs (.ref sl) "slice" := ⟨os, hos, hcs⟩
  unfold getItem
  refine wpAny_holding (wpAny_bind (wpAny_sequenceKey (IsTup.typeIs ht) (by decide) (wpAny_bind (wpAny_callSpecial?_slot (IsTup.typeIs ht) slot_tuple_getitem (wpAny_call_entry slot_tuple_getitem (IsTup.typeIs ht) entry_tuple_getitem ?_)))))
  show wpAny _ _ (Builtin.«tuple.__getitem__» _) _ _ _
  unfold Builtin.«tuple.__getitem__»
  refine wpAny_bind (show wpAny _ _ (pure (Value.ref t, [Value.ref sl])) _ _ _ from wpAny_pure ?_)
  refine wpAny_bind (tupleItemsOf_ ht (wpAny_bind (wpAny_typeOf hTs ?_)))
  rw [if_pos (by decide)]
  refine wpAny_bind (HT.sliceApplied_gen hs pl pu ?_)
  show wpAny _ _ (if _ then _ else _) _ _ _
  rw [if_pos (by simp [hw.1, hw.2])]
  unfold Builtin.Tuple.tupleIsExact
  refine wpAny_bind (wpAny_bind (wpAny_typeOf (IsTup.typeIs ht) (wpAny_pure ?_)))
  rw [if_pos (by decide)]
  refine wpAny_bind ?_
  wp_step
  exact wpAny_pure ⟨_, rfl, wpAny_pure h⟩
/-- a slice of a tuple or list, from .. to .. -/
def rSlTF (K : PySem.W.Frag) : V → Option Int → Option Int → Hp → VK → Prop := fun x lo hi H Q => ∃ (a : Addr) (xs : List V), x = V.ref a ∧ SqT K H a xs ∧ (HT.sIx xs.length 0 lo = 0 ∧ HT.sIx xs.length xs.length hi = xs.length) ∧ Q (V.ref a) H
theorem sl_tupF {X : Cx} : SlR X (rSlTF X.K) := by
  intro pins s σ H x v vl vu lo hi sl Q I rx hs pl pu h
  obtain ⟨a, xs, rfl, hx, hw, q⟩ := h
  cases rx
  obtain ⟨its, r, ht, hz⟩ := I.tuple hx
  have hlen : its.toArray.size = xs.length := by rw [List.size_toArray]; exact r.length.symm
  refine ⟨"tuple", "tuple.__getitem__", slot_tuple_getitem.lookup, IsTup.typeIs ht, getItem_tuple_all ht hs pl pu (by rw [hlen]; exact hw) ⟨.ref a, H, I, rfl, q⟩ (by rw [hlen]; exact hz)⟩
def rSlA (K : PySem.W.Frag) : V → Option Int → Option Int → Hp → VK → Prop := fun x lo hi H Q => rSlL K x lo hi H Q ∨ rSlT K x lo hi H Q ∨ rSlTF K x lo hi H Q
theorem sl_any {X : Cx} : SlR X (rSlA X.K) := SlR.or sl_list (SlR.or sl_tup sl_tupF)
/-- v[1:] of a list or a tuple is one of its own kind -/
theorem sl_tail {K : PySem.W.Frag} {H : Hp} {a : Addr} {xs : List V} {Q : VK} (h : SqL K H a xs ∨ SqT K H a xs)
    (q : ∀ (b : Addr) (H' : Hp), Same H H' → (SqL K H' a xs ∧ SqL K H' b (xs.drop 1)) ∨ (SqT K H' a xs ∧ SqT K H' b (xs.drop 1)) → Q (.ref b) H') : rSlA K (.ref a) (some 1) none H Q := by
  have cut : cutV xs (some 1) none = xs.drop 1 := by
    unfold cutV
    have e : HT.sIx xs.length 0 (some 1) = min 1 xs.length := HT.sIx_nat ..
    rw [e]
    show (xs.drop (min 1 xs.length)).take (xs.length - min 1 xs.length) = xs.drop 1
    cases xs with
    | nil => rfl
    | cons x xs => rw [show min 1 (x :: xs).length = 1 by simp]; rw [List.take_of_length_le (by simp)]
  rcases h with h | h
  · refine .inl ⟨a, xs, rfl, h, fun p hp => ?_⟩
    rw [cut]
    exact q p _ (same_new hp) (.inl ⟨same_l (same_new hp) h, sl_of upd_same⟩)
  · by_cases c : xs = []
    · subst c
      exact .inr (.inr ⟨a, [], rfl, h, ⟨rfl, rfl⟩, q a H (fun _ _ h => h) (.inr ⟨h, h⟩)⟩)
    · refine .inr (.inl ⟨a, xs, rfl, h, ?_, fun p hp => ?_⟩)
      · rintro ⟨e, _⟩
        have e1 : HT.sIx xs.length 0 (some 1) = min 1 xs.length := HT.sIx_nat ..
        have := List.length_pos_iff.mpr c
        rw [e1] at e
        omega
      · rw [cut]
        exact q p _ (same_new hp) (.inr ⟨same_t (same_new hp) h, st_of upd_same⟩)
theorem walk_zipT {K : PySem.W.Frag} {a b : Addr} {xs ys : List V} {n : Nat} (hn : n = min xs.length ys.length) : Walk (RZ.ItzT K a b) n (fun H => SqT K H a xs ∧ SqT K H b ys) (YPair (fun i => xs[i]?) fun i => ys[i]?) := by
  refine ⟨fun i H hi h => ?_, fun H h => ⟨xs, ys, h.1, h.2, by omega⟩, fun i H x H' hi h y => ?_⟩
  · exact ⟨xs, ys, xs[i]'(by omega), ys[i]'(by omega), h.1, h.2, List.getElem?_eq_getElem (by omega), List.getElem?_eq_getElem (by omega)⟩
  · obtain ⟨T, u, v, e1, e2, e3, e4, e5⟩ := y
    exact ⟨T, u, v, e1, e2, e3, e4 _ h.1, e5 _ h.2⟩
/-- the walk along zip(xs, xs[1:]) -/
theorem lc_zipA {K : PySem.W.Frag} {a b : Addr} {xs ys : List V} {it : It} {H0 : Hp} {g : TG} {tt : TT} {te : TE} {vs : List Nat} {σ : L2.St} {H1 : Hp} {D : Addr} {Qd : Hp → Prop} {n : Nat} (hn : n = min xs.length ys.length)
    (hit : (it = Itz K a b ∧ SqL K H0 a xs ∧ SqL K H0 b ys) ∨ (it = RZ.ItzT K a b ∧ SqT K H0 a xs ∧ SqT K H0 b ys)) (Pv : Nat → Hp → Prop) (h0 : Pv 0 (upd H1 D (.lst []))) (hl : ∀ i H, i ≤ n → Pv i H → Same H0 H)
    (hs : ∀ i x y T H, xs[i]? = some x → ys[i]? = some y → Pv i H → H T = none → g (.ref T) (wipe σ vs) (upd H T (.tup [x, y])) fun σ2 H2 => wipe σ2 vs = wipe σ vs ∧ tt σ2 H2 fun b H3 =>
      if b = true then te σ2 H3 fun y H4 => ∃ acc, H4 D = some (.lst acc) ∧ acc.length < sizeLine ∧ Pv (i + 1) (upd H4 D (.lst (acc ++ [y]))) else Pv (i + 1) H3)
    (hd : ∀ H, Pv n H → Qd H) :
    ∃ W : Nat → Nat → Hp → Prop, (∃ m, W 0 m (upd H1 D (.lst []))) ∧ ∀ i m H, W i m H →
      (it.stop i H ∧ Qd H) ∨ (it.go i H ∧ ∃ Nx : Hp → Prop, (∀ H', Nx H' → ∃ m', m' < m ∧ W (i + 1) m' H') ∧ ∀ x H', it.yld i H x H' → g x (wipe σ vs) H' fun σ2 H2 => wipe σ2 vs = wipe σ vs ∧ tt σ2 H2 fun b H3 =>
        if b = true then te σ2 H3 fun y H4 => ∃ acc, H4 D = some (.lst acc) ∧ acc.length < sizeLine ∧ Nx (upd H4 D (.lst (acc ++ [y]))) else Nx H3) := by
  rcases hit with ⟨rfl, h1, h2⟩ | ⟨rfl, h1, h2⟩
  · refine lc_it (walk_zip (K := K) (a := a) (b := b) (xs := xs) (ys := ys) hn) Pv h0 (fun i H hi p => ⟨same_l (hl i H hi p) h1, same_l (hl i H hi p) h2⟩) (fun i v H H' hi p y => ?_) hd
    obtain ⟨T, x, y, rfl, hT, rfl, e1, e2⟩ := y
    exact hs i x y T H e1 e2 p hT
  · refine lc_it (walk_zipT (K := K) (a := a) (b := b) (xs := xs) (ys := ys) hn) Pv h0 (fun i H hi p => ⟨same_t (hl i H hi p) h1, same_t (hl i H hi p) h2⟩) (fun i v H H' hi p y => ?_) hd
    obtain ⟨T, x, y, rfl, hT, rfl, e1, e2⟩ := y
    exact hs i x y T H e1 e2 p hT
end Tk

namespace ZmX
open PySem PySem.Spec PyProof.Rows L2
section
variable {prog : Program} {w : World} {A : Around} {E : Value → Shared → Prop} {s : Shared}
theorem itO_is {t : Bool} {h : Heap} {it l : Addr} (e : h.get? it = some (itO t l)) : ItB t h it l 0 := by
  cases t
  · exact ⟨_, e, rfl, rfl⟩
  · exact ⟨_, e, rfl, rfl⟩
theorem itO_fr {t : Bool} {l : Addr} : (itO t l).isFreed = false := rfl
theorem call_zipB {t u : Bool} {l1 l2 : Addr} {xs ys : Array Value} {Q : Value → Shared → Prop} (hl1 : SeB t s.heap l1 xs) (hl2 : SeB u s.heap l2 ys)
    (h : ∀ h', IsZip h' (s.heap.objs.size + 4) (s.heap.objs.size + 2) (s.heap.objs.size + 3) .none → IsPair h' (s.heap.objs.size + 2) (.ref s.heap.objs.size) (.ref (s.heap.objs.size + 1)) → IsPair h' (s.heap.objs.size + 3) .none .none →
      ItB t h' s.heap.objs.size l1 0 → ItB u h' (s.heap.objs.size + 1) l2 0 → (∀ c o, s.heap.get? c = some o → h'.get? c = some o) → Q (.ref (s.heap.objs.size + 4)) { s with heap := h' }) :
    wpAny (model prog w) A (call (.type "zip") [.ref l1, .ref l2]) Q E s := by
  refine callType_new F.called_zip (by decide) (F.typeCall_zip_2 _ _) (F.newCall_zip_2 _ _) (fun obj => F.args_object_init_3 obj _ _) F.entry_zip_new (meets_zipB t u l1 l2 xs ys) ⟨hl1, hl2, ?_⟩
  have z1 : (zB1 s.heap t l1).objs.size = s.heap.objs.size + 1 := Heap.size_push ..
  have z2 : (zB2 s.heap t u l1 l2).objs.size = s.heap.objs.size + 2 := by rw [Heap.size_push, z1]
  have z3 : (zB3 s.heap t u l1 l2).objs.size = s.heap.objs.size + 3 := by rw [Heap.size_push, z2]
  have z4 : (zB4 s.heap t u l1 l2).objs.size = s.heap.objs.size + 4 := by rw [Heap.size_push, z3]
  have g5 : (zB5 s.heap t u l1 l2).get? (zB4 s.heap t u l1 l2).objs.size = some _ := Heap.get?_push_size _ rfl
  have g4 : (zB5 s.heap t u l1 l2).get? (zB3 s.heap t u l1 l2).objs.size = some _ := Heap.get?_push_of_some _ (Heap.get?_push_size _ rfl)
  have g3 : (zB5 s.heap t u l1 l2).get? (zB2 s.heap t u l1 l2).objs.size = some _ := Heap.get?_push_of_some _ (Heap.get?_push_of_some _ (Heap.get?_push_size _ rfl))
  have g2 : (zB5 s.heap t u l1 l2).get? (zB1 s.heap t l1).objs.size = some (itO u l2) := Heap.get?_push_of_some _ (Heap.get?_push_of_some _ (Heap.get?_push_of_some _ (Heap.get?_push_size _ itO_fr)))
  have g1 : (zB5 s.heap t u l1 l2).get? s.heap.objs.size = some (itO t l1) := Heap.get?_push_of_some _ (Heap.get?_push_of_some _ (Heap.get?_push_of_some _ (Heap.get?_push_of_some _ (Heap.get?_push_size _ itO_fr))))
  show _ ∧ _
  rw [z2, z3, z4] at g5
  rw [z1, z2] at g3
  rw [z3] at g4
  rw [z1] at g2
  rw [z4]
  exact ⟨⟨_, g5, rfl⟩, h _ g5 g3 g4 (itO_is g1) (itO_is g2) fun c o x => Heap.get?_push_of_some _ (Heap.get?_push_of_some _ (Heap.get?_push_of_some _ (Heap.get?_push_of_some _ (Heap.get?_push_of_some _ x))))⟩
end
def iZipB (K : PySem.W.Frag) (ta : L2.TA) : TI := fun σ H R => ta σ H fun vs H1 => ∃ (t u : Bool) (a b : Addr) (xs ys : List V), vs = [.ref a, .ref b] ∧ SqB t K H1 a xs ∧ SqB u K H1 b ys ∧ R (ItzB t u K a b) H1
theorem pi_zipB {X : Cx} {e e2 : Expr} {ta : L2.TA} {p pos tpos : Pos} {elts : List Expr} {kk : Nat} (hg : Gl X "zip") (hm : X.mg "zip" = none) (ha : PA X [e, e2] ta)
    (hs : starEach [e, e2] X.env = (false, eval e X.env) :: starEach [e2] X.env := by rfl) (hpl : (backTo pos (starEach [e2] X.env)).any (·.1) = false := by rfl) :
    PI X (.Tuple elts kk tpos) (.Call (.Name "zip" p) [e, e2] [] pos) (iZipB X.K ta) := by
  refine ⟨fun pins s σ H R I h => ?_⟩
  refine Call_ (ld_blt I hg hm PyProof.Rows.boot_zip (PyProof.Rows.callWith_type1 (thn (ha.run pos pins s σ H _ I h) fun us s1 ⟨vs, H1, I1, r1, q1⟩ => ?_) hs hpl))
  obtain ⟨t, u, a, b, xs, ys, ex, hqx, hqy, q⟩ := q1
  subst ex
  obtain ⟨v1, v2, rfl, r2, r3⟩ := vals2 r1
  obtain rfl : v1 = Value.ref a := r2
  obtain rfl : v2 = Value.ref b := r3
  obtain ⟨its, rv, p1, l1⟩ := seB_of I1 hqx
  obtain ⟨its2, rv2, p2, l2⟩ := seB_of I1 hqy
  refine call_zipB p1 p2 fun h' hz hTI hTO h1 h2 hk => wpAny_pyIter_zip hz ?_
  have I2 : Inv X pins σ H1 { s1 with heap := h' } := I1.kept (t' := s1.toks) hk
  refine ⟨s1.heap.objs.size + 4, [s1.heap.objs.size + 4, s1.heap.objs.size + 2, s1.heap.objs.size + 3, s1.heap.objs.size, s1.heap.objs.size + 1], _, _, H1, rfl, I2, turn_zipB (PySem.W.ktu_apart s1.heap.objs.size a b l1 l2), ⟨hz, hTI, ⟨_, _, hTO⟩, h1, h2⟩, fun c hcm => ?_, q⟩
  have hle : s1.heap.objs.size ≤ c := by
    simp at hcm
    rcases hcm with rfl | rfl | rfl | rfl | rfl <;> omega
  exact I1.fpOk hle (I1.hok.fresh hle)
theorem sqB_s {t : Bool} {K : PySem.W.Frag} {H H' : Hp} {a : Addr} {xs : List V} (e : Same H H') (h : SqB t K H a xs) : SqB t K H' a xs := by
  cases t
  · exact Tk.same_l e h
  · exact Tk.same_t e h
theorem walk_zipB {t u : Bool} {K : PySem.W.Frag} {a b : Addr} {xs ys : List V} {n : Nat} (hx : n = xs.length) (hy : n = ys.length) : Walk (ItzB t u K a b) n (fun H => SqB t K H a xs ∧ SqB u K H b ys) (YPair (fun i => xs[i]?) fun i => ys[i]?) := by
  refine ⟨fun i H hi h => ?_, fun H h => ⟨xs, ys, h.1, h.2, by omega, by omega, by omega⟩, fun i H x H' hi h y => ?_⟩
  · exact ⟨xs, ys, xs[i]'(by omega), ys[i]'(by omega), h.1, h.2, List.getElem?_eq_getElem (by omega), List.getElem?_eq_getElem (by omega)⟩
  · obtain ⟨T, u, v, e1, e2, e3, e4, e5⟩ := y
    exact ⟨T, u, v, e1, e2, e3, e4 _ h.1, e5 _ h.2⟩
/-- the walk along zip of two of one length, in a comprehension -/
theorem lc_zipB {t u : Bool} {K : PySem.W.Frag} {a b : Addr} {xs ys : List V} {H0 : Hp} {g : TG} {tt : TT} {te : TE} {vs : List Nat} {σ : L2.St} {H1 : Hp} {D : Addr} {Qd : Hp → Prop} (hl : xs.length = ys.length) (h1 : SqB t K H0 a xs) (h2 : SqB u K H0 b ys)
    (Pv : Nat → Hp → Prop) (h0 : Pv 0 (upd H1 D (.lst []))) (hk : ∀ i H, i ≤ xs.length → Pv i H → Same H0 H)
    (hs : ∀ i x y T H, xs[i]? = some x → ys[i]? = some y → Pv i H → H T = none → g (.ref T) (wipe σ vs) (upd H T (.tup [x, y])) fun σ2 H2 => wipe σ2 vs = wipe σ vs ∧ tt σ2 H2 fun b H3 =>
      if b = true then te σ2 H3 fun y H4 => ∃ acc, H4 D = some (.lst acc) ∧ acc.length < sizeLine ∧ Pv (i + 1) (upd H4 D (.lst (acc ++ [y]))) else Pv (i + 1) H3)
    (hd : ∀ H, Pv xs.length H → Qd H) :
    ∃ W : Nat → Nat → Hp → Prop, (∃ m, W 0 m (upd H1 D (.lst []))) ∧ ∀ i m H, W i m H →
      ((ItzB t u K a b).stop i H ∧ Qd H) ∨ ((ItzB t u K a b).go i H ∧ ∃ Nx : Hp → Prop, (∀ H', Nx H' → ∃ m', m' < m ∧ W (i + 1) m' H') ∧ ∀ x H', (ItzB t u K a b).yld i H x H' → g x (wipe σ vs) H' fun σ2 H2 => wipe σ2 vs = wipe σ vs ∧ tt σ2 H2 fun b H3 =>
        if b = true then te σ2 H3 fun y H4 => ∃ acc, H4 D = some (.lst acc) ∧ acc.length < sizeLine ∧ Nx (upd H4 D (.lst (acc ++ [y]))) else Nx H3) := by
  refine lc_it (walk_zipB (t := t) (u := u) (K := K) (a := a) (b := b) (xs := xs) (ys := ys) rfl hl) Pv h0 (fun i H hi p => ⟨sqB_s (hk i H hi p) h1, sqB_s (hk i H hi p) h2⟩) (fun i v H H' hi p y => ?_) hd
  obtain ⟨T, x, y, rfl, hT, rfl, e1, e2⟩ := y
  exact hs i x y T H e1 e2 p hT
end ZmX

namespace NeO
open PySem PySem.Spec PyProof.Rows L2 ClX
section
variable {X : Cx} {k : Nat} {C p g : Addr} {mc : Value} {fd : FuncData} {ps ks : List Str} {sp : Sp}
/-- C.m(k = v, ..), m a classmethod, the keywords in the parameters' order behind the first one -/
def tCMethK (C : Addr) (n : Nat) (sp : Sp) (ta : TE) (t : L2.TA) : TE := fun σ H Q => ta σ H fun x H1 => x = .ref C ∧ t σ H1 fun zs H2 => zs.length = n ∧ sp (.ref C :: zs) H2 Q E0
theorem pe_cmethK {o : Expr} {m : Str} {ta : TE} {t : L2.TA} {apos pos : Pos} {kws : List Keyword} {pl : Sem Bool} (he : PE X o ta) (r : CRead X.K C mc) (c : CMet X.K C mc m p g) (F : FnOk X.prog X.w X.K X.mg X.base CX0 k g fd ps sp) (hr : Room k X.A)
    (hb : ∀ (s : Shared) (u : Value) (ws : List Value), ws.length = ks.length → BindsTo s fd ⟨[u], ks.zip ws⟩ (ps.zip (u :: ws)))
    (hkw : PK X kws t) (hall : (backToKw pos (keywordEach kws X.env)).all (·.1.isSome) = true := by rfl) (hks : (backToKw pos (keywordEach kws X.env)).filterMap (·.1) = ks := by rfl)
    (hpl : ((backTo pos (starEach [] X.env)).any (·.1) || (backToKw pos (keywordEach kws X.env)).any (·.1.isNone)) = false := by rfl)
    (ht : eval (.Call (.Attribute o m apos) [] kws pos) X.env = (do
      let ov ← eval o X.env
      standAt apos.atName
      let (f, first) ← holding [ov] (getMethod ov m pl)
      callWith pos f first (backTo pos (starEach [] X.env)) (backToKw pos (keywordEach kws X.env))) := by rfl) :
    PE X (.Call (.Attribute o m apos) [] kws pos) (tCMethK C ks.length sp ta t) := by
  refine ⟨fun pins s σ H Q I h => ?_⟩
  refine PySem.W.methodCall_KW (pl := pl) (thn (he.run pins s σ H _ I h) fun u s1 ⟨x, H1, I1, rx, ex, q⟩ => ?_) ht
  subst ex
  obtain rfl : u = Value.ref C := rx
  refine getmethcm_ok I1 r c fun s2 I2 => ?_
  refine PySem.W.callWith_of hpl (PySem.W.keeps_M (K := X.K) (f := g) (self := .ref C) c.fi) (evalArgs_kw2_nil hall (thn (hkw.run pos _ s2 σ H1 _ I2 q) fun ws s3 ⟨zs, H2, I3, rz, lz, q2⟩ => ⟨⟨pin_at I3, I3.kIn⟩, ?_⟩))
  rw [hks]
  have lw : ws.length = ks.length := by rw [← rz.length]; exact lz
  have z : wpAny (model X.prog X.w) X.A (call (.ref s1.heap.objs.size) [] (ks.zip ws)) (EP X ((s1.heap.objs.size, PySem.W.methodObj (.ref g) (.ref C)) :: pins) σ Q) X.xe s3 := by
    apply wpAny_call
    refine PySem.W.method_call (pin_at I3) ?_
    refine codeAny_mono (F.run X.A X.stack s3 H2 ⟨[.ref C], ks.zip ws⟩ (.ref C :: ws) (.ref C :: zs) Q E0 hr I3.env0 (hb s3 (.ref C) ws lw) (.cons rfl rz) q2) ?_
    intro r s' hq
    cases r with
    | error er => exact hq.elim
    | ok fl =>
      cases fl with
      | ret u => exact I3.after hq
      | next => exact hq.elim
      | brk => exact hq.elim
      | cont => exact hq.elim
  exact thn z fun _ _ y => unpinE y
end
end NeO

namespace Tk
open PySem PySem.Spec PyProof.Rows L2 ClX
/-- a row times a column -/
def prodsQ (qs rs : List (Int × Int)) : List (Int × Int) := List.zipWith mulQ qs rs
def spLedQ (K : PySem.W.Frag) (C : Addr) : Sp := fun vs H Q _ => ∃ (v : V) (b : Addr) (ys : List V) (qs rs : List (Int × Int)), vs = [v, .ref b] ∧ RowAt K C H v qs ∧ SqL K H b ys ∧ RatsP C H ys rs ∧ qs.length = rs.length ∧ qs.length ≤ 6 ∧
  (∀ q ∈ qs, Small q) ∧ (∀ r ∈ rs, Small r) ∧ (∀ z ∈ prodsQ qs rs, Small z) ∧ (∀ i, i ≤ (prodsQ qs rs).length → Small (sumQ ((prodsQ qs rs).take i))) ∧ ∀ H' r, Same H H' → RatAt C H' r (sumQ (prodsQ qs rs)) → Q (.ref r) H'
theorem row_b {K : PySem.W.Frag} {H : Hp} {a : Addr} {xs : List V} (h : SqA K H a xs) : ∃ t, ZmX.SqB t K H a xs := h.elim (fun h => ⟨false, h⟩) (fun h => ⟨true, h⟩)
section
variable {P : Program} {w : World} {K : PySem.W.Frag} {mg : Str → Option Value} {base : Heap}
abbrev nLedQ : List Str := ["numbers", "other", "number", "worth"]
theorem sc_ledQ : FnScope nLedQ ["numbers", "other"] (defScope sLedQ) := ⟨rfl, rfl, rfl, by decide +kernel, rfl, by decide +kernel, by decide +kernel⟩
def mulR2 (C : Addr) : R2 := fun x y H Q => NeO.rBinI C (spBin C mulQ) x y H Q ∨ NeO.rBinR C (spRev C mulQ) x y H Q
abbrev teMulQ (C : Addr) : TE := tOp (mulR2 C) (tVar 2) (tVar 3)
theorem ok_ledQ {f fM fR C p g : Addr} {fd dM dR dT : FuncData} {mc : Value} (F : Fun K "led" "led" sLedQ f fd) (mgC : mg "Ratio" = some (.ref C)) (TM : NeO.BinT K C fM "mul") (GM : FnOk P w K mg base CX0 5 fM dM ["self", "other"] (spBin C mulQ)) (bM : Binds K dM ["self", "other"] [])
    (RM : NeO.BinR K C fR "mul") (GR : FnOk P w K mg base CX0 6 fR dR ["self", "other"] (spRev C mulQ)) (bR : Binds K dR ["self", "other"] []) (rC : CRead K C mc) (cT : CMet K C mc "total" p g) (GT : FnOk P w K mg base CX0 6 g dT ["cls", "numbers"] (spTotal K C)) (bT : Binds K dT ["cls", "numbers"] []) (B : Bl mg) :
    FnOk P w K mg base CX0 7 f fd ["numbers", "other"] (spLedQ K C) := by
  refine F.ok sc_ledQ (fun vs H Q E h => ?_) (fun cdv A outer s H vs Q E hr h => ?_)
  · obtain ⟨v, b, ys, qs, rs, rfl, _⟩ := h
    rfl
  · obtain ⟨v, b, ys, qs, rs, rfl, ⟨a, xs, rfl, ha, hn⟩, hb, hR, hl, few, sq, sr, sp, ss, q⟩ := h
    refine ⟨_, pss_one (ps_ret (pe_cmeth (pe_glob (v := .ref C) rfl mgC rfl) rC cT (GT.raw bT .nil) hr pass0 (pa_cons
      (pe_lc (own := [("number", 2), ("worth", 3)]) (g := gTup K 2 (gCons (gName 2) (gCons (gName 3) gNil))) (tt := tYes) (te := teMulQ C) rfl sc_ledQ.nd (ZmX.pi_zipB (by rfl) B.zip (pa_cons (pv 0) (pa_cons (pv 1) pa_nil))) (blkOk_by (N := nLedQ) (sc := defScope sLedQ) (by decide +kernel))
        (fun _ _ _ _ _ => pg_tup rfl (pgs_cons (pg_name (i := 2) sc_ledQ.nd rfl (Or.inl rfl)) (pgs_cons (pg_name (i := 3) sc_ledQ.nd rfl (Or.inl rfl)) pgs_nil))) (fun _ _ _ _ _ => pts_nil)
        (fun _ _ _ _ _ => pe_op (opR_or (NeO.op_binI (op := .Mult) TM.first TM.own TM.fn GM (hr.mono (by decide)) bM) (NeO.op_binR (op := .Mult) NeO.int_mul RM GR hr bR)) (pv 2) (pv 3))) pa_nil))), ?_⟩
    obtain ⟨t, hA⟩ := row_b ha
    have lx : xs.length = qs.length := (nums_at hn).1
    have ly : ys.length = rs.length := (rats_at hR).1
    have lp : (prodsQ qs rs).length = qs.length := by unfold prodsQ; rw [List.length_zipWith]; omega
    refine ⟨rfl, _, rfl, _, rfl, t, false, a, b, xs, ys, rfl, hA, hb, fun D hD => ?_⟩
    refine ZmX.lc_zipB (H0 := H) (by omega) hA hb (fun k G => Same H G ∧ ∃ acc, G D = some (.lst acc) ∧ RatsP C G acc ((prodsQ qs rs).take k)) ⟨same_new hD, [], upd_same, by simp [RatsP]⟩ (fun k G _ p => p.1) ?_ ?_
    · rintro i x y T G hx hy ⟨sG, acc, hacc, hP⟩ hT
      obtain ⟨z, hz, hnum⟩ := (nums_at hn).2 i x hx
      have hi := lt_of_at hy
      obtain ⟨r', hr'⟩ : ∃ r', rs[i]? = some r' := ⟨rs[i]'(by omega), by simp [show i < rs.length by omega]⟩
      obtain ⟨m, rfl, hm⟩ := (rats_at hR).2 i y r' hy hr'
      have sT := same_new (o := .tup [x, V.ref m]) hT
      have num' := num_s hnum (sG.trans sT)
      have hm' := rat_s hm (sG.trans sT)
      have hacc' := sT _ _ hacc
      have hP' := rats_s sT hP
      have hpr : (prodsQ qs rs)[i]? = some (mulQ z r') := by unfold prodsQ; rw [List.getElem?_zipWith, hz, hr']
      have fewk := (rats_at hP).1
      have : ((prodsQ qs rs).take i).length ≤ 6 := by rw [List.length_take]; omega
      have fin : ∀ (G2 : Hp) (p2 : Addr), Same (upd G T (.tup [x, V.ref m])) G2 → RatAt C G2 p2 (mulQ z r') → ∃ acc', G2 D = some (.lst acc') ∧ acc'.length < sizeLine ∧ (Same H (upd G2 D (.lst (acc' ++ [V.ref p2]))) ∧ ∃ ac, upd G2 D (.lst (acc' ++ [V.ref p2])) D = some (.lst ac) ∧ RatsP C (upd G2 D (.lst (acc' ++ [V.ref p2]))) ac ((prodsQ qs rs).take (i + 1))) := fun G2 p2 s2 h2 => by
        refine ⟨acc, s2 _ _ hacc', szlt (by omega), same_mut ((sG.trans sT).trans s2) hD, acc ++ [.ref p2], upd_same, ?_⟩
        rw [take_at hpr]
        exact rats_but (s2 _ _ hacc') smx_upd (rats_app (rats_s s2 hP') ⟨⟨p2, rfl, h2⟩, trivial⟩)
      have sz := sq z (List.mem_of_getElem? hz)
      have sr' := sr r' (List.mem_of_getElem? hr')
      obtain ⟨dm, hmi⟩ := id hm'
      refine ⟨T, _, rfl, st_of upd_same, rfl, _, _, rfl, _, _, rfl, rfl, rfl, ?_⟩
      refine ⟨_, rfl, _, rfl, ?_⟩
      rcases num' with ⟨p, rfl, hp⟩ | ⟨j, rfl, rfl⟩
      · obtain ⟨dp, hpi⟩ := id hp
        exact .inl ⟨p, m, dp, dm, _, _, rfl, rfl, hpi, hmi, p, .ref m, z, r', rfl, hp, .inl ⟨m, rfl, hm'⟩, sz, sr', fun G2 p2 s2 _ h2 => ⟨p2, rfl, fin G2 p2 s2 h2⟩⟩
      · exact .inr ⟨m, dm, _, j, rfl, rfl, hmi, m, .int j, r', (j, 1), rfl, hm', .inr ⟨j, rfl, rfl⟩, sr', sz, fun G2 p2 s2 h2 => ⟨p2, rfl, fin G2 p2 s2 h2⟩⟩
    · rintro G ⟨sG, acc, hacc, hP⟩
      rw [show (prodsQ qs rs).take xs.length = prodsQ qs rs by rw [lx, ← lp, List.take_length]] at hP
      obtain ⟨e1, e2⟩ := rats_at hP
      refine ⟨D, acc, prodsQ qs rs, rfl, .inl (sl_of hacc), e1, fun i x z hx hz => ⟨.inl (e2 i x z hx hz), sp z (List.mem_of_getElem? hz)⟩, ss, fun H' r s' h => q H' r (sG.trans s') h⟩
end
end Tk

namespace Tk
open PySem PySem.Spec PyProof.Rows L2 ClX
abbrev sChkTwo : Stmt := top 28
abbrev sLessT : Stmt := top 32
def spChkTwo (K : PySem.W.Frag) (C : Addr) : Sp := fun vs H Q _ => ∃ (v w' : V) (n : Nat) (qss rss : List (List (Int × Int))), vs = [v, w'] ∧ TabAt K C H v n qss ∧ TabAt K C H w' n rss ∧ ∀ H', Same H H' → Q .non H'
/-- the differences, place by place -/
def lessL (qss rss : List (List (Int × Int))) : List (List (Int × Int)) := List.zipWith (List.zipWith subQ) qss rss
def spLessT (K : PySem.W.Frag) (C : Addr) : Sp := fun vs H Q _ => ∃ (v w' : V) (n : Nat) (qss rss : List (List (Int × Int))), vs = [v, w'] ∧ TabAt K C H v n qss ∧ TabAt K C H w' n rss ∧ (∀ qs ∈ qss, ∀ q ∈ qs, Small q) ∧ (∀ qs ∈ rss, ∀ q ∈ qs, Small q) ∧ NewTab C H Q (lessL qss rss)
section
variable {P : Program} {w : World} {K : PySem.W.Frag} {mg : Str → Option Value} {base : Heap}
theorem sc_chkTwo : FnScope ["table", "other"] ["table", "other"] (defScope sChkTwo) := ⟨rfl, rfl, rfl, by decide +kernel, rfl, by decide +kernel, by decide +kernel⟩
theorem ok_chkTwo {f f1 C : Addr} {fd fd1 : FuncData} (F : Fun K "check_two" "check_two" sChkTwo f fd) (D1 : Df K mg "check_table" sChkTab ["table"] f1 fd1) (G1 : FnOk P w K mg base CX0 5 f1 fd1 ["table"] (spChkTab K C)) (B : Bl mg) : FnOk P w K mg base CX0 6 f fd ["table", "other"] (spChkTwo K C) := by
  refine F.ok sc_chkTwo (fun vs H Q E h => ?_) (fun cdv A outer s H vs Q E hr h => ?_)
  · obtain ⟨v, w', n, qss, rss, rfl, _⟩ := h
    rfl
  · obtain ⟨v, w', n, qss, rss, rfl, h1, h2, q⟩ := h
    refine ⟨_, pss_cons (ps_expr (pe_call G1 hr rfl D1.g D1.F.kp D1.b .nil pass0 (pa_cons (pv 0) pa_nil))) (pss_cons (ps_expr (pe_call G1 hr rfl D1.g D1.F.kp D1.b .nil pass0 (pa_cons (pv 1) pa_nil)))
      (pss_one (ps_if (pt_cmpR op_ne (pe_callB call_len_seq (by rfl) B.len PySem.boot_len (pa_cons (pv 0) pa_nil)) (pe_callB call_len_seq (by rfl) B.len PySem.boot_len (pa_cons (pv 1) pa_nil)) (nomark _)) pss_never pss_nil))), ?_⟩
    refine ⟨_, rfl, v, n, qss, rfl, h1, fun H1 s1 => ?_⟩
    refine ⟨_, rfl, w', n, rss, rfl, tab_s h2 s1, fun H2 s2 => ?_⟩
    obtain ⟨_, l1, _, a, xs, rfl, ha, hR⟩ := tab_s h1 (s1.trans s2)
    obtain ⟨_, l2, _, b, ys, rfl, hb, hS⟩ := tab_s h2 (s1.trans s2)
    refine ⟨_, rfl, a, xs, rfl, ha, _, rfl, b, ys, rfl, hb, rfl, _, rfl, ?_⟩
    rw [show decide (V.int (xs.length : Int) = V.int (ys.length : Int)) = true from decide_eq_true (by rw [(rows_at hR).1, (rows_at hS).1, l1, l2])]
    exact iteF (q H2 (s1.trans s2))
theorem rt_at {L C : Addr} {H : Hp} : ∀ {xs : List V} {qs : List (List (Int × Int))}, RtRows L C H xs qs → ∀ (i : Nat) (x : V), xs[i]? = some x → ∃ q a ys, qs[i]? = some q ∧ x = .ref a ∧ a ≠ L ∧ H a = some (.lst ys) ∧ RatsP C H ys q
  | [], [], _, i, x, h => by simp at h
  | x :: xs, q :: qs, ⟨⟨a, ys, h1, h2, h3, h4⟩, h⟩, i, y, hy => by
    cases i with
    | zero =>
      simp at hy
      subst hy
      exact ⟨q, a, ys, rfl, h1, h2, h3, h4⟩
    | succ i => exact rt_at h i y (by simpa using hy)
  | [], _ :: _, h, _, _, _ => h.elim
  | _ :: _, [], h, _, _, _ => h.elim
abbrev nLessT : List Str := ["table", "other", "row", "line", "number", "worth"]
theorem sc_lessT : FnScope nLessT ["table", "other"] (defScope sLessT) := ⟨rfl, rfl, rfl, by decide +kernel, rfl, by decide +kernel, by decide +kernel⟩
abbrev scLessT : Scope := { kind := .function, names := [(".0", .local), ("row", .local), ("line", .local), ("zip", .globalImplicit)], isGenerator := false, isCoroutine := false }
def subR2 (C : Addr) : R2 := fun x y H Q => NeO.rBinI C (spBin C subQ) x y H Q ∨ NeO.rBinT C (spBin C subQ) x y H Q
abbrev teSubQ (C : Addr) : TE := tOp (subR2 C) (tVar 4) (tVar 5)
abbrev g2 (K : PySem.W.Frag) (i j : Nat) : TG := gTup K 2 (gCons (gName i) (gCons (gName j) gNil))
theorem ok_lessT {f f1 f2 fS C : Addr} {fd fd1 fd2 dS : FuncData} (F : Fun K "less" "less" sLessT f fd) (D1 : Df K mg "check_two" sChkTwo ["table", "other"] f1 fd1) (G1 : FnOk P w K mg base CX0 6 f1 fd1 ["table", "other"] (spChkTwo K C)) (D2 : Df K mg "told" sTold0 ["rows"] f2 fd2) (G2 : FnOk P w K mg base CX0 5 f2 fd2 ["rows"] (spToldQ K C))
    (TS : NeO.BinT K C fS "sub") (GS : FnOk P w K mg base CX0 5 fS dS ["self", "other"] (spBin C subQ)) (bS : Binds K dS ["self", "other"] []) (B : Bl mg) : FnOk P w K mg base CX0 7 f fd ["table", "other"] (spLessT K C) := by
  refine F.ok sc_lessT (fun vs H Q E h => ?_) (fun cdv A outer s H vs Q E hr h => ?_)
  · obtain ⟨v, w', n, qss, rss, rfl, _⟩ := h
    rfl
  · obtain ⟨v, w', n, qss, rss, rfl, h1, h2, sq, sr, q⟩ := h
    refine ⟨_, pss_cons (ps_expr (pe_call G1 hr rfl D1.g D1.F.kp D1.b .nil pass0 (pa_cons (pv 0) (pa_cons (pv 1) pa_nil))))
      (pss_one (ps_ret (pe_lc (own := [("row", 2), ("line", 3)]) (g := g2 K 2 3) (tt := tYes) (te := tLc (ZmX.iZipB K (tCons (tVar 2) (tCons (tVar 3) tNil))) (g2 K 4 5) tYes (teSubQ C) [4, 5]) rfl sc_lessT.nd
        (ZmX.pi_zipB (by rfl) B.zip (pa_cons (pe_call G2 (hr.mono (by decide)) rfl D2.g D2.F.kp D2.b .nil pass0 (pa_cons (pv 0) pa_nil)) (pa_cons (pv 1) pa_nil))) (blkOk_by (N := nLessT) (sc := defScope sLessT) (by decide +kernel))
        (fun _ _ _ _ _ => pg_tup rfl (pgs_cons (pg_name (i := 2) sc_lessT.nd rfl (Or.inl rfl)) (pgs_cons (pg_name (i := 3) sc_lessT.nd rfl (Or.inl rfl)) pgs_nil))) (fun _ _ _ _ _ => pts_nil)
        (fun _ _ _ _ _ => pe_lc (own := [("number", 4), ("worth", 5)]) (g := g2 K 4 5) (tt := tYes) (te := teSubQ C) rfl sc_lessT.nd (ZmX.pi_zipB (by rfl) B.zip (pa_cons (pv 2) (pa_cons (pv 3) pa_nil))) (blkOk_by (N := nLessT) (sc := scLessT) (by decide +kernel))
          (fun _ _ _ _ _ => pg_tup rfl (pgs_cons (pg_name (i := 4) sc_lessT.nd rfl (Or.inl rfl)) (pgs_cons (pg_name (i := 5) sc_lessT.nd rfl (Or.inl rfl)) pgs_nil))) (fun _ _ _ _ _ => pts_nil)
          (fun _ _ _ _ _ => pe_op (opR_or (NeO.op_binI (op := .Sub) TS.first TS.own TS.fn GS (hr.mono (by decide)) bS) (NeO.op_binT (op := .Sub) TS GS (hr.mono (by decide)) bS)) (pv 4) (pv 5)))))), ?_⟩
    refine ⟨_, rfl, _, rfl, v, w', n, qss, rss, rfl, h1, h2, fun H1 s1 => ?_⟩
    refine ⟨_, rfl, v, n, qss, rfl, tab_s h1 s1, fun H2 r s2 _ hT _ => ?_⟩
    obtain ⟨n6, l2, lr2, b, ys, rfl, hb, hS⟩ := tab_s h2 (s1.trans s2)
    obtain ⟨_, l1, lr1, _⟩ := h1
    obtain ⟨xs, hx0, hR⟩ := hT
    obtain ⟨u, hB⟩ := row_b hb
    have lx : xs.length = n := by rw [rt_len hR]; exact l1
    have ly : ys.length = n := by rw [(rows_at hS).1]; exact l2
    refine ⟨_, rfl, false, u, r, b, xs, ys, rfl, sl_of hx0, hB, fun D hD => ?_⟩
    have lL : (lessL qss rss).length = n := by unfold lessL; rw [List.length_zipWith]; omega
    refine ZmX.lc_zipB (H0 := H2) (by omega) (sl_of hx0) hB (fun k G => Same H2 G ∧ ∃ acc, G D = some (.lst acc) ∧ RtRows D C G acc ((lessL qss rss).take k) ∧ NewL H2 acc) ⟨same_new hD, [], upd_same, by simp [RtRows], newl_nil⟩ (fun k G _ p => p.1) ?_ ?_
    · rintro k x y T G hx hy ⟨sG, acc, hacc, hP, hNl⟩ hTn
      have sT := same_new (o := .tup [x, y]) hTn
      obtain ⟨z, a1, us, hz, rfl, _, hus, hU⟩ := rt_at hR k x hx
      obtain ⟨z2, hz2, hrow⟩ := (rows_at hS).2 k y hy
      have hus' := sT _ _ (sG _ _ hus)
      have hU' := rats_s (sG.trans sT) hU
      obtain ⟨b1, vs', rfl, hb1, hN⟩ := row_s hrow (sG.trans sT)
      obtain ⟨u1, hB1⟩ := row_b hb1
      have e1 := lr1 z (List.mem_of_getElem? hz)
      have e2 := lr2 z2 (List.mem_of_getElem? hz2)
      have lu : us.length = n := by rw [(rats_at hU).1]; exact e1
      have lv : vs'.length = n := by rw [(nums_at hN).1]; exact e2
      have hacc' := sT _ _ hacc
      have hP' := rt_s sT hP
      have sG' := sG.trans sT
      refine ⟨T, _, rfl, st_of upd_same, rfl, _, _, rfl, _, _, rfl, rfl, rfl, ?_⟩
      generalize upd G T (.tup [V.ref a1, V.ref b1]) = G1 at hus' hU' hb1 hN hB1 hacc' hP' sG'
      clear sT hTn
      have hk := lt_of_at hz
      have hrw : (lessL qss rss)[k]? = some (List.zipWith subQ z z2) := by unfold lessL; rw [List.getElem?_zipWith, hz, hz2]
      have lw : (List.zipWith subQ z z2).length = n := by rw [List.length_zipWith]; omega
      refine ⟨_, rfl, _, rfl, false, u1, a1, b1, us, vs', rfl, sl_of hus', hB1, fun D2 hD2 => ?_⟩
      have nDD : D2 ≠ D := fun e => by rw [e, hacc'] at hD2; cases hD2
      refine ZmX.lc_zipB (H0 := G1) (by omega) (sl_of hus') hB1 (fun j G2 => Same G1 G2 ∧ ∃ ac, G2 D2 = some (.lst ac) ∧ RatsP C G2 ac ((List.zipWith subQ z z2).take j)) ⟨same_new hD2, [], upd_same, by simp [RatsP]⟩ (fun j G2 _ p => p.1) ?_ ?_
      · rintro j x2 y2 T2 G2 hx2 hy2 ⟨s2', ac, hac, hQ⟩ hT2
        have sT2 := same_new (o := .tup [x2, y2]) hT2
        have hj := lt_of_at hx2
        obtain ⟨c1, hc1⟩ : ∃ c1, z[j]? = some c1 := ⟨z[j]'(by omega), by simp [show j < z.length by omega]⟩
        obtain ⟨p1, rfl, hp1⟩ := (rats_at hU').2 j x2 c1 hx2 hc1
        obtain ⟨c2, hc2, hn2⟩ := (nums_at hN).2 j y2 hy2
        have hp1' := rat_s hp1 (s2'.trans sT2)
        have hn2' := num_s hn2 (s2'.trans sT2)
        have hac' := sT2 _ _ hac
        have hQ' := rats_s sT2 hQ
        have ss2 := s2'.trans sT2
        have sm1 := sq z (List.mem_of_getElem? hz) c1 (List.mem_of_getElem? hc1)
        have sm2 := sr z2 (List.mem_of_getElem? hz2) c2 (List.mem_of_getElem? hc2)
        have hpr : (List.zipWith subQ z z2)[j]? = some (subQ c1 c2) := by rw [List.getElem?_zipWith, hc1, hc2]
        have fewj := (rats_at hQ).1
        have : ((List.zipWith subQ z z2).take j).length ≤ 6 := by rw [List.length_take]; omega
        refine ⟨T2, _, rfl, st_of upd_same, rfl, _, _, rfl, _, _, rfl, rfl, rfl, ?_⟩
        generalize upd G2 T2 (.tup [V.ref p1, y2]) = G3 at hp1' hn2' hac' hQ' ss2
        have fin : ∀ (G4 : Hp) (p2 : Addr), Same G3 G4 → RatAt C G4 p2 (subQ c1 c2) → ∃ acc', G4 D2 = some (.lst acc') ∧ acc'.length < sizeLine ∧ (Same G1 (upd G4 D2 (.lst (acc' ++ [V.ref p2]))) ∧ ∃ ac, upd G4 D2 (.lst (acc' ++ [V.ref p2])) D2 = some (.lst ac) ∧ RatsP C (upd G4 D2 (.lst (acc' ++ [V.ref p2]))) ac ((List.zipWith subQ z z2).take (j + 1))) := fun G4 p2 s4 h4 => by
          refine ⟨ac, s4 _ _ hac', szlt (by omega), same_mut (ss2.trans s4) hD2, ac ++ [.ref p2], upd_same, ?_⟩
          rw [take_at hpr]
          exact rats_but (s4 _ _ hac') smx_upd (rats_app (rats_s s4 hQ') ⟨⟨p2, rfl, h4⟩, trivial⟩)
        obtain ⟨dp, hpi⟩ := id hp1'
        refine ⟨_, rfl, _, rfl, ?_⟩
        rcases hn2' with ⟨m, rfl, hm⟩ | ⟨i, rfl, rfl⟩
        · obtain ⟨dm, hmi⟩ := id hm
          exact .inl ⟨p1, m, dp, dm, _, _, rfl, rfl, hpi, hmi, p1, .ref m, c1, c2, rfl, hp1', .inl ⟨m, rfl, hm⟩, sm1, sm2, fun G4 p2 s4 _ h4 => ⟨p2, rfl, fin G4 p2 s4 h4⟩⟩
        · exact .inr ⟨p1, dp, _, i, rfl, rfl, hpi, p1, .int i, c1, (i, 1), rfl, hp1', .inr ⟨i, rfl, rfl⟩, sm1, sm2, fun G4 p2 s4 _ h4 => ⟨p2, rfl, fin G4 p2 s4 h4⟩⟩
      · rintro G2 ⟨s2', ac, hac, hQ⟩
        rw [show (List.zipWith subQ z z2).take us.length = List.zipWith subQ z z2 by rw [lu, ← lw, List.take_length]] at hQ
        have fewk := rt_len hP
        have : ((lessL qss rss).take k).length ≤ 6 := by rw [List.length_take]; omega
        refine ⟨acc, s2' _ _ hacc', szlt (by omega), same_mut (sG'.trans s2') hD, acc ++ [.ref D2], upd_same, ?_, newl_put hNl (sG'.free hD2)⟩
        rw [take_at hrw]
        exact rt_but (s2' _ _ hacc') (rt_app (rt_s s2' hP') ⟨⟨D2, ac, rfl, nDD, hac, hQ⟩, trivial⟩)
    · rintro G ⟨sG, acc, hacc, hP, hN⟩
      rw [show (lessL qss rss).take xs.length = lessL qss rss by rw [lx, ← lL, List.take_length]] at hP
      exact q G D ((s1.trans s2).trans sG) ((s1.trans s2).free hD) ⟨acc, hacc, hP⟩ ⟨acc, hacc, newl_le hN (s1.trans s2)⟩
end
end Tk

namespace Tk
open PySem PySem.Spec PyProof.Rows L2 ClX
abbrev sAboutT : Stmt := top 33
abbrev sTimesT : Stmt := top 31
/-- the columns of n rows of n -/
def colsQ (n : Nat) (qss : List (List (Int × Int))) : List (List (Int × Int)) := (List.range n).map fun j => qss.map fun qs => qs[j]?.getD (0, 1)
def timesQ (n : Nat) (qss rss : List (List (Int × Int))) : List (List (Int × Int)) := qss.map fun qs => (colsQ n rss).map fun cs => sumQ (prodsQ qs cs)
def spAboutT (K : PySem.W.Frag) (C : Addr) : Sp := fun vs H Q _ => ∃ (v : V) (n : Nat) (qss : List (List (Int × Int))), vs = [v] ∧ TabAt K C H v n qss ∧ NewTab C H Q (colsQ n qss)
def spTimesT (K : PySem.W.Frag) (C : Addr) : Sp := fun vs H Q _ => ∃ (v w' : V) (n : Nat) (qss rss : List (List (Int × Int))), vs = [v, w'] ∧ TabAt K C H v n qss ∧ TabAt K C H w' n rss ∧ (∀ qs ∈ qss, ∀ q ∈ qs, Small q) ∧ (∀ cs ∈ colsQ n rss, ∀ q ∈ cs, Small q) ∧
  (∀ qs ∈ qss, ∀ cs ∈ colsQ n rss, (∀ z ∈ prodsQ qs cs, Small z) ∧ ∀ i, i ≤ (prodsQ qs cs).length → Small (sumQ ((prodsQ qs cs).take i))) ∧ NewTab C H Q (timesQ n qss rss)
section
variable {P : Program} {w : World} {K : PySem.W.Frag} {mg : Str → Option Value} {base : Heap}
abbrev nTimesT : List Str := ["table", "other", "columns", "row", "column"]
theorem sc_timesT : FnScope nTimesT ["table", "other"] (defScope sTimesT) := ⟨rfl, rfl, rfl, by decide +kernel, rfl, by decide +kernel, by decide +kernel⟩
abbrev scTimesT : Scope := { kind := .function, names := [(".0", .local), ("row", .cell), ("columns", .cell)], isGenerator := false, isCoroutine := false }
abbrev teLed (K : PySem.W.Frag) (C : Addr) : TE := tCall (spLedQ K C) [] E0 (tCons (tVar 3) (tCons (tVar 4) tNil))
theorem ok_timesT {f f1 f2 f3 C : Addr} {fd fd1 fd2 fd3 : FuncData} (F : Fun K "times" "times" sTimesT f fd) (D1 : Df K mg "check_two" sChkTwo ["table", "other"] f1 fd1) (G1 : FnOk P w K mg base CX0 6 f1 fd1 ["table", "other"] (spChkTwo K C)) (D2 : Df K mg "about" sAboutT ["table"] f2 fd2) (G2 : FnOk P w K mg base CX0 7 f2 fd2 ["table"] (spAboutT K C))
    (D3 : Df K mg "led" sLedQ ["numbers", "other"] f3 fd3) (G3 : FnOk P w K mg base CX0 7 f3 fd3 ["numbers", "other"] (spLedQ K C)) (B : Bl mg) : FnOk P w K mg base CX0 8 f fd ["table", "other"] (spTimesT K C) := by
  refine F.ok sc_timesT (fun vs H Q E h => ?_) (fun cdv A outer s H vs Q E hr h => ?_)
  · obtain ⟨v, w', n, qss, rss, rfl, _⟩ := h
    rfl
  · obtain ⟨v, w', n, qss, rss, rfl, h1, h2, sq, sr, sp, q⟩ := h
    refine ⟨_, pss_cons (ps_expr (pe_call G1 (hr.mono (by decide)) rfl D1.g D1.F.kp D1.b .nil pass0 (pa_cons (pv 0) (pa_cons (pv 1) pa_nil))))
      (pss_cons (ps_set (i := 2) sc_timesT.nd rfl (Or.inr rfl) (pe_call G2 hr rfl D2.g D2.F.kp D2.b .nil pass0 (pa_cons (pv 1) pa_nil)))
      (pss_one (ps_ret (pe_lc (own := [("row", 3)]) (g := gName 3) (tt := tYes) (te := tLc (iSq K (tVar 2)) (gName 4) tYes (teLed K C) [4]) rfl sc_timesT.nd (pi_sq (pv 0)) (blkOk_by (N := nTimesT) (sc := defScope sTimesT) (by decide +kernel))
        (fun _ _ _ _ _ => pg_name (i := 3) sc_timesT.nd rfl (Or.inr rfl)) (fun _ _ _ _ _ => pts_nil)
        (fun _ _ _ _ _ => pe_lc (own := [("column", 4)]) (g := gName 4) (tt := tYes) (te := teLed K C) rfl sc_timesT.nd (pi_sq (pv 2)) (blkOk_by (N := nTimesT) (sc := scTimesT) (by decide +kernel))
          (fun _ _ _ _ _ => pg_name (i := 4) sc_timesT.nd rfl (Or.inl rfl)) (fun _ _ _ _ _ => pts_nil) (fun _ _ _ _ _ => pe_call G3 hr rfl D3.g D3.F.kp D3.b .nil pass0 (pa_cons (pv 3) (pa_cons (pv 4) pa_nil)))))))), ?_⟩
    refine ⟨_, rfl, _, rfl, v, w', n, qss, rss, rfl, h1, h2, fun H1 s1 => ?_⟩
    refine ⟨_, rfl, w', n, rss, rfl, tab_s h2 s1, fun H2 r s2 _ hT _ => ?_⟩
    obtain ⟨n6, l1, lr1, a, xs, rfl, ha, hR⟩ := tab_s h1 (s1.trans s2)
    obtain ⟨_, l2, lr2, _⟩ := h2
    obtain ⟨ys, hy0, hC⟩ := hT
    have lx : xs.length = n := by rw [(rows_at hR).1]; exact l1
    have lc : (colsQ n rss).length = n := by unfold colsQ; simp
    have ly : ys.length = n := by rw [rt_len hC]; exact lc
    have lcs : ∀ cs ∈ colsQ n rss, cs.length = n := fun cs hcs => by
      unfold colsQ at hcs
      obtain ⟨j, _, rfl⟩ := List.mem_map.mp hcs
      rw [List.length_map]
      exact l2
    have lt : (timesQ n qss rss).length = n := by unfold timesQ; rw [List.length_map]; exact l1
    refine ⟨_, rfl, a, xs, rfl, ha, fun it hit D hD => ?_⟩
    refine lc_sq hit (fun k G => Same H2 G ∧ ∃ acc, G D = some (.lst acc) ∧ RtRows D C G acc ((timesQ n qss rss).take k) ∧ NewL H2 acc) ⟨same_new hD, [], upd_same, by simp [RtRows], newl_nil⟩ (fun k G _ p => p.1) ?_ ?_
    · rintro k x G hx ⟨sG, acc, hacc, hP, hN⟩
      obtain ⟨z, hz, hrow⟩ := (rows_at hR).2 k x hx
      have hrow' := row_s hrow sG
      have hk := lt_of_at hx
      have lz := lr1 z (List.mem_of_getElem? hz)
      have hrw : (timesQ n qss rss)[k]? = some ((colsQ n rss).map fun cs => sumQ (prodsQ z cs)) := by unfold timesQ; rw [List.getElem?_map, hz]; rfl
      have fewk := rt_len hP
      have : ((timesQ n qss rss).take k).length ≤ 6 := by rw [List.length_take]; omega
      refine ⟨rfl, _, rfl, r, ys, rfl, .inl (sl_of (sG _ _ hy0)), fun it2 hit2 D2 hD2 => ?_⟩
      have nDD : D2 ≠ D := fun e => by rw [e, hacc] at hD2; cases hD2
      refine lc_sq hit2 (fun j G2 => Same G G2 ∧ ∃ ac, G2 D2 = some (.lst ac) ∧ RatsP C G2 ac (((colsQ n rss).map fun cs => sumQ (prodsQ z cs)).take j)) ⟨same_new hD2, [], upd_same, by simp [RatsP]⟩ (fun j G2 _ p => p.1) ?_ ?_
      · rintro j y G2 hy ⟨s3, ac, hac, hQ⟩
        obtain ⟨cs, b1, us, hcs, rfl, _, hus, hU⟩ := rt_at hC j y hy
        have mc := List.mem_of_getElem? hcs
        have mz := List.mem_of_getElem? hz
        obtain ⟨t1, t2⟩ := sp z mz cs mc
        have ss := sG.trans s3
        have fewj := (rats_at hQ).1
        have : (((colsQ n rss).map fun cs => sumQ (prodsQ z cs)).take j).length ≤ 6 := by rw [List.length_take, List.length_map]; omega
        refine ⟨rfl, _, rfl, _, rfl, x, b1, us, z, cs, rfl, row_s hrow' s3, sl_of (ss _ _ hus), rats_s ss hU, by rw [lz, lcs cs mc], by omega, sq z mz, sr cs mc, t1, t2, fun G3 p s4 hp => ?_⟩
        refine ⟨ac, s4 _ _ hac, szlt (by omega), same_mut (s3.trans s4) hD2, ac ++ [.ref p], upd_same, ?_⟩
        rw [take_at (x := sumQ (prodsQ z cs)) (by rw [List.getElem?_map, hcs]; rfl)]
        exact rats_but (s4 _ _ hac) smx_upd (rats_app (rats_s s4 hQ) ⟨⟨p, rfl, hp⟩, trivial⟩)
      · rintro G2 ⟨s3, ac, hac, hQ⟩
        rw [show ((colsQ n rss).map fun cs => sumQ (prodsQ z cs)).take ys.length = (colsQ n rss).map fun cs => sumQ (prodsQ z cs) from List.take_of_length_le (by rw [List.length_map]; omega)] at hQ
        refine ⟨acc, s3 _ _ hacc, szlt (by omega), same_mut (sG.trans s3) hD, acc ++ [.ref D2], upd_same, ?_, newl_put hN (sG.free hD2)⟩
        rw [take_at hrw]
        exact rt_but (s3 _ _ hacc) (rt_app (rt_s s3 hP) ⟨⟨D2, ac, rfl, nDD, hac, hQ⟩, trivial⟩)
    · rintro G ⟨sG, acc, hacc, hP, hN⟩
      rw [show (timesQ n qss rss).take xs.length = timesQ n qss rss from List.take_of_length_le (by omega)] at hP
      exact q G D ((s1.trans s2).trans sG) ((s1.trans s2).free hD) ⟨acc, hacc, hP⟩ ⟨acc, hacc, newl_le hN (s1.trans s2)⟩
end
end Tk

namespace ZpX
open PySem
/-! ## zip of any number of iterators -/
/-- an iterator: its cell, the cells that it reads, its items, its state -/
structure Zi where
  it : Nat
  fp : List Nat
  items : List Value
  St : Nat → Heap → Prop
abbrev Zi.D (j : Zi) (prog : Program) (w : World) (A : Around) : Prop := Draws prog w A j.it j.fp j.items.length (fun i v => j.items[i]? = some v) j.St
/-- the item at its place i -/
def Zi.at_ (i : Nat) (j : Zi) : Value := j.items[i]?.getD .none
/-- the cells lie apart -/
structure SepN (z TI TO : Nat) (L : List Zi) : Prop where
  TIz : TI ≠ z
  TOz : TO ≠ z
  TITO : TI ≠ TO
  TIi : ∀ j ∈ L, TI ≠ j.it
  mem : ∀ j ∈ L, j.it ∈ j.fp
  zf : ∀ j ∈ L, z ∉ j.fp
  Tf : ∀ j ∈ L, TO ∉ j.fp
  sep : L.Pairwise fun j k => j.it ∉ k.fp ∧ k.it ∉ j.fp
/-- a zip, its tuple handed out or not -/
abbrev IsZipG (h : Heap) (z TI TO : Addr) (f0 : Value) (f1 : Bool) : Prop :=
  h.get? z = some { cls := .type "zip", dict := none, data := .fields #[f0, .bool f1, .bool false, .ref TI, .ref TO], slots := #[] }
def Handed (f0 : Value) : Prop := f0 = .none ∨ ∃ T : Nat, f0 = rawInt (T : Int)
abbrev IsTupN (h : Heap) (T : Addr) (xs : List Value) : Prop := h.get? T = some { cls := .type "tuple", data := .seq xs.toArray }
section
variable {prog : Program} {w : World} {A : Around} {E : Value → Shared → Prop} {s : Shared} {z TI TO : Addr} {f1 : Bool} {f0 : Value} {L : List Zi} {i : Nat}
theorem SepN.zi (S : SepN z TI TO L) {j : Zi} (h : j ∈ L) : z ≠ j.it := fun e => S.zf j h (by rw [e]; exact S.mem j h)
theorem SepN.Ti (S : SepN z TI TO L) {j : Zi} (h : j ∈ L) : TO ≠ j.it := fun e => S.Tf j h (by rw [e]; exact S.mem j h)
theorem updateSeq_IsTupN {T : Addr} {xs : List Value} {x : Value} {k : Nat} {Q : Unit → Shared → Prop} (hT : IsTupN s.heap T xs) (hsz : xs.length ≤ sizeLine)
    (h : ∀ h', IsTupN h' T (xs.set k x) → Heap.SameBut T s.heap h' → Q () { s with heap := h' }) :
    wpAny (model prog w) A (updateSeq T (·.setIfInBounds k x)) Q E s := by
  refine wpAny_updateSeq hT rfl (h _ ?_ (Heap.SameBut.update ..)) (by simpa using hsz) (by simp; omega)
  show _ = _
  rw [Heap.get?_update_self _ hT rfl]
  simp [Obj.mapSeq]
/-- what stands while the iterators are asked: those in front have been -/
structure Mid (hp g : Heap) (z TI TO : Addr) (f1 : Bool) (L front back : List Zi) (i : Nat) (xs : List Value) : Prop where
  eq : L = front ++ back
  zip : IsZipG g z TI TO .ellipsis f1
  out : IsTupN g TO (front.map (Zi.at_ i) ++ xs.drop front.length)
  fr : ∀ j ∈ front, j.St (i + 1) g
  ba : ∀ j ∈ back, j.St i g
  size : g.objs.size = hp.objs.size
  keep : ∀ c o, c ≠ z → c ≠ TO → (∀ j ∈ L, c ≠ j.it) → hp.get? c = some o → g.get? c = some o
theorem SepN.off (S : SepN z TI TO L) {front back : List Zi} {j : Zi} (e : L = front ++ j :: back) : (∀ k ∈ front, j.it ∉ k.fp) ∧ ∀ k ∈ back, j.it ∉ k.fp := by
  have h := S.sep
  rw [e] at h
  obtain ⟨_, h2, h3⟩ := List.pairwise_append.mp h
  exact ⟨fun k hk => (h3 k hk j (by simp)).2, fun k hk => ((List.pairwise_cons.mp h2).1 k hk).1⟩
theorem mid_step {hp g p q : Heap} {front back : List Zi} {j : Zi} {xs : List Value} (S : SepN z TI TO L) (D : ∀ j ∈ L, j.D prog w A) (hl : xs.length = L.length) (M : Mid hp g z TI TO f1 L front (j :: back) i xs) (hj : j.St (i + 1) p) (h1 : Heap.SameBut j.it g p)
    (h2 : IsTupN q TO ((front.map (Zi.at_ i) ++ xs.drop front.length).set front.length (j.at_ i))) (h3 : Heap.SameBut TO p q) : Mid hp q z TI TO f1 L (front ++ [j]) back i xs := by
  obtain ⟨o1, o2⟩ := S.off M.eq
  have mj : j ∈ L := by rw [M.eq]; simp
  have mf : ∀ k ∈ front, k ∈ L := fun k hk => by rw [M.eq]; simp [hk]
  have mb : ∀ k ∈ back, k ∈ L := fun k hk => by rw [M.eq]; simp [hk]
  refine ⟨by rw [M.eq]; simp, ?_, ?_, ?_, ?_, ?_, ?_⟩
  · exact h3.extBut _ _ S.TOz.symm (h1.extBut _ _ (S.zi mj) M.zip)
  · have e : (front.map (Zi.at_ i) ++ xs.drop front.length).set front.length (j.at_ i) = (front ++ [j]).map (Zi.at_ i) ++ xs.drop (front ++ [j]).length := by
      have hlt : front.length < xs.length := by rw [hl, M.eq]; simp
      have hd : (xs.drop front.length).set 0 (j.at_ i) = j.at_ i :: xs.drop (front.length + 1) := by rw [List.drop_eq_getElem_cons hlt]; rfl
      rw [List.set_append_right _ _ (by simp)]
      simp [hd]
    rw [← e]
    exact h2
  · intro k hk
    rcases List.mem_append.mp hk with hk | hk
    · exact (D k (mf k hk)).over ((D k (mf k hk)).over (M.fr k hk) h1 (o1 k hk)) h3 (S.Tf k (mf k hk))
    · rw [List.mem_singleton.mp hk]
      exact (D j mj).over hj h3 (S.Tf j mj)
  · intro k hk
    exact (D k (mb k hk)).over ((D k (mb k hk)).over (M.ba k (List.mem_cons_of_mem _ hk)) h1 (o2 k hk)) h3 (S.Tf k (mb k hk))
  · rw [h3.1, h1.1, M.size]
  · intro c o cz cT cL e
    exact h3.extBut _ _ cT (h1.extBut _ _ (cL j mj) (M.keep c o cz cT cL e))
theorem midlen {hp q : Heap} {front back : List Zi} {xs : List Value} (hl : xs.length = L.length) (few : L.length ≤ sizeLine) (M : Mid hp q z TI TO f1 L front back i xs) : (front.map (Zi.at_ i) ++ xs.drop front.length).length ≤ sizeLine := by
  have : front.length ≤ L.length := by rw [M.eq]; simp
  rw [List.length_append, List.length_map, List.length_drop]
  omega
theorem alive_any {M : Model} {a : Addr} {Q : Option Obj → Shared → Prop} (h : Q (s.heap.get? a) s) : wpAny M A (loadIfAlive a) Q E s := by
  intro G p hG
  show Sem.wp M G (.loadIfAlive a .pure) _ _ _ _
  rw [Sem.wp_loadIfAlive]
  exact (wpAny_pure h : wpAny M A (pure (s.heap.get? a)) Q E s) G p hG
theorem wpAny_owned {Q : Bool → Shared → Prop} (hz : IsZipG s.heap z TI TO f0 f1) (hf : Handed f0) (h1 : Q true s) (h2 : ∀ (T : Nat) h', IsZipG h' z TI TO (rawInt (T : Int)) true → Heap.SameBut z s.heap h' → Q false { s with heap := h' }) :
    wpAny (model prog w) A (Builtin.SmallTypes.ownedTupleIsFree (.ref z)) Q E s := by
  unfold Builtin.SmallTypes.ownedTupleIsFree
  rcases hf with rfl | ⟨T, rfl⟩
  · exact wpAny_bind (wpAny_field hz rfl (x := .none) rfl (wpAny_pure h1))
  · refine wpAny_bind (wpAny_field hz rfl (x := rawInt (T : Int)) rfl ?_)
    show wpAny _ _ (loadIfAlive ((T : Int).toNat) >>= _) _ _ _
    rw [Int.toNat_natCast]
    refine wpAny_bind (alive_any ?_)
    cases hT : s.heap.get? T with
    | none =>
      simp only [Option.isNone_none, if_true]
      exact wpAny_pure h1
    | some oT =>
      simp only [Option.isNone_some, Bool.false_eq_true, if_false]
      refine wpAny_bind (wpAny_field hz rfl (x := .bool f1) rfl ?_)
      cases f1 with
      | true =>
        rw [if_neg (show ¬ ((Value.bool true != Value.bool true) = true) from Bool.false_ne_true)]
        exact wpAny_pure (h2 T s.heap hz (Heap.SameBut.refl _ _))
      | false =>
        rw [if_pos (show (Value.bool false != Value.bool true) = true from rfl)]
        exact wpAny_bind (wpAny_setField_rec hz (by simp) fun h₁ hz₁ hs₁ => wpAny_pure (h2 T h₁ hz₁ hs₁))
/-- what stands while the iterators are asked, the tuple being out -/
structure Mid2 (hp g : Heap) (z TI TO T : Addr) (L front back : List Zi) (i : Nat) : Prop where
  eq : L = front ++ back
  zip : IsZipG g z TI TO (rawInt (T : Int)) true
  fr : ∀ j ∈ front, j.St (i + 1) g
  ba : ∀ j ∈ back, j.St i g
  size : g.objs.size = hp.objs.size
  keep : ∀ c o, c ≠ z → (∀ j ∈ L, c ≠ j.it) → hp.get? c = some o → g.get? c = some o
theorem mid2_step {hp g p : Heap} {T : Addr} {front back : List Zi} {j : Zi} (S : SepN z TI TO L) (D : ∀ j ∈ L, j.D prog w A) (M : Mid2 hp g z TI TO T L front (j :: back) i) (hj : j.St (i + 1) p) (h1 : Heap.SameBut j.it g p) : Mid2 hp p z TI TO T L (front ++ [j]) back i := by
  obtain ⟨o1, o2⟩ := S.off M.eq
  have mj : j ∈ L := by rw [M.eq]; simp
  have mf : ∀ k ∈ front, k ∈ L := fun k hk => by rw [M.eq]; simp [hk]
  have mb : ∀ k ∈ back, k ∈ L := fun k hk => by rw [M.eq]; simp [hk]
  refine ⟨by rw [M.eq]; simp, ?_, ?_, ?_, ?_, ?_⟩
  · exact h1.extBut _ _ (S.zi mj) M.zip
  · intro k hk
    rcases List.mem_append.mp hk with hk | hk
    · exact (D k (mf k hk)).over (M.fr k hk) h1 (o1 k hk)
    · rw [List.mem_singleton.mp hk]
      exact hj
  · intro k hk
    exact (D k (mb k hk)).over (M.ba k (List.mem_cons_of_mem _ hk)) h1 (o2 k hk)
  · rw [h1.1, M.size]
  · intro c o cz cL e
    exact h1.extBut _ _ (cL j mj) (M.keep c o cz cL e)
theorem zipN_next_item {xs : List Value} {Q : Value → Shared → Prop} (S : SepN z TI TO L) (D : ∀ j ∈ L, j.D prog w A) (ne : L ≠ [])
    (hz : IsZipG s.heap z TI TO f0 f1) (hf : Handed f0) (hTI : IsTupN s.heap TI (L.map fun j => .ref j.it)) (hTO : IsTupN s.heap TO xs) (hl : xs.length = L.length) (few : L.length ≤ sizeLine) (st : ∀ j ∈ L, j.St i s.heap) (hlt : ∀ j ∈ L, i < j.items.length)
    (hQ : ∀ h' tk (T : Nat) f' ys, IsZipG h' z TI TO (rawInt (T : Int)) f' → IsTupN h' TO ys → ys.length = L.length → (∀ j ∈ L, j.St (i + 1) h') → IsTupN h' s.heap.objs.size (L.map (Zi.at_ i)) → h'.objs.size = s.heap.objs.size + 1 →
      (∀ c o, c ≠ z → c ≠ TO → (∀ j ∈ L, c ≠ j.it) → s.heap.get? c = some o → h'.get? c = some o) → Q (.ref s.heap.objs.size) { s with heap := h', toks := tk }) :
    wpAny (model prog w) A (Builtin.«zip.__next__» ⟨[.ref z], []⟩) (fun fin s' => ∃ v, fin = .done (.ret v) ∧ Q v s') E s := by
  obtain ⟨hp, g, d, tk0, os⟩ := s
  show wpAny _ _ (field (.ref z) 2 >>= _) _ _ _
  refine wpAny_bind (wpAny_field hz rfl (x := .bool false) rfl ?_)
  show wpAny _ _ (field (.ref z) 3 >>= _) _ _ _
  refine wpAny_bind (wpAny_field hz rfl (x := .ref TI) rfl ?_)
  refine wpAny_bind (wpAny_seqItems hTI rfl ?_)
  have hem : ((L.map fun j => Value.ref j.it).toArray.isEmpty) = false := by
    cases L with
    | nil => exact absurd rfl ne
    | cons j L => rfl
  simp only [hem]
  show wpAny _ _ (Builtin.SmallTypes.ownedTupleIsFree (.ref z) >>= _) _ _ _
  refine wpAny_bind (wpAny_owned hz hf ?_ fun T h₁ hz₁ hs₁ => ?_)
  · simp only [if_true]
    refine wpAny_bind (wpAny_rule ?_)
    refine wpAny_bind (wpAny_field hz rfl (x := .ref TO) rfl ?_)
    refine wpAny_bind (wpAny_setField_rec hz (by simp) fun g0 hz0 hs0 => ?_)
    replace hz0 : IsZipG g0 z TI TO .ellipsis f1 := hz0
    replace hs0 : Heap.SameBut z hp g0 := hs0
    refine wpAny_bind ?_
    have M0 : Mid hp g0 z TI TO f1 L [] L i xs :=
      ⟨rfl, hz0, by simpa using hs0.extBut _ _ S.TOz hTO, fun j hj => by simp at hj, fun j hj => (D j hj).over (st j hj) hs0 (S.zf j hj), hs0.1, fun c o cz cT cL e => hs0.extBut _ _ cz e⟩
    refine wpAny_forIn_list _ (fun rest r s' => r.1 = none ∧ ∃ (front back : List Zi) (q : Heap) (tk : Tok), rest = (back.map fun j => Value.ref j.it).zipIdx front.length ∧ s' = ⟨q, g, d, tk, os⟩ ∧ Mid hp q z TI TO f1 L front back i xs) _ ?_ ?_ _ _ ⟨rfl, [], L, g0, tk0, by simp, rfl, M0⟩
    · rintro x rest r s' ⟨hr, front, back, q, tk, e, rfl, M⟩
      cases back with
      | nil => simp at e
      | cons j back =>
        rw [List.map_cons, List.zipIdx_cons] at e
        injection e with e1 e2
        subst e1 e2
        have mj : j ∈ L := by rw [M.eq]; simp
        refine wpAny_bind (wpAny_onRaise ?_)
        show wpAny _ _ (Builtin.SmallTypes.nextOf (.ref j.it) >>= _) _ _ ⟨q, g, d, tk, os⟩
        refine wpAny_bind ((D j mj).item i _ _ _ (hlt j mj) (M.ba j (by simp)) fun x1 p1 tk1 hx1 sn1 hp1 => wpAny_pure ?_)
        replace hp1 : Heap.SameBut j.it q p1 := hp1
        have hU1 : IsTupN p1 TO (front.map (Zi.at_ i) ++ xs.drop front.length) := hp1.extBut _ _ (S.Ti mj) M.out
        have ax : x1 = j.at_ i := by unfold Zi.at_; rw [hx1]; rfl
        subst ax
        refine wpAny_bind (wpAny_seqItems (s := ⟨p1, g, d, tk1, os⟩) hU1 rfl ?_)
        refine wpAny_bind (updateSeq_IsTupN (s := ⟨p1, g, d, tk1, os⟩) hU1 (midlen hl few M) fun g1 hT1 hs1 => ?_)
        refine wpAny_bind (wpAny_letGo (wpAny_pure ?_))
        exact ⟨rfl, front ++ [j], back, g1, tk1, by simp, rfl, mid_step S D hl M sn1 hp1 hT1 hs1⟩
    · rintro r s' ⟨hr, front, back, q, tk, e, rfl, M⟩
      cases back with
      | cons j back => simp at e
      | nil =>
        have eL : front = L := by have := M.eq; simpa using this.symm
        subst eL
        obtain ⟨r1, r2⟩ := r
        simp only at hr
        subst hr
        have hT2 : IsTupN q TO (front.map (Zi.at_ i)) := by have := M.out; rw [List.drop_of_length_le (by omega), List.append_nil] at this; exact this
        show wpAny _ _ (seqItems? (.ref TO) >>= _) _ _ _
        refine wpAny_bind (wpAny_seqItems (s := ⟨q, g, d, tk, os⟩) hT2 rfl ?_)
        refine wpAny_bind (wpAny_newTuple ?_ (by simpa using few))
        have hzlt : z < q.objs.size := Heap.lt_size M.zip
        simp only [List.toList_toArray]
        show wpAny _ _ (Builtin.SmallTypes.ownedTupleHandOut (.ref z) (.ref q.objs.size) >>= _) _ _ ⟨q.push { cls := .type "tuple", data := .seq (front.map (Zi.at_ i)).toArray }, g, d, tk, os⟩
        refine wpAny_bind ?_
        unfold Builtin.SmallTypes.ownedTupleHandOut
        have hz₆ : IsZipG (q.push { cls := .type "tuple", data := .seq (front.map (Zi.at_ i)).toArray }) z TI TO .ellipsis f1 := Heap.get?_push_of_some _ M.zip
        refine wpAny_bind (wpAny_setField_rec hz₆ (by simp) fun h₇ hz₇ hs₇ => ?_)
        replace hz₇ : IsZipG h₇ z TI TO (rawInt (q.objs.size : Int)) f1 := hz₇
        refine wpAny_setField_rec hz₇ (by simp) fun h₈ hz₈ hs₈ => ?_
        replace hz₈ : IsZipG h₈ z TI TO (rawInt (q.objs.size : Int)) false := hz₈
        replace hs₇ : Heap.SameBut z (q.push { cls := .type "tuple", data := .seq (front.map (Zi.at_ i)).toArray }) h₇ := hs₇
        replace hs₈ : Heap.SameBut z h₇ h₈ := hs₈
        have up : ∀ c o, c ≠ z → q.get? c = some o → h₈.get? c = some o := fun c o c1 e => hs₈.extBut _ _ c1 (hs₇.extBut _ _ c1 (Heap.get?_push_of_some _ e))
        have hT₈ : IsTupN h₈ q.objs.size (front.map (Zi.at_ i)) := hs₈.extBut _ _ (Nat.ne_of_gt hzlt) (hs₇.extBut _ _ (Nat.ne_of_gt hzlt) (Heap.get?_push_size _ rfl))
        have hz8 : h₈.objs.size = q.objs.size + 1 := by rw [hs₈.1, hs₇.1, Heap.size_push]
        have hsz := M.size
        rw [hsz] at hz₈ hT₈ hz8
        refine wpAny_pure ⟨_, rfl, ?_⟩
        show Q (.ref q.objs.size) ⟨h₈, g, d, tk, os⟩
        rw [hsz]
        exact hQ h₈ tk _ _ _ hz₈ (up _ _ S.TOz hT2) (by simp) (fun j hj => (D j hj).frame _ _ _ (M.fr j hj) fun b hb o e => up b o (fun e2 => S.zf j hj (e2 ▸ hb)) e) hT₈ hz8 fun c o cz cT cL e => up c o cz (M.keep c o cz cT cL e)
  · simp only [Bool.false_eq_true, if_false]
    replace hs₁ : Heap.SameBut z hp h₁ := hs₁
    refine wpAny_bind ?_
    rw [← Array.forIn_toList]
    have M0 : Mid2 hp h₁ z TI TO T L [] L i :=
      ⟨rfl, hz₁, fun j hj => by simp at hj, fun j hj => (D j hj).over (st j hj) hs₁ (S.zf j hj), hs₁.1, fun c o cz cL e => hs₁.extBut _ _ cz e⟩
    refine wpAny_forIn_list _ (fun rest r s' => r.1 = none ∧ ∃ (front back : List Zi) (q : Heap) (tk : Tok), rest = (back.map fun j => Value.ref j.it) ∧ s' = ⟨q, g, d, tk, os⟩ ∧ r.2.toList = front.map (Zi.at_ i) ∧ Mid2 hp q z TI TO T L front back i) _ ?_ ?_ _ _ ⟨rfl, [], L, h₁, tk0, by simp, rfl, rfl, M0⟩
    · rintro x rest ⟨r1, r2⟩ s' ⟨hr, front, back, q, tk, e, rfl, er, M⟩
      simp only at hr
      subst hr
      cases back with
      | nil => simp at e
      | cons j back =>
        rw [List.map_cons] at e
        injection e with e1 e2
        subst e1 e2
        have mj : j ∈ L := by rw [M.eq]; simp
        refine wpAny_bind (wpAny_holding ?_)
        show wpAny _ _ (Builtin.SmallTypes.nextOf (.ref j.it) >>= _) _ _ ⟨q, g, d, tk, os⟩
        refine wpAny_bind ((D j mj).item i _ _ _ (hlt j mj) (M.ba j (by simp)) fun x1 p1 tk1 hx1 sn1 hp1 => wpAny_pure ?_)
        replace hp1 : Heap.SameBut j.it q p1 := hp1
        have ax : x1 = j.at_ i := by unfold Zi.at_; rw [hx1]; rfl
        subst ax
        refine wpAny_pure ?_
        exact ⟨rfl, front ++ [j], back, p1, tk1, rfl, rfl, by simp at er ⊢; exact er, mid2_step S D M sn1 hp1⟩
    · rintro ⟨r1, r2⟩ s' ⟨hr, front, back, q, tk, e, rfl, er, M⟩
      simp only at hr
      subst hr
      cases back with
      | cons j back => simp at e
      | nil =>
        have eL : front = L := by have := M.eq; simpa using this.symm
        subst eL
        show wpAny _ _ (newTuple r2.toList >>= _) _ _ _
        simp only at er
        rw [er]
        refine wpAny_bind (wpAny_newTuple ?_ (by simpa using few))
        refine wpAny_pure ⟨_, rfl, ?_⟩
        have hsz := M.size
        show Q (.ref q.objs.size) ⟨q.push { cls := .type "tuple", data := .seq (front.map (Zi.at_ i)).toArray }, g, d, tk, os⟩
        have hT₈ : IsTupN (q.push { cls := .type "tuple", data := .seq (front.map (Zi.at_ i)).toArray }) q.objs.size (front.map (Zi.at_ i)) := Heap.get?_push_size _ rfl
        have hz8 : (q.push { cls := .type "tuple", data := .seq (front.map (Zi.at_ i)).toArray }).objs.size = q.objs.size + 1 := Heap.size_push ..
        rw [hsz] at hT₈ hz8 ⊢
        have up : ∀ c o, q.get? c = some o → (q.push { cls := .type "tuple", data := .seq (front.map (Zi.at_ i)).toArray }).get? c = some o := fun c o e => Heap.get?_push_of_some _ e
        refine hQ _ tk T true xs (up _ _ M.zip) (up _ _ (M.keep TO _ S.TOz (fun j hj => S.Ti hj) hTO)) hl (fun j hj => (D j hj).frame _ _ _ (M.fr j hj) fun b hb o e => up b o e) hT₈ hz8 fun c o cz cT cL e => up c o (M.keep c o cz cL e)
theorem zipN_next_end {xs : List Value} {Q : Fin → Shared → Prop} (S : SepN z TI TO L) (D : ∀ j ∈ L, j.D prog w A) {j0 : Zi} {L0 : List Zi} (eL : L = j0 :: L0)
    (hz : IsZipG s.heap z TI TO f0 f1) (hf : Handed f0) (hTI : IsTupN s.heap TI (L.map fun j => .ref j.it)) (hTO : IsTupN s.heap TO xs) (st : ∀ j ∈ L, j.St i s.heap) (hend : i = j0.items.length)
    (hE : ∀ h' tk e, (∀ c o, c ≠ z → c ≠ TO → (∀ j ∈ L, c ≠ j.it) → s.heap.get? c = some o → h'.get? c = some o) → (∃ o, h'.get? e = some o ∧ o.cls = .type "StopIteration") → E (.ref e) { s with heap := h', toks := tk }) :
    wpAny (model prog w) A (Builtin.«zip.__next__» ⟨[.ref z], []⟩) Q E s := by
  obtain ⟨hp, g, d, tk0, os⟩ := s
  have m0 : j0 ∈ L := by rw [eL]; simp
  show wpAny _ _ (field (.ref z) 2 >>= _) _ _ _
  refine wpAny_bind (wpAny_field hz rfl (x := .bool false) rfl ?_)
  show wpAny _ _ (field (.ref z) 3 >>= _) _ _ _
  refine wpAny_bind (wpAny_field hz rfl (x := .ref TI) rfl ?_)
  refine wpAny_bind (wpAny_seqItems hTI rfl ?_)
  have hem : ((L.map fun j => Value.ref j.it).toArray.isEmpty) = false := by rw [eL]; rfl
  simp only [hem]
  show wpAny _ _ (Builtin.SmallTypes.ownedTupleIsFree (.ref z) >>= _) _ _ _
  refine wpAny_bind (wpAny_owned hz hf ?_ fun T h₁ hz₁ hs₁ => ?_)
  · simp only [if_true]
    refine wpAny_bind (wpAny_rule ?_)
    refine wpAny_bind (wpAny_field hz rfl (x := .ref TO) rfl ?_)
    refine wpAny_bind (wpAny_setField_rec hz (by simp) fun g0 hz0 hs0 => ?_)
    replace hz0 : IsZipG g0 z TI TO .ellipsis f1 := hz0
    replace hs0 : Heap.SameBut z hp g0 := hs0
    refine wpAny_bind ?_
    have eT : (L.map fun j => Value.ref j.it).toArray.toList.zipIdx = (Value.ref j0.it, 0) :: (L0.map fun j => Value.ref j.it).zipIdx 1 := by rw [eL]; simp
    rw [eT, List.forIn_cons]
    refine wpAny_bind (wpAny_bind (wpAny_onRaise ?_))
    show wpAny _ _ (Builtin.SmallTypes.nextOf (.ref j0.it) >>= _) _ _ ⟨g0, g, d, tk0, os⟩
    refine wpAny_bind ((D j0 m0).done ⟨g0, g, d, tk0, os⟩ _ _ (by rw [← hend]; exact (D j0 m0).over (st j0 m0) hs0 (S.zf j0 m0)) fun q e hq he => ?_)
    replace hq : Heap.ExtBut j0.it g0 q := hq
    obtain ⟨oe, hoe, hce⟩ := he
    replace hoe : q.get? e = some oe := hoe
    have hzq : IsZipG q z TI TO .ellipsis f1 := hq _ _ (S.zi m0) hz0
    have hez : e ≠ z := fun x => by subst x; rw [hzq] at hoe; cases hoe; simp at hce
    refine wpAny_setField_rec (s := ⟨q, g, d, tk0, os⟩) hzq (by simp) fun q' _ hq' => ?_
    replace hq' : Heap.SameBut z q q' := hq'
    exact hE q' tk0 e (fun c o cz cT cL x => hq'.extBut _ _ cz (hq _ _ (cL j0 m0) (hs0.extBut _ _ cz x))) ⟨oe, hq'.extBut _ _ hez hoe, hce⟩
  · simp only [Bool.false_eq_true, if_false]
    replace hs₁ : Heap.SameBut z hp h₁ := hs₁
    refine wpAny_bind ?_
    have eT : (L.map fun j => Value.ref j.it).toArray.toList = Value.ref j0.it :: (L0.map fun j => Value.ref j.it) := by rw [eL]; simp
    rw [← Array.forIn_toList, eT, List.forIn_cons]
    refine wpAny_bind (wpAny_bind (wpAny_holding ?_))
    show wpAny _ _ (Builtin.SmallTypes.nextOf (.ref j0.it) >>= _) _ _ ⟨h₁, g, d, tk0, os⟩
    refine wpAny_bind ((D j0 m0).done ⟨h₁, g, d, tk0, os⟩ _ _ (by rw [← hend]; exact (D j0 m0).over (st j0 m0) hs₁ (S.zf j0 m0)) fun q e hq he => ?_)
    replace hq : Heap.ExtBut j0.it h₁ q := hq
    exact hE q tk0 e (fun c o cz cT cL x => hq _ _ (cL j0 m0) (hs₁.extBut _ _ cz x)) he
/-- without any -/
theorem zipN_next_none {Q : Fin → Shared → Prop} (hh : A.handled = none) (hz : IsZipG s.heap z TI TO f0 f1) (hTI : IsTupN s.heap TI [])
    (hE : ∀ h' tk e, (∀ c o, s.heap.get? c = some o → h'.get? c = some o) → (∃ o, h'.get? e = some o ∧ o.cls = .type "StopIteration") → E (.ref e) { s with heap := h', toks := tk }) :
    wpAny (model prog w) A (Builtin.«zip.__next__» ⟨[.ref z], []⟩) Q E s := by
  obtain ⟨hp, g, d, tk0, os⟩ := s
  show wpAny _ _ (field (.ref z) 2 >>= _) _ _ _
  refine wpAny_bind (wpAny_field hz rfl (x := .bool false) rfl ?_)
  show wpAny _ _ (field (.ref z) 3 >>= _) _ _ _
  refine wpAny_bind (wpAny_field hz rfl (x := .ref TI) rfl ?_)
  refine wpAny_bind (wpAny_seqItems hTI rfl ?_)
  have hem : (([] : List Value).toArray.isEmpty) = true := rfl
  simp only [hem]
  refine wpAny_bind (wpAny_rule ?_)
  refine wpAny_bind ?_
  unfold Builtin.SmallTypes.stopIteration
  show wpAny _ _ (newExc (.type "StopIteration") [] >>= _) _ _ _
  refine wpAny_bind ?_
  simp only [newExc, newTuple]
  refine wpAny_bind (wpAny_newObj_type ?_ (by size_fits))
  refine wpAny_bind (m := firstArgMember _ _) (wpAny_of_eq (a := Value.none) (by first | rfl | (simp only [firstArgMember]; rfl)) ?_)
  refine wpAny_newObj_type ?_ (by size_fits)
  simp only [raiseNew]
  refine wpAny_bind (wpAny_handled ?_)
  first | rw [show A.in1.handled = none from hh] | rw [hh]
  refine wpAny_bind (wpAny_pure (wpAny_throw ?_))
  exact hE _ _ _ (fun c o e => Heap.get?_push_of_some _ (Heap.get?_push_of_some _ e)) ⟨_, Heap.get?_push_size _ rfl, rfl⟩
theorem pyNext_zipN_item {xs : List Value} {Q : Option Value → Shared → Prop} (S : SepN z TI TO L) (D : ∀ j ∈ L, j.D prog w A.in1) (ne : L ≠ [])
    (hz : IsZipG s.heap z TI TO f0 f1) (hf : Handed f0) (hTI : IsTupN s.heap TI (L.map fun j => .ref j.it)) (hTO : IsTupN s.heap TO xs) (hl : xs.length = L.length) (few : L.length ≤ sizeLine) (st : ∀ j ∈ L, j.St i s.heap) (hlt : ∀ j ∈ L, i < j.items.length)
    (hQ : ∀ h' tk (T : Nat) f' ys, IsZipG h' z TI TO (rawInt (T : Int)) f' → IsTupN h' TO ys → ys.length = L.length → (∀ j ∈ L, j.St (i + 1) h') → IsTupN h' s.heap.objs.size (L.map (Zi.at_ i)) → h'.objs.size = s.heap.objs.size + 1 →
      (∀ c o, c ≠ z → c ≠ TO → (∀ j ∈ L, c ≠ j.it) → s.heap.get? c = some o → h'.get? c = some o) → Q (some (.ref s.heap.objs.size)) { s with heap := h', toks := tk }) :
    wpAny (model prog w) A (pyNext (.ref z)) Q E s := by
  have hT : s.TypeIs (.ref z) "zip" := ⟨_, hz, rfl⟩
  unfold pyNext
  exact wpAny_bind (wpAny_attempt (wpAny_callSpecial?_slot (name := Str.ofString "__next__") hT F.slot_zip_next
    (wpAny_call_entry F.slot_zip_next hT F.entry_zip_next
      (zipN_next_item S D ne hz hf hTI hTO hl few st hlt fun h' tk T f' ys b1 b2 b3 d1 b5 b6 b7 => wpAny_pure (hQ h' tk T f' ys b1 b2 b3 d1 b5 b6 b7)) (F.args_zip_next_1 _))))
theorem pyNext_zipN_end {xs : List Value} {Q : Option Value → Shared → Prop} (hh : A.in1.handled = none) (S : SepN z TI TO L) (D : ∀ j ∈ L, j.D prog w A.in1)
    (hz : IsZipG s.heap z TI TO f0 f1) (hf : Handed f0) (hTI : IsTupN s.heap TI (L.map fun j => .ref j.it)) (hTO : IsTupN s.heap TO xs) (st : ∀ j ∈ L, j.St i s.heap) (hend : ∀ j ∈ L, i = j.items.length)
    (hQ : ∀ h' tk, (∀ c o, c ≠ z → c ≠ TO → (∀ j ∈ L, c ≠ j.it) → s.heap.get? c = some o → h'.get? c = some o) → Q none { s with heap := h', toks := tk }) : wpAny (model prog w) A (pyNext (.ref z)) Q E s := by
  have hT : s.TypeIs (.ref z) "zip" := ⟨_, hz, rfl⟩
  unfold pyNext
  have go : ∀ {Q1 : Fin → Shared → Prop} {E1 : Value → Shared → Prop}, (∀ h' tk e, (∀ c o, c ≠ z → c ≠ TO → (∀ j ∈ L, c ≠ j.it) → s.heap.get? c = some o → h'.get? c = some o) → (∃ o, h'.get? e = some o ∧ o.cls = .type "StopIteration") → E1 (.ref e) { s with heap := h', toks := tk }) →
      wpAny (model prog w) A.in1 (Builtin.«zip.__next__» ⟨[.ref z], []⟩) Q1 E1 s := fun {Q1 E1} hE => by
    cases hL : L with
    | nil =>
      rw [hL] at hTI
      exact zipN_next_none hh hz hTI fun h' tk e k he => hE h' tk e (fun c o _ _ _ x => k c o x) he
    | cons j0 L0 => exact zipN_next_end S D hL hz hf hTI hTO st (hend j0 (by rw [hL]; simp)) hE
  refine wpAny_bind (wpAny_attempt (wpAny_callSpecial?_slot (name := Str.ofString "__next__") hT F.slot_zip_next
    (wpAny_call_entry F.slot_zip_next hT F.entry_zip_next (go fun h' tk e hk he => ?_) (F.args_zip_next_1 _))))
  obtain ⟨o, ho, hc⟩ := he
  refine wpAny_bind (wpAny_isInstance (T := "StopIteration") (b := true) ⟨o, ho, hc⟩ isSubtype_stop ?_)
  exact wpAny_pure (hQ _ _ hk)
end
/-! ### zip(*vs) begins -/
theorem F.typeCall_zip_N (l : List Value) : checkTypeCall "zip" ⟨l, []⟩ = pure () := by kernel_rfl
theorem F.newCall_zip_N : ∀ (l : List Value), l.length ≤ 12 → checkBuiltinCall "zip.__new__" ⟨.type "zip" :: l, []⟩ = pure ()
  | [], _ => by kernel_rfl
  | [a0], _ => by kernel_rfl
  | [a0, a1], _ => by kernel_rfl
  | [a0, a1, a2], _ => by kernel_rfl
  | [a0, a1, a2, a3], _ => by kernel_rfl
  | [a0, a1, a2, a3, a4], _ => by kernel_rfl
  | [a0, a1, a2, a3, a4, a5], _ => by kernel_rfl
  | [a0, a1, a2, a3, a4, a5, a6], _ => by kernel_rfl
  | [a0, a1, a2, a3, a4, a5, a6, a7], _ => by kernel_rfl
  | [a0, a1, a2, a3, a4, a5, a6, a7, a8], _ => by kernel_rfl
  | [a0, a1, a2, a3, a4, a5, a6, a7, a8, a9], _ => by kernel_rfl
  | [a0, a1, a2, a3, a4, a5, a6, a7, a8, a9, a10], _ => by kernel_rfl
  | [a0, a1, a2, a3, a4, a5, a6, a7, a8, a9, a10, a11], _ => by kernel_rfl
  | _ :: _ :: _ :: _ :: _ :: _ :: _ :: _ :: _ :: _ :: _ :: _ :: _ :: _, h => by simp only [List.length_cons] at h; omega
theorem F.args_object_init_N (obj : Value) (l : List Value) : argsOk "object.__init__" ⟨obj :: l, []⟩ := by unfold argsOk; kernel_rfl
end ZpX

namespace ZpX
open PySem PySem.Spec PyProof.Rows L2 ZmX
/-! ## for x in zip(*ls): each of ls a list or a tuple -/
def SqN (K : PySem.W.Frag) (H : Hp) : List (Bool × Nat) → List (List V) → Prop
  | [], [] => True
  | p :: ls, xs :: xss => SqB p.1 K H p.2 xs ∧ SqN K H ls xss
  | _, _ => False
def SeN (h : Heap) : List (Bool × Nat) → List (List Value) → Prop
  | [], [] => True
  | p :: ls, vs :: vss => SeB p.1 h p.2 vs.toArray ∧ SeN h ls vss
  | _, _ => False
def ValsN : List (List V) → List (List Value) → Prop
  | [], [] => True
  | xs :: xss, vs :: vss => Vals xs vs ∧ ValsN xss vss
  | _, _ => False
def ItN (h : Heap) (i : Nat) : Nat → List (Bool × Nat) → Prop
  | _, [] => True
  | n, p :: ls => ItB p.1 h n p.2 i ∧ ItN h i (n + 1) ls
def mkL : Nat → List (Bool × Nat) → List (List Value) → List Zi
  | n, p :: ls, vs :: vss => ⟨n, [n, p.2], vs, fun i h => ItB p.1 h n p.2 i ∧ SeB p.1 h p.2 vs.toArray⟩ :: mkL (n + 1) ls vss
  | _, _, _ => []
def colV (i : Nat) (xss : List (List V)) : List V := xss.map fun xs => xs[i]?.getD .non
theorem sqN_s {K : PySem.W.Frag} {H H' : Hp} (e : Same H H') : ∀ {ls : List (Bool × Nat)} {xss : List (List V)}, SqN K H ls xss → SqN K H' ls xss
  | [], [], _ => trivial
  | _ :: _, _ :: _, ⟨h1, h⟩ => ⟨sqB_s e h1, sqN_s e h⟩
  | [], _ :: _, h => h.elim
  | _ :: _, [], h => h.elim
theorem sqN_len {K : PySem.W.Frag} {H : Hp} : ∀ {ls : List (Bool × Nat)} {xss : List (List V)}, SqN K H ls xss → ls.length = xss.length
  | [], [], _ => rfl
  | _ :: _, _ :: _, ⟨_, h⟩ => by rw [List.length_cons, List.length_cons, sqN_len h]
  | [], _ :: _, h => h.elim
  | _ :: _, [], h => h.elim
theorem mk_it {m : Nat} : ∀ {n : Nat} {ls : List (Bool × Nat)} {vss : List (List Value)} {h : Heap}, SeN h ls vss → m ≤ n → (∀ p ∈ ls, p.2 < m) →
    (mkL n ls vss).map (fun j => Value.ref j.it) = (List.range' n ls.length).map Value.ref ∧ (mkL n ls vss).length = ls.length ∧
    (∀ j ∈ mkL n ls vss, n ≤ j.it ∧ j.it < n + ls.length ∧ j.items ∈ vss ∧ ∃ l, j.fp = [j.it, l] ∧ l < m) ∧ (mkL n ls vss).Pairwise (fun j k => j.it ∉ k.fp ∧ k.it ∉ j.fp)
  | n, [], [], _, _, _, _ => ⟨rfl, rfl, fun j hj => by simp [mkL] at hj, List.Pairwise.nil⟩
  | n, p :: ls, vs :: vss, _, ⟨_, hs⟩, hn, hl => by
    obtain ⟨e1, e2, e3, e4⟩ := mk_it (m := m) (n := n + 1) hs (by omega) (fun q hq => hl q (List.mem_cons_of_mem _ hq))
    have h0 := hl p (by simp)
    refine ⟨?_, ?_, ?_, ?_⟩
    · simp only [mkL, List.map_cons, List.length_cons, List.range'_succ, e1]
    · simp only [mkL, List.length_cons, e2]
    · intro j hj
      simp only [mkL, List.mem_cons] at hj
      rcases hj with rfl | hj
      · exact ⟨Nat.le_refl _, by simp, by simp, p.2, rfl, h0⟩
      · obtain ⟨a1, a2, a3, a4⟩ := e3 j hj
        exact ⟨by omega, by simp only [List.length_cons]; omega, List.mem_cons_of_mem _ a3, a4⟩
    · simp only [mkL]
      refine List.pairwise_cons.mpr ⟨fun k hk => ?_, e4⟩
      obtain ⟨a1, a2, a3, l, a4, a5⟩ := e3 k hk
      rw [a4]
      simp
      omega
  | _, [], _ :: _, _, h, _, _ => h.elim
  | _, _ :: _, [], _, h, _, _ => h.elim
theorem mk_D {prog : Program} {w : World} {A : Around} (hh : A.handled = none) {m : Nat} : ∀ {n : Nat} {ls : List (Bool × Nat)} {vss : List (List Value)}, m ≤ n → (∀ p ∈ ls, p.2 < m) → ∀ j ∈ mkL n ls vss, j.D prog w A
  | n, [], _, _, _, j, hj => by simp [mkL] at hj
  | n, _ :: _, [], _, _, j, hj => by simp [mkL] at hj
  | n, p :: ls, vs :: vss, hn, hl, j, hj => by
    simp only [mkL, List.mem_cons] at hj
    rcases hj with rfl | hj
    · have := drawB (prog := prog) (w := w) hh p.1 n p.2 (Nat.ne_of_lt (Nat.lt_of_lt_of_le (hl p (by simp)) hn)) vs.toArray
      show Draws prog w A n [n, p.2] vs.length (fun i v => vs[i]? = some v) _
      simpa using this
    · exact mk_D hh (m := m) (by omega) (fun q hq => hl q (List.mem_cons_of_mem _ hq)) j hj
theorem mk_st {h : Heap} {i : Nat} : ∀ {n : Nat} {ls : List (Bool × Nat)} {vss : List (List Value)}, ItN h i n ls → SeN h ls vss → ∀ j ∈ mkL n ls vss, j.St i h
  | n, [], _, _, _, j, hj => by simp [mkL] at hj
  | n, _ :: _, [], _, _, j, hj => by simp [mkL] at hj
  | n, p :: ls, vs :: vss, ⟨h1, h2⟩, ⟨g1, g2⟩, j, hj => by
    simp only [mkL, List.mem_cons] at hj
    rcases hj with rfl | hj
    · exact ⟨h1, g1⟩
    · exact mk_st h2 g2 j hj
theorem st_mk {h h0 : Heap} {i : Nat} : ∀ {n : Nat} {ls : List (Bool × Nat)} {vss : List (List Value)}, SeN h0 ls vss → (∀ j ∈ mkL n ls vss, j.St i h) → ItN h i n ls
  | n, [], _, _, _ => trivial
  | n, _ :: _, [], g, _ => g.elim
  | n, p :: ls, vs :: vss, ⟨_, g⟩, k => ⟨(show ItB p.1 h n p.2 i ∧ SeB p.1 h p.2 vs.toArray from k ⟨n, [n, p.2], vs, fun i h => ItB p.1 h n p.2 i ∧ SeB p.1 h p.2 vs.toArray⟩ (by simp only [mkL]; exact List.mem_cons_self)).1, st_mk g fun j hj => k j (by simp only [mkL]; exact List.mem_cons_of_mem _ hj)⟩
theorem mk_at {h : Heap} {i : Nat} : ∀ {n : Nat} {ls : List (Bool × Nat)} {vss : List (List Value)}, SeN h ls vss → (mkL n ls vss).map (Zi.at_ i) = vss.map fun vs => vs[i]?.getD .none
  | n, [], [], _ => rfl
  | n, p :: ls, vs :: vss, ⟨_, g⟩ => by simp only [mkL, List.map_cons, mk_at g]; rfl
  | n, [], _ :: _, g => g.elim
  | n, _ :: _, [], g => g.elim
theorem col_vals {i : Nat} : ∀ {xss : List (List V)} {vss : List (List Value)}, ValsN xss vss → (∀ xs ∈ xss, i < xs.length) → Vals (colV i xss) (vss.map fun vs => vs[i]?.getD .none)
  | [], [], _, _ => .nil
  | xs :: xss, vs :: vss, ⟨h1, h⟩, hl => by
    have hi := hl xs (by simp)
    obtain ⟨u, e, r⟩ := h1.get (List.getElem?_eq_getElem hi)
    show Vals ((xs[i]?.getD .non) :: colV i xss) ((vs[i]?.getD .none) :: _)
    rw [e, List.getElem?_eq_getElem hi]
    exact .cons r (col_vals h fun ys hy => hl ys (List.mem_cons_of_mem _ hy))
  | [], _ :: _, h, _ => h.elim
  | _ :: _, [], h, _ => h.elim
theorem valsN_len : ∀ {xss : List (List V)} {vss : List (List Value)}, ValsN xss vss → ∀ vs ∈ vss, ∃ xs ∈ xss, xs.length = vs.length
  | [], [], _, vs, h => by simp at h
  | xs :: xss, us :: vss, ⟨h1, h⟩, vs, hv => by
    rcases List.mem_cons.mp hv with rfl | hv
    · exact ⟨xs, by simp, h1.length⟩
    · obtain ⟨ys, hy, e⟩ := valsN_len h vs hv
      exact ⟨ys, List.mem_cons_of_mem _ hy, e⟩
  | [], _ :: _, h, _, _ => h.elim
  | _ :: _, [], h, _, _ => h.elim
theorem itN_at {h h' : Heap} {i : Nat} : ∀ {n : Nat} {ls : List (Bool × Nat)}, ItN h i n ls → (∀ c, n ≤ c → c < n + ls.length → ∀ o, h.get? c = some o → h'.get? c = some o) → ItN h' i n ls
  | n, [], _, _ => trivial
  | n, p :: ls, ⟨h1, h2⟩, k => ⟨itB_at h1 (k n (Nat.le_refl _) (by simp)), itN_at h2 fun c c1 c2 => k c (by omega) (by simp only [List.length_cons]; omega)⟩
theorem itN_obj {h : Heap} {i : Nat} : ∀ {n : Nat} {ls : List (Bool × Nat)}, ItN h i n ls → ∀ c, n ≤ c → c < n + ls.length → ∃ o, h.get? c = some o ∧ ∀ v, o.data ≠ .cell v
  | n, [], _, c, c1, c2 => by simp at c2; omega
  | n, p :: ls, ⟨h1, h2⟩, c, c1, c2 => by
    by_cases e : c = n
    · rw [e]; exact itB_obj h1
    · exact itN_obj h2 c (by omega) (by simp only [List.length_cons] at c2; omega)
section
variable {X : Cx} {pins : List (Addr × Obj)} {σ : L2.St} {H : Hp} {s : Shared}
theorem seN_of (I : Inv X pins σ H s) : ∀ {ls : List (Bool × Nat)} {xss : List (List V)}, SqN X.K H ls xss → ∃ vss, ValsN xss vss ∧ SeN s.heap ls vss ∧ ∀ p ∈ ls, p.2 < s.heap.objs.size
  | [], [], _ => ⟨[], trivial, trivial, fun p h => by simp at h⟩
  | p :: ls, xs :: xss, ⟨h1, h⟩ => by
    obtain ⟨vs, r, g, lt⟩ := seB_of I h1
    obtain ⟨vss, r2, g2, lt2⟩ := seN_of I h
    refine ⟨vs :: vss, ⟨r, r2⟩, ⟨g, g2⟩, fun q hq => ?_⟩
    rcases List.mem_cons.mp hq with rfl | hq
    · exact lt
    · exact lt2 q hq
  | [], _ :: _, h => h.elim
  | _ :: _, [], h => h.elim
theorem sqN_inj (I : Inv X pins σ H s) : ∀ {ls : List (Bool × Nat)} {xss yss : List (List V)}, SqN X.K H ls xss → SqN X.K H ls yss → xss = yss
  | [], [], [], _, _ => rfl
  | p :: ls, xs :: xss, ys :: yss, ⟨h1, h⟩, ⟨g1, g⟩ => by rw [sqB_inj I h1 g1, sqN_inj I h g]
  | [], _ :: _, _, h, _ => h.elim
  | _ :: _, [], _, h, _ => h.elim
  | [], [], _ :: _, _, h => h.elim
  | _ :: _, _ :: _, [], _, h => h.elim
end
/-- the lists as they stand at each turn, the items in a new tuple -/
def ItzN (K : PySem.W.Frag) (ls : List (Bool × Nat)) : It :=
  ⟨fun i H => ∃ xss, SqN K H ls xss ∧ xss ≠ [] ∧ ∀ xs ∈ xss, i < xs.length,
    fun i H v H' => ∃ T ys, v = .ref T ∧ H T = none ∧ H' = upd H T (.tup ys) ∧ ∀ xss, SqN K H ls xss → ys = colV i xss,
    fun i H => ∃ xss, SqN K H ls xss ∧ ∀ xs ∈ xss, xs.length = i⟩
def StN (n : Nat) (ls : List (Bool × Nat)) (i : Nat) (h : Heap) : Prop :=
  (∃ f0 f1, Handed f0 ∧ IsZipG h (n + ls.length + 2) (n + ls.length) (n + ls.length + 1) f0 f1) ∧ IsTupN h (n + ls.length) ((List.range' n ls.length).map Value.ref) ∧ (∃ xs : List Value, xs.length = ls.length ∧ IsTupN h (n + ls.length + 1) xs) ∧ ItN h i n ls
theorem mem_cells {n k c : Nat} : c ∈ List.range' n (k + 3) ↔ n ≤ c ∧ c < n + k + 3 := by
  rw [List.mem_range'_1]
  omega
theorem off_cells {n k c : Nat} (h : ¬ (n ≤ c ∧ c < n + k + 3)) : c ≠ n + k + 2 ∧ c ≠ n + k + 1 ∧ ∀ j : Nat, n ≤ j → j < n + k → c ≠ j := ⟨by omega, by omega, fun j _ _ => by omega⟩
theorem off_ti {n k : Nat} : n + k ≠ n + k + 2 ∧ n + k ≠ n + k + 1 ∧ ∀ j : Nat, j < n + k → n + k ≠ j := ⟨by omega, by omega, fun j _ => by omega⟩
theorem stN_obj {n i : Nat} {ls : List (Bool × Nat)} {h : Heap} (st : StN n ls i h) : ∀ c ∈ List.range' n (ls.length + 3), ∃ o, h.get? c = some o ∧ ∀ v, o.data ≠ .cell v := by
  obtain ⟨⟨f0, f1, _, hz⟩, hTI, ⟨xs, _, hTO⟩, hi⟩ := st
  intro c hc
  have hc := mem_cells.mp hc
  by_cases e0 : c < n + ls.length
  · exact itN_obj hi c hc.1 e0
  by_cases e1 : c = n + ls.length
  · rw [e1]; exact ⟨_, hTI, fun v q => nomatch q⟩
  by_cases e2 : c = n + ls.length + 1
  · rw [e2]; exact ⟨_, hTO, fun v q => nomatch q⟩
  have e3 : c = n + ls.length + 2 := by omega
  rw [e3]; exact ⟨_, hz, fun v q => nomatch q⟩
theorem sepN_of {n m : Nat} {ls : List (Bool × Nat)} {vss : List (List Value)} {h : Heap} (g : SeN h ls vss) (hm : m ≤ n) (hl : ∀ p ∈ ls, p.2 < m) : SepN (n + ls.length + 2) (n + ls.length) (n + ls.length + 1) (mkL n ls vss) := by
  obtain ⟨_, _, e3, e4⟩ := mk_it g hm hl
  refine ⟨by omega, by omega, by omega, fun j hj => ?_, fun j hj => ?_, fun j hj => ?_, fun j hj => ?_, e4⟩
  all_goals
    obtain ⟨a1, a2, _, l, a4, a5⟩ := e3 j hj
    first
      | (rw [a4]; simp; done)
      | (rw [a4]; simp; omega)
      | omega
theorem turn_zipN {P : Program} {w : World} {K : PySem.W.Frag} {tg : Expr} (htg : ∀ it v, letOwnedTupleGo tg it v = pure ()) {ls : List (Bool × Nat)} {n : Nat} (hl : ∀ p ∈ ls, p.2 < n) (few : ls.length ≤ sizeLine) :
    Turn P w K tg (ItzN K ls) (List.range' n (ls.length + 3)) (n + ls.length + 2) (StN n ls) where
  mem := mem_cells.mpr (by omega)
  obj := fun i h st => stN_obj st
  keep := fun i h h' st k => by
    obtain ⟨⟨f0, f1, hf, hz⟩, hTI, ⟨xs, hx, hTO⟩, hi⟩ := st
    exact ⟨⟨f0, f1, hf, k _ (mem_cells.mpr (by omega)) _ hz⟩, k _ (mem_cells.mpr (by omega)) _ hTI, ⟨xs, hx, k _ (mem_cells.mpr (by omega)) _ hTO⟩, itN_at hi fun c c1 c2 => k c (mem_cells.mpr (by omega))⟩
  item := by
    intro X hP hw hK hc i pins s σ H E I hf st hg
    subst hP hw hK
    have ob := stN_obj st
    obtain ⟨⟨f0, f1, hfo, hz⟩, hTI, ⟨ts, hts, hTO⟩, hi⟩ := st
    obtain ⟨xss, hq, ne, hlt⟩ := hg
    obtain ⟨vss, rv, g, _⟩ := seN_of I hq
    obtain ⟨m1, m2, m3, m4⟩ := mk_it g (Nat.le_refl n) hl
    have S := sepN_of g (Nat.le_refl n) hl
    have lx := sqN_len hq
    have nel : mkL n ls vss ≠ [] := by
      intro e
      rw [e] at m2
      simp at m2
      have : xss.length = 0 := by omega
      exact ne (List.length_eq_zero_iff.mp this)
    refine pyNext_zipN_item S (mk_D (show X.A.in1.handled = none from I.ok.hd hc) (Nat.le_refl n) hl) nel hz hfo (by rw [m1]; exact hTI) hTO (by rw [hts, m2]) (by omega) (mk_st hi g) (fun j hj => ?_) fun h' tk T f' ys z' TO' ly st' hT hsz hk => ?_
    · obtain ⟨_, _, a3, _⟩ := m3 j hj
      obtain ⟨xs, hxs, e⟩ := valsN_len rv _ a3
      rw [← e]
      exact hlt xs hxs
    · refine ⟨_, rfl, ?_⟩
      rw [htg]
      refine wpAny_pure ?_
      rw [mk_at g] at hT
      have rc := col_vals rv hlt
      have lc := rc.length
      have lcv : (colV i xss).length = ls.length := by unfold colV; rw [List.length_map]; omega
      have new : ObjOk X.prog X.w (upd H s.heap.objs.size (.tup (colV i xss))) h' s.heap.objs.size (.tup (colV i xss)) := ⟨by omega, _, rc, ⟨_, hT, rfl, _, rfl⟩⟩
      have I1 : Inv X pins σ (upd H s.heap.objs.size (.tup (colV i xss))) { s with heap := h', toks := tk } :=
        I.turnedNew (t' := tk) (ch := List.range' n (ls.length + 3)) (fun c o hb q => by
          obtain ⟨o1, o2, o3⟩ := off_cells fun z => hb (mem_cells.mpr z)
          exact hk c o o1 o2 (fun j hj => by obtain ⟨a1, a2, _⟩ := m3 j hj; exact o3 _ a1 a2) q) hf (Nat.le_refl _) new
      refine ⟨.ref s.heap.objs.size, _, I1, rfl, ⟨_, _, rfl, I.hok.fresh (Nat.le_refl _), rfl, fun yss hy => by rw [sqN_inj I hy hq]⟩, ⟨⟨_, _, .inr ⟨T, rfl⟩, z'⟩, ?_, ⟨ys, by omega, TO'⟩, ?_⟩, fun c hcm => ?_⟩
      · obtain ⟨o1, o2, o3⟩ := off_ti (n := n) (k := ls.length)
        exact hk _ _ o1 o2 (fun j hj => by obtain ⟨a1, a2, _⟩ := m3 j hj; exact o3 _ a2) hTI
      · exact st_mk g st'
      · obtain ⟨o, ho, _⟩ := ob c hcm
        rw [upd_ne (Nat.ne_of_lt (Heap.lt_size ho))]
        exact (hf c hcm).1
  done := by
    intro X hP hw hK hc i pins s σ H E I hf st hg
    subst hP hw hK
    obtain ⟨⟨f0, f1, hfo, hz⟩, hTI, ⟨ts, hts, hTO⟩, hi⟩ := st
    obtain ⟨xss, hq, hend⟩ := hg
    obtain ⟨vss, rv, g, _⟩ := seN_of I hq
    obtain ⟨m1, m2, m3, m4⟩ := mk_it g (Nat.le_refl n) hl
    have S := sepN_of g (Nat.le_refl n) hl
    refine pyNext_zipN_end (show X.A.in1.handled = none from I.ok.hd hc) S (mk_D (show X.A.in1.handled = none from I.ok.hd hc) (Nat.le_refl n) hl) hz hfo (by rw [m1]; exact hTI) hTO (mk_st hi g) (fun j hj => ?_) fun h' tk hk => ⟨rfl, I.turnedL (t' := tk) (ch := List.range' n (ls.length + 3)) (fun c o hb q => ?_) hf⟩
    · obtain ⟨_, _, a3, _⟩ := m3 j hj
      obtain ⟨xs, hxs, e⟩ := valsN_len rv _ a3
      rw [← e]
      exact (hend xs hxs).symm
    · obtain ⟨o1, o2, o3⟩ := off_cells fun z => hb (mem_cells.mpr z)
      exact hk c o o1 o2 (fun j hj => by obtain ⟨a1, a2, _⟩ := m3 j hj; exact o3 _ a1 a2) q
  self := fun A i s Q E st h => by
    obtain ⟨⟨f0, f1, hfo, hz⟩, _⟩ := st
    have hT : s.TypeIs (.ref (n + ls.length + 2)) "zip" := ⟨_, hz, rfl⟩
    refine wpAny_pyIter_slot hT F.slot_zip_iter (wpAny_call_entry F.slot_zip_iter hT F.entry_zip_iter ?_ (F.args_zip_iter_1 _))
    show wpAny _ _ (ret (.ref (n + ls.length + 2))) _ _ s
    exact wpAny_pure ⟨_, rfl, "zip", _, hT, F.slot_zip_next.lookup, h⟩
end ZpX

namespace ZpX
open PySem PySem.Spec PyProof.Rows L2 ZmX
theorem iter_one {prog : Program} {w : World} {A : Around} {E : Value → Shared → Prop} {s : Shared} {t : Bool} {l : Nat} {vs : Array Value} {Q : Value → Shared → Prop} (g : SeB t s.heap l vs) (h : Q (.ref s.heap.objs.size) { s with heap := s.heap.push (itO t l) }) :
    wpAny (model prog w) A (pyIter (.ref l)) Q E s := by
  cases t
  · exact wpAny_pyIter_list g h
  · exact wpAny_pyIter_tuple g h
theorem seN_push {h : Heap} (o : Obj) : ∀ {ls : List (Bool × Nat)} {vss : List (List Value)}, SeN h ls vss → SeN (h.push o) ls vss
  | [], [], _ => trivial
  | _ :: _, _ :: _, ⟨h1, h2⟩ => ⟨seB_push h1 o, seN_push o h2⟩
  | [], _ :: _, h => h.elim
  | _ :: _, [], h => h.elim
theorem iterAll_N {prog : Program} {w : World} {A : Around} {E : Value → Shared → Prop} {ls : List (Bool × Nat)} {vss : List (List Value)} {s : Shared} {Q : List Value → Shared → Prop} (g : SeN s.heap ls vss)
    (h : ∀ h', h'.objs.size = s.heap.objs.size + ls.length → ItN h' 0 s.heap.objs.size ls → (∀ c o, s.heap.get? c = some o → h'.get? c = some o) → Q ((List.range' s.heap.objs.size ls.length).map Value.ref) { s with heap := h' }) :
    wpAny (model prog w) A (Builtin.SmallTypes.iterAll (ls.map fun p => Value.ref p.2)) Q E s := by
  obtain ⟨hp, g0, d, tk, os⟩ := s
  unfold Builtin.SmallTypes.iterAll
  refine wpAny_bind ?_
  refine wpAny_forIn_list _ (fun rest (r : Array Value) s' => ∃ (front back : List (Bool × Nat)) (vs : List (List Value)) (q : Heap), ls = front ++ back ∧ rest = (back.map fun p => Value.ref p.2) ∧ s' = ⟨q, g0, d, tk, os⟩ ∧ SeN q back vs ∧ r.toList = (List.range' hp.objs.size front.length).map Value.ref ∧
      q.objs.size = hp.objs.size + front.length ∧ ItN q 0 hp.objs.size front ∧ ∀ c o, hp.get? c = some o → q.get? c = some o) _ ?_ ?_ _ _ ⟨[], ls, vss, hp, rfl, rfl, rfl, g, rfl, rfl, trivial, fun _ _ e => e⟩
  · rintro x rest r s' ⟨front, back, vs, q, e0, e, rfl, gv, er, hz, hi, hk⟩
    cases back with
    | nil => simp at e
    | cons p back =>
      rw [List.map_cons] at e
      injection e with e1 e2
      subst e1 e2
      cases vs with
      | nil => exact gv.elim
      | cons v vs =>
        obtain ⟨g1, g2⟩ := gv
        refine wpAny_bind (wpAny_holding (iter_one (s := ⟨q, g0, d, tk, os⟩) g1 (wpAny_pure ?_)))
        have hz2 : (q.push (itO p.1 p.2)).objs.size = q.objs.size + 1 := Heap.size_push ..
        refine ⟨front ++ [p], back, vs, q.push (itO p.1 p.2), by rw [e0]; simp, rfl, rfl, seN_push _ g2, ?_, by rw [hz2, hz, List.length_append]; rfl, ?_, fun c o e => Heap.get?_push_of_some _ (hk c o e)⟩
        · rw [Array.toList_push, er, List.length_append, List.length_singleton, List.range'_concat, List.map_append, hz]
          simp
        · have h1 : ItN (q.push (itO p.1 p.2)) 0 hp.objs.size front := itN_at hi fun c _ _ o e => Heap.get?_push_of_some _ e
          have h2 : ItB p.1 (q.push (itO p.1 p.2)) (hp.objs.size + front.length) p.2 0 := by
            rw [← hz]
            exact itO_is (Heap.get?_push_size _ itO_fr)
          clear hi e0 er hz hk g1 g2 hz2
          revert h1 h2
          generalize hp.objs.size = n
          intro h1 h2
          induction front generalizing n with
          | nil => exact ⟨h2, trivial⟩
          | cons y ys ih => exact ⟨h1.1, ih (n + 1) h1.2 (by have e : n + 1 + ys.length = n + (y :: ys).length := by simp only [List.length_cons]; omega
                                                             rw [e]; exact h2)⟩
  · rintro r s' ⟨front, back, vs, q, e0, e, rfl, gv, er, hz, hi, hk⟩
    cases back with
    | cons p back => simp at e
    | nil =>
      have eL : front = ls := by simpa using e0.symm
      subst eL
      refine wpAny_pure ?_
      rw [er]
      exact h q hz hi hk
theorem call_zipN {prog : Program} {w : World} {A : Around} {E : Value → Shared → Prop} {ls : List (Bool × Nat)} {vss : List (List Value)} {s : Shared} {Q : Value → Shared → Prop} (g : SeN s.heap ls vss) (few : ls.length ≤ 12)
    (h : ∀ h', StN s.heap.objs.size ls 0 h' → (∀ c o, s.heap.get? c = some o → h'.get? c = some o) → Q (.ref (s.heap.objs.size + ls.length + 2)) { s with heap := h' }) :
    wpAny (model prog w) A (call (.type "zip") (ls.map fun p => Value.ref p.2)) Q E s := by
  have M : Meets (Builtin.«zip.__new__» ⟨.type "zip" :: ls.map fun p => Value.ref p.2, []⟩) (fun _ R s => SeN s.heap ls vss ∧ ∀ h', StN s.heap.objs.size ls 0 h' → (∀ c o, s.heap.get? c = some o → h'.get? c = some o) → R (.ok (.ret (.ref (s.heap.objs.size + ls.length + 2)))) { s with heap := h' }) :=
    .of_wp fun prog w A R s h => by
      obtain ⟨hp, g, d, tk, os⟩ := s
      obtain ⟨hg, h⟩ := h
      have hsub := sub_zip
      have q1 : ∀ {A' : Around} {E : Value → Shared → Prop} {Q : List Value → Shared → Prop}, (∀ h', h'.objs.size = hp.objs.size + ls.length → ItN h' 0 hp.objs.size ls → (∀ c o, hp.get? c = some o → h'.get? c = some o) → Q ((List.range' hp.objs.size ls.length).map Value.ref) ⟨h', g, d, tk, os⟩) →
          wpAny (model prog w) A' (Builtin.SmallTypes.iterAll (ls.map fun p => Value.ref p.2)) Q E ⟨hp, g, d, tk, os⟩ := fun q => iterAll_N (s := ⟨hp, g, d, tk, os⟩) hg q
      wp_walk using q1
      intro h1 hz hi hk
      have fl : ls.length ≤ sizeLine := Nat.le_trans few (by decide)
      refine wpAny_bind (wpAny_newTuple ?_ (by simpa using fl))
      refine wpAny_bind (wpAny_newTuple ?_ (by simpa using fl))
      wp_walk
      refine ⟨_, rfl, ?_⟩
      let a : Obj := { cls := .type "tuple", data := .seq ((List.range' hp.objs.size ls.length).map Value.ref).toArray }
      let b : Obj := { cls := .type "tuple", data := .seq (((List.range' hp.objs.size ls.length).map Value.ref).map fun _ => Value.none).toArray }
      let zz : Obj := { cls := .type "zip", data := .fields #[.none, .bool false, .bool false, .ref h1.objs.size, .ref (h1.push a).objs.size] }
      have z1 : (h1.push a).objs.size = hp.objs.size + ls.length + 1 := by rw [Heap.size_push, hz]
      have z2 : ((h1.push a).push b).objs.size = hp.objs.size + ls.length + 2 := by rw [Heap.size_push, z1]
      show R (.ok (.ret (.ref ((h1.push a).push b).objs.size))) ⟨((h1.push a).push b).push zz, g, d, tk, os⟩
      rw [z2]
      have up : ∀ c o, h1.get? c = some o → (((h1.push a).push b).push zz).get? c = some o := fun c o e => Heap.get?_push_of_some _ (Heap.get?_push_of_some _ (Heap.get?_push_of_some _ e))
      have ga : (((h1.push a).push b).push zz).get? h1.objs.size = some a := Heap.get?_push_of_some _ (Heap.get?_push_of_some _ (Heap.get?_push_size _ rfl))
      have gb : (((h1.push a).push b).push zz).get? (h1.push a).objs.size = some b := Heap.get?_push_of_some _ (Heap.get?_push_size _ rfl)
      have gz : (((h1.push a).push b).push zz).get? ((h1.push a).push b).objs.size = some zz := Heap.get?_push_size _ rfl
      have ez : zz = { cls := .type "zip", data := .fields #[.none, .bool false, .bool false, .ref (hp.objs.size + ls.length), .ref (hp.objs.size + ls.length + 1)] } := by
        show ({ cls := _, data := Data.fields #[.none, .bool false, .bool false, .ref h1.objs.size, .ref (h1.push a).objs.size] } : Obj) = _
        rw [z1, hz]
      rw [hz] at ga
      rw [z1] at gb
      rw [z2] at gz
      replace gz := gz.trans (congrArg some ez)
      refine h _ ⟨⟨.none, false, .inl rfl, gz⟩, ga, ⟨_, ?_, gb⟩, itN_at hi fun c _ _ o e => up c o e⟩ fun c o e => up c o (hk c o e)
      simp
  refine callType_new F.called_zip (by decide) (F.typeCall_zip_N _) (F.newCall_zip_N _ (by simpa using few)) (fun obj => F.args_object_init_N obj _) F.entry_zip_new M ⟨g, fun h' st hk => ?_⟩
  obtain ⟨⟨f0, f1, _, hz⟩, _⟩ := id st
  exact ⟨⟨_, hz, rfl⟩, h h' st hk⟩
theorem vals_refs : ∀ {ls : List (Bool × Nat)} {us : List Value}, Vals (ls.map fun p => V.ref p.2) us → us = ls.map fun p => Value.ref p.2
  | [], _, h => by cases h; rfl
  | p :: ls, _, h => by
    cases h with
    | cons r1 r2 =>
      have e : _ = Value.ref p.2 := r1
      rw [e, vals_refs r2]
      rfl
/-- zip(*e), e a list or tuple of lists and tuples -/
def iZipN (K : PySem.W.Frag) (te : L2.TE) : TI := fun σ H R => te σ H fun v H1 => ∃ (a : Addr) (ls : List (Bool × Nat)) (xss : List (List V)), v = .ref a ∧ (SqT K H1 a (ls.map fun p => V.ref p.2) ∨ SqL K H1 a (ls.map fun p => V.ref p.2)) ∧ SqN K H1 ls xss ∧ ls.length ≤ 12 ∧ R (ItzN K ls) H1
theorem callWith_typeS {M : Model} {A : Around} {E : Value → Shared → Prop} {s : Shared} {env : Env} {T : String} {e : Expr} {p pos : Pos} {Q : Value → Shared → Prop} (h : wpAny M A (eval e env) (fun v s₁ => PySem.W.StarOf M A E v (fun vs s₂ => wpAny M A (call (.type T) vs) Q E s₂) s₁) E s)
    (he : starEach [.Starred e p] env = [(true, eval e env)] := by rfl) : wpAny M A (callWith pos (.type T) [] (backTo pos (starEach [.Starred e p] env)) []) Q E s := by
  rw [he]
  show wpAny M A (callWith pos (.type T) [] [(true, (do let v ← eval e env; standAt pos; pure v))] []) Q E s
  unfold callWith
  refine wpAny_bind (wpAny_holding (wpAny_mono (PySem.W.ks_lone (Q := fun a s₁ => wpAny M A (call (.type T) a.pos a.kw) Q E s₁) h) (fun a s₁ h₁ => wpAny_bind (wpAny_standAt ?_)) fun _ _ x => x))
  refine wpAny_bind (wpAny_pure ?_)
  show wpAny M A (operate _ (call (.type T) ([] ++ a.pos) a.kw) >>= _) Q E s₁
  exact wpAny_bind (wpAny_mono (PySem.wpAny_operating h₁) (fun r s₂ hr => wpAny_bind (wpAny_holding (wpAny_point (wpAny_pure hr)))) fun _ _ x => x)
theorem pi_zipN {X : Cx} {tg e : Expr} {te : L2.TE} {p pos sp : Pos} (htg : ∀ it v, letOwnedTupleGo tg it v = pure ()) (hg : Gl X "zip") (hm : X.mg "zip" = none) (ha : PE X e te)
    (hs : starEach [.Starred e sp] X.env = [(true, eval e X.env)] := by rfl) :
    PI X tg (.Call (.Name "zip" p) [.Starred e sp] [] pos) (iZipN X.K te) := by
  refine ⟨fun pins s σ H R I h => ?_⟩
  refine Call_ (ld_blt I hg hm PyProof.Rows.boot_zip (callWith_typeS (thn (ha.run pins s σ H _ I h) fun v s1 ⟨y, H1, I1, r1, q1⟩ => ?_) hs))
  obtain ⟨a, ls, xss, ex, hA, hq, few, q⟩ := q1
  subst ex
  obtain rfl : v = Value.ref a := r1
  refine StX.star_any I1 hA fun us s2 I2 rv => ?_
  rw [vals_refs rv]
  obtain ⟨vss, _, g, lt⟩ := seN_of I2 hq
  refine call_zipN g few fun h' st hk => ?_
  obtain ⟨⟨f0, f1, hfo, hz⟩, _⟩ := id st
  have I3 : Inv X pins σ H1 { s2 with heap := h' } := I2.kept (t' := s2.toks) hk
  have T := turn_zipN (P := X.prog) (w := X.w) (K := X.K) htg lt (Nat.le_trans few (by decide))
  refine T.self _ _ _ _ _ st ?_
  exact ⟨_, _, _, _, H1, rfl, I3, T, st, fun c hcm => I2.fpOk (mem_cells.mp hcm).1 (I2.hok.fresh (mem_cells.mp hcm).1), q⟩
theorem walk_zipN {K : PySem.W.Frag} {ls : List (Bool × Nat)} {xss : List (List V)} {n : Nat} (ne : xss ≠ [] ∨ n = 0) (hl : ∀ xs ∈ xss, xs.length = n) : Walk (ItzN K ls) n (fun H => SqN K H ls xss) (fun i H x H' => ∃ T, x = .ref T ∧ H T = none ∧ H' = upd H T (.tup (colV i xss))) := by
  refine ⟨fun i H hi h => ⟨xss, h, by rcases ne with h | h; exact h; omega, fun xs hx => by rw [hl xs hx]; exact hi⟩, fun H h => ⟨xss, h, hl⟩, fun i H x H' hi h y => ?_⟩
  obtain ⟨T, ys, e1, e2, e3, e4⟩ := y
  exact ⟨T, e1, e2, by rw [e3, e4 _ h]⟩
/-- the walk along zip of lists of one length, in a comprehension -/
theorem lc_zipN {K : PySem.W.Frag} {ls : List (Bool × Nat)} {xss : List (List V)} {n : Nat} {H0 : Hp} {g : TG} {tt : TT} {te : L2.TE} {vs : List Nat} {σ : L2.St} {H1 : Hp} {D : Addr} {Qd : Hp → Prop} (ne : xss ≠ [] ∨ n = 0) (hl : ∀ xs ∈ xss, xs.length = n) (h1 : SqN K H0 ls xss)
    (Pv : Nat → Hp → Prop) (h0 : Pv 0 (upd H1 D (.lst []))) (hk : ∀ i H, i ≤ n → Pv i H → Same H0 H)
    (hs : ∀ i T H, i < n → Pv i H → H T = none → g (.ref T) (wipe σ vs) (upd H T (.tup (colV i xss))) fun σ2 H2 => wipe σ2 vs = wipe σ vs ∧ tt σ2 H2 fun b H3 =>
      if b = true then te σ2 H3 fun y H4 => ∃ acc, H4 D = some (.lst acc) ∧ acc.length < sizeLine ∧ Pv (i + 1) (upd H4 D (.lst (acc ++ [y]))) else Pv (i + 1) H3)
    (hd : ∀ H, Pv n H → Qd H) :
    ∃ W : Nat → Nat → Hp → Prop, (∃ m, W 0 m (upd H1 D (.lst []))) ∧ ∀ i m H, W i m H →
      ((ItzN K ls).stop i H ∧ Qd H) ∨ ((ItzN K ls).go i H ∧ ∃ Nx : Hp → Prop, (∀ H', Nx H' → ∃ m', m' < m ∧ W (i + 1) m' H') ∧ ∀ x H', (ItzN K ls).yld i H x H' → g x (wipe σ vs) H' fun σ2 H2 => wipe σ2 vs = wipe σ vs ∧ tt σ2 H2 fun b H3 =>
        if b = true then te σ2 H3 fun y H4 => ∃ acc, H4 D = some (.lst acc) ∧ acc.length < sizeLine ∧ Nx (upd H4 D (.lst (acc ++ [y]))) else Nx H3) := by
  refine lc_it (walk_zipN (K := K) (ls := ls) ne hl) Pv h0 (fun i H hi p => sqN_s (hk i H hi p) h1) (fun i v H H' hi p y => ?_) hd
  obtain ⟨T, rfl, hT, rfl⟩ := y
  exact hs i T H hi p hT
end ZpX

namespace Tk
open PySem PySem.Spec PyProof.Rows L2 ClX
/-- rows as lists read for zip -/
theorem rt_refs {L C : Addr} {K : PySem.W.Frag} {H : Hp} : ∀ {xs : List V} {qss : List (List (Int × Int))}, RtRows L C H xs qss → ∃ (ls : List (Bool × Nat)) (xss : List (List V)), xs = ls.map (fun p => V.ref p.2) ∧ ZpX.SqN K H ls xss ∧ ls.length = qss.length ∧ xss.length = qss.length ∧
    ∀ (i : Nat) (ys : List V), xss[i]? = some ys → ∃ qs, qss[i]? = some qs ∧ RatsP C H ys qs
  | [], [], _ => ⟨[], [], rfl, trivial, rfl, rfl, fun i ys h => by simp at h⟩
  | x :: xs, qs :: qss, ⟨⟨a, ys, h1, _, h3, h4⟩, h⟩ => by
    obtain ⟨ls, xss, e1, e2, e3, e4, e5⟩ := rt_refs (K := K) h
    refine ⟨(false, a) :: ls, ys :: xss, by rw [h1, e1]; rfl, ⟨sl_of h3, e2⟩, by simp [e3], by simp [e4], fun i zs hz => ?_⟩
    cases i with
    | zero =>
      simp at hz
      subst hz
      exact ⟨qs, rfl, h4⟩
    | succ i => exact e5 i zs (by simpa using hz)
  | [], _ :: _, h => h.elim
  | _ :: _, [], h => h.elim
theorem ratsP_of {C : Addr} {H : Hp} : ∀ {xs : List V} {qs : List (Int × Int)}, xs.length = qs.length → (∀ (i : Nat) (x : V) (q : Int × Int), xs[i]? = some x → qs[i]? = some q → ∃ p, x = .ref p ∧ RatAt C H p q) → RatsP C H xs qs
  | [], [], _, _ => trivial
  | x :: xs, q :: qs, hl, h => ⟨h 0 x q rfl rfl, ratsP_of (by simpa using hl) fun i y z hy hz => h (i + 1) y z (by simpa using hy) (by simpa using hz)⟩
  | [], _ :: _, hl, _ => by simp at hl
  | _ :: _, [], hl, _ => by simp at hl
theorem col_at {i k : Nat} {xss : List (List V)} {x : V} (h : (ZpX.colV i xss)[k]? = some x) : ∃ ys, xss[k]? = some ys ∧ x = ys[i]?.getD .non := by
  unfold ZpX.colV at h
  rw [List.getElem?_map] at h
  cases e : xss[k]? with
  | none => rw [e] at h; cases h
  | some ys =>
    rw [e] at h
    cases h
    exact ⟨ys, rfl, rfl⟩
section
variable {P : Program} {w : World} {K : PySem.W.Frag} {mg : Str → Option Value} {base : Heap}
abbrev nAboutT : List Str := ["table", "rows", "column"]
theorem sc_aboutT : FnScope nAboutT ["table"] (defScope sAboutT) := ⟨rfl, rfl, rfl, by decide +kernel, rfl, by decide +kernel, by decide +kernel⟩
def listOfR (K : PySem.W.Frag) : List V → Hp → VK → Prop := fun xs H Q => ∃ p ys, xs = [V.ref p] ∧ (SqL K H p ys ∨ SqT K H p ys) ∧ ∀ l, H l = none → Q (.ref l) (upd H l (.lst ys))
theorem ok_aboutT {f f1 f2 C : Addr} {fd fd1 fd2 : FuncData} (F : Fun K "about" "about" sAboutT f fd) (D1 : Df K mg "check_table" sChkTab ["table"] f1 fd1) (G1 : FnOk P w K mg base CX0 5 f1 fd1 ["table"] (spChkTab K C)) (D2 : Df K mg "told" sTold0 ["rows"] f2 fd2) (G2 : FnOk P w K mg base CX0 5 f2 fd2 ["rows"] (spToldQ K C)) (B : Bl mg) :
    FnOk P w K mg base CX0 7 f fd ["table"] (spAboutT K C) := by
  refine F.ok sc_aboutT (fun vs H Q E h => ?_) (fun cdv A outer s H vs Q E hr h => ?_)
  · obtain ⟨v, n, qss, rfl, _⟩ := h
    rfl
  · obtain ⟨v, n, qss, rfl, h1, q⟩ := h
    have hr5 : Room 5 _ := hr.mono (by decide)
    refine ⟨_, pss_cons (ps_expr (pe_call G1 hr5 rfl D1.g D1.F.kp D1.b .nil pass0 (pa_cons (pv 0) pa_nil)))
      (pss_cons (ps_set (i := 1) sc_aboutT.nd rfl (Or.inl rfl) (pe_call G2 hr5 rfl D2.g D2.F.kp D2.b .nil pass0 (pa_cons (pv 0) pa_nil)))
      (pss_one (ps_ret (pe_lc (own := [("column", 2)]) (g := gName 2) (tt := tYes) (te := tCB (listOfR K) (tCons (tVar 2) tNil)) rfl sc_aboutT.nd (ZpX.pi_zipN (fun _ _ => rfl) (by rfl) B.zip (pv 1)) (blkOk_by (N := nAboutT) (sc := defScope sAboutT) (by decide +kernel))
        (fun _ _ _ _ _ => pg_name (i := 2) sc_aboutT.nd rfl (Or.inl rfl)) (fun _ _ _ _ _ => pts_nil)
        (fun _ _ _ _ _ => pe_callTy call_list_of (by rfl) B.list PyProof.Rows.boot_list (pa_cons (pv 2) pa_nil)))))), ?_⟩
    refine ⟨_, rfl, v, n, qss, rfl, h1, fun H1 s1 => ?_⟩
    refine ⟨_, rfl, v, n, qss, rfl, tab_s h1 s1, fun H2 r s2 _ hT _ => ?_⟩
    obtain ⟨n6, l1, lr, _⟩ := h1
    obtain ⟨xs, hx0, hR⟩ := hT
    obtain ⟨ls, xss, ex, hq, e1, e2, e3⟩ := rt_refs (K := K) hR
    rw [ex] at hx0
    refine ⟨_, rfl, r, ls, xss, rfl, .inr (sl_of hx0), hq, by omega, fun D hD => ?_⟩
    have wide : ∀ ys ∈ xss, ys.length = n := fun ys hy => by
      obtain ⟨i, hi⟩ := List.getElem?_of_mem hy
      obtain ⟨qs, hqs, hP⟩ := e3 i ys hi
      rw [(rats_at hP).1]
      exact lr qs (List.mem_of_getElem? hqs)
    have lc : (colsQ n qss).length = n := by unfold colsQ; simp
    refine ZpX.lc_zipN (n := n) (H0 := H2) (by rcases Nat.eq_zero_or_pos n with z | z; exact .inr z; exact .inl (fun e => by rw [e] at e2; simp at e2; omega)) wide hq
      (fun k G => Same H2 G ∧ ∃ acc, G D = some (.lst acc) ∧ RtRows D C G acc ((colsQ n qss).take k) ∧ NewL H2 acc) ⟨same_new hD, [], upd_same, by simp [RtRows], newl_nil⟩ (fun k G _ p => p.1) ?_ ?_
    · rintro k T G hk ⟨sG, acc, hacc, hP, hN⟩ hT
      have sT := same_new (o := .tup (ZpX.colV k xss)) hT
      have fewk := rt_len hP
      have : ((colsQ n qss).take k).length ≤ 6 := by rw [List.length_take]; omega
      refine ⟨rfl, _, rfl, T, ZpX.colV k xss, rfl, .inr (st_of upd_same), fun l hl => ?_⟩
      have sl := same_new (o := .lst (ZpX.colV k xss)) hl
      have hacc2 := sl _ _ (sT _ _ hacc)
      have nlD : l ≠ D := fun e => by rw [e] at hl; rw [sT _ _ hacc] at hl; cases hl
      have sA := (sG.trans sT).trans sl
      refine ⟨acc, hacc2, szlt (by omega), same_mut sA hD, acc ++ [.ref l], upd_same, ?_, newl_put hN ((sG.trans sT).free hl)⟩
      have hrow : (colsQ n qss)[k]? = some (qss.map fun qs => qs[k]?.getD (0, 1)) := by unfold colsQ; simp [hk]
      rw [take_at hrow]
      refine rt_but hacc2 (rt_app (rt_s (sT.trans sl) hP) ⟨⟨l, ZpX.colV k xss, rfl, nlD, upd_same, ratsP_of ?_ ?_⟩, trivial⟩)
      · unfold ZpX.colV
        rw [List.length_map, List.length_map, e2]
      · intro i x z hx hz
        obtain ⟨ys, hys, rfl⟩ := col_at hx
        obtain ⟨qs, hqs, hPq⟩ := e3 i ys hys
        rw [List.getElem?_map, hqs] at hz
        cases hz
        have ly := wide ys (List.mem_of_getElem? hys)
        have lq := lr qs (List.mem_of_getElem? hqs)
        obtain ⟨p, ep, hp⟩ := (rats_at hPq).2 k (ys[k]'(by omega)) (qs[k]'(by omega)) (List.getElem?_eq_getElem _) (List.getElem?_eq_getElem _)
        refine ⟨p, ?_, ?_⟩
        · rw [List.getElem?_eq_getElem (show k < ys.length by omega)]; exact ep
        · show RatAt C _ p (qs[k]?.getD (0, 1))
          rw [List.getElem?_eq_getElem (show k < qs.length by omega)]
          exact rat_s hp sA
    · rintro G ⟨sG, acc, hacc, hP, hN⟩
      rw [show (colsQ n qss).take n = colsQ n qss from List.take_of_length_le (by omega)] at hP
      exact q G D ((s1.trans s2).trans sG) ((s1.trans s2).free hD) ⟨acc, hacc, hP⟩ ⟨acc, hacc, newl_le hN (s1.trans s2)⟩
end
end Tk

namespace RgX
open PySem PySem.Spec PyProof.Rows L2
/-! ## a range that is kept in a name -/
section
variable {X : Cx}
theorem cr_range1 : CallR X (.type "range") (fun vs H Q => ∃ i, vs = [V.int i] ∧ ∀ p, H p = none → Q (.ref p) (upd H p (.rng 0 i))) := by
  intro pins s σ H vs us Q I r h
  obtain ⟨i, rfl, q⟩ := h
  cases r with
  | cons r rr =>
    cases rr
    obtain ⟨t, rfl⟩ := r
    refine call_range_1 ⟨.ref s.heap.objs.size, upd H s.heap.objs.size (.rng 0 i), I.laid (t' := s.toks + 1 + 1) (fun b o e => Heap.get?_push_of_some _ e) (Nat.le_refl _) ?_, rfl, q _ (I.hok.fresh (Nat.le_refl _))⟩
    exact ⟨s.toks, t, s.toks + 1, Heap.get?_push_size _ rfl⟩
/-- for x in r -/
def iRgV (te : L2.TE) : TI := fun σ H R => te σ H fun v H1 => ∃ (a : Addr) (i j : Int), v = .ref a ∧ H1 a = some (.rng i j) ∧ (-(2 ^ 62) ≤ i ∧ i < 2 ^ 62 ∧ -(2 ^ 62) ≤ j ∧ j < 2 ^ 62) ∧ R (Itr i (j - i).toNat) H1
theorem pi_rgV {tg e : Expr} {te : L2.TE} (he : PE X e te) : PI X tg e (iRgV te) := by
  refine ⟨fun pins s σ H R I h => ?_⟩
  refine thn (he.run pins s σ H _ I h) fun v s1 ⟨y, H1, I1, r1, q1⟩ => ?_
  obtain ⟨a, i, j, rfl, ha, ⟨q1, q2, q3, q4⟩, q⟩ := q1
  obtain rfl : v = Value.ref a := r1
  obtain ⟨t1, t2, t3, ho⟩ := I1.hok a _ ha
  refine wpAny_pyIter_range ho (small_one q1 q2 q3 q4) ?_
  refine ⟨s1.heap.objs.size, [s1.heap.objs.size], _, _, H1, rfl, I1.kept (t' := s1.toks) fun b o e => Heap.get?_push_of_some _ e, turn_range _ i (j - i).toNat, ?_, fun b hb => ?_, q⟩
  · have e1 : i + ((0 : Nat) : Int) * 1 = i := by simp
    have e2 : (((j - i).toNat : Nat) : Int) - ((0 : Nat) : Int) = Builtin.Range.rangeSize i j 1 := by rw [rangeSize_one]; split <;> omega
    show IsRangeIter _ _ (i + ((0 : Nat) : Int) * 1) ((((j - i).toNat : Nat) : Int) - ((0 : Nat) : Int)) 1
    rw [e1, e2]
    exact Heap.get?_push_size _ rfl
  · have e : b = s1.heap.objs.size := by simpa using hb
    subst e
    exact I1.fpOk (Nat.le_refl _) (I1.hok.fresh (Nat.le_refl _))
end
end RgX

namespace Tk
open PySem PySem.Spec PyProof.Rows L2 ClX
abbrev sTabWith : Stmt := top 29
abbrev sIdleT : Stmt := top 30
/-! ## tables whose numbers are set one by one -/
def tabQ (n : Nat) (f : Nat → Nat → Int × Int) : List (List (Int × Int)) := (List.range n).map fun i => (List.range n).map fun j => f i j
theorem tabQ_len {n : Nat} {f : Nat → Nat → Int × Int} : (tabQ n f).length = n := by unfold tabQ; simp
theorem tabQ_wide {n : Nat} {f : Nat → Nat → Int × Int} : ∀ qs ∈ tabQ n f, qs.length = n := fun qs h => by
  unfold tabQ at h
  obtain ⟨i, _, rfl⟩ := List.mem_map.mp h
  simp
theorem tabQ_at {n i : Nat} {f : Nat → Nat → Int × Int} (h : i < n) : (tabQ n f)[i]? = some ((List.range n).map fun j => f i j) := by unfold tabQ; simp [h]
theorem tabQ_set {n i j : Nat} {f : Nat → Nat → Int × Int} {q : Int × Int} (hi : i < n) : (tabQ n f).set i (((List.range n).map fun j => f i j).set j q) = tabQ n fun a b => if a = i ∧ b = j then q else f a b := by
  refine List.ext_getElem (by simp [tabQ]) fun a h1 h2 => ?_
  have ha : a < n := by simpa [tabQ] using h2
  rw [List.getElem_set]
  refine List.ext_getElem (by split <;> simp [tabQ]) fun b g1 g2 => ?_
  have hb : b < n := by simpa [tabQ] using g2
  by_cases e : i = a
  · subst e
    simp only [if_true, List.getElem_set, tabQ, List.getElem_map, List.getElem_range, true_and]
    by_cases e2 : j = b
    · rw [if_pos e2, if_pos e2.symm]
    · rw [if_neg e2, if_neg (fun z => e2 z.symm)]
  · simp only [if_neg e, tabQ, List.getElem_map, List.getElem_range]
    rw [if_neg (fun z => e z.1.symm)]
structure MutT (C : Addr) (H : Hp) (D : Addr) (as : List Addr) (qss : List (List (Int × Int))) : Prop where
  at_ : H D = some (.lst (as.map V.ref))
  nd : as.Nodup
  no : D ∉ as
  len : as.length = qss.length
  row : ∀ (i : Nat) (a : Addr), as[i]? = some a → ∃ ys qs, qss[i]? = some qs ∧ H a = some (.lst ys) ∧ RatsP C H ys qs
theorem mut_s {C D : Addr} {H H' : Hp} {as : List Addr} {qss : List (List (Int × Int))} (h : MutT C H D as qss) (e : Same H H') : MutT C H' D as qss :=
  ⟨e _ _ h.at_, h.nd, h.no, h.len, fun i a ha => let ⟨ys, qs, h1, h2, h3⟩ := h.row i a ha; ⟨ys, qs, h1, e _ _ h2, rats_s e h3⟩⟩
theorem rats_set {C : Addr} {H : Hp} {p : Addr} {q : Int × Int} (hp : RatAt C H p q) : ∀ {xs : List V} {qs : List (Int × Int)} {j : Nat}, RatsP C H xs qs → RatsP C H (xs.set j (.ref p)) (qs.set j q)
  | [], [], _, _ => by simp [RatsP]
  | x :: xs, z :: qs, 0, ⟨_, h⟩ => ⟨⟨p, rfl, hp⟩, h⟩
  | x :: xs, z :: qs, j + 1, ⟨h1, h⟩ => ⟨h1, rats_set hp h⟩
  | [], _ :: _, _, h => h.elim
  | _ :: _, [], _, h => h.elim
theorem mut_set {C D a p : Addr} {H : Hp} {as : List Addr} {qss : List (List (Int × Int))} {i j : Nat} {ys : List V} {qs : List (Int × Int)} {q : Int × Int} (h : MutT C H D as qss) (ha : as[i]? = some a) (hy : H a = some (.lst ys)) (hq : qss[i]? = some qs) (hp : RatAt C H p q) :
    MutT C (upd H a (.lst (ys.set j (.ref p)))) D as (qss.set i (qs.set j q)) := by
  have nDa : D ≠ a := fun e => h.no (by rw [e]; exact List.mem_of_getElem? ha)
  refine ⟨by rw [upd_ne nDa]; exact h.at_, h.nd, h.no, by rw [List.length_set]; exact h.len, fun k b hb => ?_⟩
  obtain ⟨zs, rs, h1, h2, h3⟩ := h.row k b hb
  have hk := lt_of_at h1
  by_cases e : k = i
  · subst e
    rw [ha] at hb
    cases hb
    rw [hy] at h2
    cases h2
    rw [hq] at h1
    cases h1
    refine ⟨_, _, by rw [List.getElem?_set_self hk], upd_same, ?_⟩
    exact rats_but hy smx_upd (rats_set hp h3)
  · have nba : b ≠ a := fun z => by
      subst z
      exact e ((List.getElem?_inj (lt_of_at hb) h.nd).mp (hb.trans ha.symm))
    exact ⟨zs, rs, by rw [List.getElem?_set_ne (fun z => e z.symm)]; exact h1, by rw [upd_ne nba]; exact h2, rats_but hy smx_upd h3⟩
theorem rt_mk {L C : Addr} {H : Hp} : ∀ {as : List Addr} {qss : List (List (Int × Int))}, as.length = qss.length → L ∉ as → (∀ (i : Nat) (a : Addr), as[i]? = some a → ∃ ys qs, qss[i]? = some qs ∧ H a = some (.lst ys) ∧ RatsP C H ys qs) → RtRows L C H (as.map V.ref) qss
  | [], [], _, _, _ => trivial
  | a :: as, qs :: qss, hl, hn, h => by
    obtain ⟨ys, rs, h1, h2, h3⟩ := h 0 a rfl
    cases h1
    exact ⟨⟨a, ys, rfl, fun e => hn (by rw [e]; simp), h2, h3⟩, rt_mk (by simpa using hl) (fun e => hn (List.mem_cons_of_mem _ e)) fun i b hb => h (i + 1) b (by simpa using hb)⟩
  | [], _ :: _, hl, _, _ => by simp at hl
  | _ :: _, [], hl, _, _ => by simp at hl
theorem mut_rtt {C D : Addr} {H : Hp} {as : List Addr} {qss : List (List (Int × Int))} (h : MutT C H D as qss) : RtTab C H D qss := ⟨_, h.at_, rt_mk h.len h.no h.row⟩
/-- the line's numbers on the line, z at the pairs, 0 else -/
def withQ (n : Nat) (line : List (Int × Int)) (ps : List (Int × Int)) (z : Int × Int) : List (List (Int × Int)) :=
  tabQ n fun a b => if ((a : Int), (b : Int)) ∈ ps then z else if a = b then line[a]?.getD (0, 1) else (0, 1)
def spTabWith (K : PySem.W.Frag) (C : Addr) : Sp := fun vs H Q _ => ∃ (l u : Addr) (v : V) (xs : List V) (line ps : List (Int × Int)) (z : Int × Int), vs = [.ref l, .ref u, v] ∧ SqL K H l xs ∧ NumsP C H xs line ∧ line.length ≤ 6 ∧ PL K H u ps ∧ (∀ p ∈ ps, 0 ≤ p.1 ∧ p.1 < line.length ∧ 0 ≤ p.2 ∧ p.2 < line.length) ∧ NumAt C H v z ∧
  NewTab C H Q (withQ line.length line ps z)
/-- 1 on the line, 0 else -/
def idleQ (n : Nat) : List (List (Int × Int)) := tabQ n fun a b => if a = b then (1, 1) else (0, 1)
def spIdleT (C : Addr) : Sp := fun vs H Q _ => ∃ n : Nat, vs = [.int n] ∧ n ≤ 6 ∧ NewTab C H Q (idleQ n)
section
variable {P : Program} {w : World} {K : PySem.W.Frag} {mg : Str → Option Value} {base : Heap}
abbrev nTabWith : List Str := ["line", "pairs", "number", "places", "found", "_", "place", "row"]
theorem sc_tabWith : FnScope nTabWith ["line", "pairs", "number"] (defScope sTabWith) := ⟨rfl, rfl, rfl, by decide +kernel, rfl, by decide +kernel, by decide +kernel⟩
theorem place_ix {n i : Nat} {xs : List V} {v : V} (h : xs[i]? = some v) : atI xs (0 + (i : Int)) = some v := by
  rw [Int.zero_add]
  exact atI_nat h
theorem ixN_z {n i : Nat} (h : i < n) : ixN n (0 + (i : Int)) = some i := by
  unfold ixN
  rw [Int.zero_add, if_pos (by omega), if_pos (by omega)]
  simp
theorem ixN_p {n : Nat} {i : Int} (h0 : 0 ≤ i) (h : i < (n : Int)) : ixN n i = some i.toNat := by
  unfold ixN
  rw [if_pos h0, if_pos h]
theorem atI_p {xs : List V} {i : Int} {v : V} (h0 : 0 ≤ i) (h : xs[i.toNat]? = some v) : atI xs i = some v := by
  have : i = ((i.toNat : Nat) : Int) := by omega
  rw [this]
  exact atI_nat h
theorem ok_tabWith {f f1 f2 fI C : Addr} {fd fd1 fd2 dI : FuncData} (F : Fun K "table_with" "table_with" sTabWith f fd) (M : RtM K mg C fI dI) (D1 : Df K mg "is_integer" sIsInt ["value"] f1 fd1) (D2 : Df K mg "as_ratio" sAsRat ["number"] f2 fd2) (B : Bl mg) :
    FnOk P w K mg base CX0 5 f fd ["line", "pairs", "number"] (spTabWith K C) := by
  have G2 : FnOk P w K mg base CX0 4 f2 fd2 ["number"] (spAsR C) := ok_asr D2.F M D1 B
  have GI : FnOk P w K mg base CX0 2 fI dI ["self", "top", "bottom"] (spRInit C) := ok_rinit M.FI M.c D1 B
  obtain ⟨tk, b1⟩ := M.bI1
  refine F.ok sc_tabWith (fun vs H Q E h => ?_) (fun cdv A outer s H vs Q E hr h => ?_)
  · obtain ⟨l, u, v, xs, line, ps, z, rfl, _⟩ := h
    rfl
  · obtain ⟨l, u, v, xs, line, ps, z, rfl, hl, hn, few, hps, rng, hz, q⟩ := h
    have lx := (nums_at hn).1
    refine ⟨_, pss_cons (ps_set (i := 3) sc_tabWith.nd rfl (Or.inr rfl) (pe_callTy RgX.cr_range1 (by rfl) B.range PyProof.Rows.boot_range (pa_cons (pe_callB call_len_seq (by rfl) B.len PySem.boot_len (pa_cons (pv 0) pa_nil)) pa_nil)))
      (pss_cons (ps_setLc (i := 4) (own := [("_", 5)]) (g := gName 5) (tt := tYes) (te := tLc (RgX.iRgV (tVar 3)) (gName 5) tYes (tMake C (spRInit C) [V.int 1] E0 (tCons (tC (.int 0)) tNil)) [5]) rfl sc_tabWith.nd rfl rfl (sw_true rfl rfl rfl (by decide +kernel)) (RgX.pi_rgV (pv 3)) (blkOk_by (N := nTabWith) (sc := defScope sTabWith) (by decide +kernel))
        (fun _ _ _ _ _ => pg_name (i := 5) sc_tabWith.nd rfl (Or.inl rfl)) (fun _ _ _ _ _ => pts_nil)
        (fun _ _ _ _ _ => pe_lc (own := [("_", 5)]) (g := gName 5) (tt := tYes) (te := tMake C (spRInit C) [V.int 1] E0 (tCons (tC (.int 0)) tNil)) rfl sc_tabWith.nd (RgX.pi_rgV (pv 3)) (blkOk_by (N := nTabWith) (sc := { kind := .function, names := [(".0", .local), ("_", .local), ("places", .cell)], isGenerator := false, isCoroutine := false }) (by decide +kernel))
          (fun _ _ _ _ _ => pg_name (i := 5) sc_tabWith.nd rfl (Or.inl rfl)) (fun _ _ _ _ _ => pts_nil)
          (fun _ _ _ _ _ => pe_make M.mkr GI (hr.mono (by decide)) rfl M.c.mgC b1 (dvs := [V.int 1]) (.cons ⟨tk, rfl⟩ .nil) pass0 (pa_cons pe_int pa_nil))))
      (pss_cons (ps_for PassesOwn.never rfl (RgX.pi_rgV (pv 3)) (pg_name (i := 6) sc_tabWith.nd rfl (Or.inl rfl))
        (pss_one (ps_asg (pe_call G2 hr rfl D2.g D2.F.kp D2.b .nil pass0 (pa_cons (pe_ix ix_list (pv 0) (pv 6) (fun _ _ => rfl)) pa_nil)) (pg_sub (pe_ix ix_list (pv 4) (pv 6) (fun _ _ => rfl)) (pv 6) set_list))))
      (pss_cons (ps_for PassesOwn.never rfl (pi_list (pv 1)) (pg_tup rfl (pgs_cons (pg_name (i := 7) sc_tabWith.nd rfl (Or.inl rfl)) (pgs_cons (pg_name (i := 6) sc_tabWith.nd rfl (Or.inl rfl)) pgs_nil)))
        (pss_one (ps_asg (pe_call G2 hr rfl D2.g D2.F.kp D2.b .nil pass0 (pa_cons (pv 2) pa_nil)) (pg_sub (pe_ix ix_list (pv 4) (pv 7) (fun _ _ => rfl)) (pv 6) set_list))))
      (pss_one (ps_ret (pv 4)))))), ?_⟩
    refine ⟨_, rfl, l, xs, rfl, .inl hl, _, rfl, fun rg hrg => ?_⟩
    have s1 := same_new (o := .rng 0 (xs.length : Nat)) hrg
    have hrg1 : (upd H rg (.rng 0 (xs.length : Nat))) rg = some (.rng 0 (xs.length : Nat)) := upd_same
    generalize upd H rg (.rng 0 (xs.length : Nat)) = H1 at s1 hrg1
    have bnd : (-(2 ^ 62) : Int) ≤ 0 ∧ (0 : Int) < 2 ^ 62 ∧ (-(2 ^ 62) : Int) ≤ (xs.length : Nat) ∧ ((xs.length : Nat) : Int) < 2 ^ 62 := ⟨by decide, by decide, by omega, by omega⟩
    refine ⟨_, rfl, rg, 0, _, rfl, hrg1, bnd, fun D hD => ?_⟩
    rw [show (((xs.length : Nat) : Int) - 0).toNat = xs.length by omega]
    refine lc_range (lo := 0) (n := xs.length) (fun k G => Same H1 G ∧ ∃ as : List Addr, G D = some (.lst (as.map V.ref)) ∧ as.length = k ∧ as.Nodup ∧ D ∉ as ∧ ∀ a ∈ as, H1 a = none ∧ ∃ ys, G a = some (.lst ys) ∧ RatsP C G ys (List.replicate xs.length (0, 1)))
      ⟨same_new hD, [], upd_same, rfl, List.Pairwise.nil, by simp, fun a h => by simp at h⟩ ?_ ?_
    · rintro k G hk ⟨sG, as, hacc, hlen, nd, no, hrows⟩
      refine ⟨rfl, _, rfl, rg, 0, _, rfl, sG _ _ hrg1, bnd, fun D2 hD2 => ?_⟩
      rw [show (((xs.length : Nat) : Int) - 0).toNat = xs.length by omega]
      have nDD : D2 ≠ D := fun e => by rw [e, hacc] at hD2; cases hD2
      refine lc_range (lo := 0) (n := xs.length) (fun j G2 => Same G G2 ∧ ∃ ac, G2 D2 = some (.lst ac) ∧ RatsP C G2 ac (List.replicate j (0, 1))) ⟨same_new hD2, [], upd_same, by simp [RatsP]⟩ ?_ ?_
      · rintro j G2 hj ⟨s2, ac, hac, hQ⟩
        refine ⟨rfl, fun x dx nx ndx nex => ?_⟩
        have sm : Same G2 (upd (upd G2 dx (.own x)) x (.ins C dx [])) := fun b o e => by
          rw [upd_ne (ne_of_none e nx), upd_ne (ne_of_none e ndx)]
          exact e
        refine ⟨x, dx, 0, 1, rfl, upd_same, by decide, by decide, fun H' keep hr' => ⟨rfl, ?_⟩⟩
        have s3 : Same G2 H' := fun b o e => keep b o (ne_of_none e nx) (sm b o e)
        rw [low_one] at hr'
        have fewj := (rats_at hQ).1
        rw [List.length_replicate] at fewj
        refine ⟨ac, s3 _ _ hac, szlt (by omega), same_mut (s2.trans s3) hD2, ac ++ [.ref x], upd_same, ?_⟩
        rw [List.replicate_succ']
        exact rats_but (s3 _ _ hac) smx_upd (rats_app (rats_s s3 hQ) ⟨⟨x, rfl, hr'⟩, trivial⟩)
      · rintro G2 ⟨s2, ac, hac, hQ⟩
        have nin : D2 ∉ as := fun e => by
          obtain ⟨_, ys, h1, _⟩ := hrows D2 e
          rw [hD2] at h1
          cases h1
        refine ⟨as.map V.ref, s2 _ _ hacc, szlt (by rw [List.length_map]; omega), same_mut (sG.trans s2) hD, as ++ [D2], by rw [List.map_append]; exact upd_same, by rw [List.length_append, hlen]; rfl, ?_, ?_, fun a ha => ?_⟩
        · rw [List.nodup_append]
          refine ⟨nd, List.pairwise_singleton _ _, fun a ha b hb e => nin ?_⟩
          rw [List.mem_singleton] at hb
          rw [← hb, ← e]
          exact ha
        · intro h
          rcases List.mem_append.mp h with h | h
          · exact no h
          · exact nDD (List.mem_singleton.mp h).symm
        · rcases List.mem_append.mp ha with h | h
          · obtain ⟨f1, ys, h1, h2⟩ := hrows a h
            have naD : a ≠ D := fun e => no (by rw [← e]; exact h)
            exact ⟨f1, ys, by rw [upd_ne naD]; exact s2 _ _ h1, rats_but (s2 _ _ hacc) smx_upd (rats_s s2 h2)⟩
          · rw [List.mem_singleton.mp h]
            exact ⟨sG.free hD2, ac, by rw [upd_ne nDD]; exact hac, rats_but (s2 _ _ hacc) smx_upd hQ⟩
    rintro G ⟨sG, as, hacc, hlen, nd, no, hrows⟩
    have fresh : ∀ a ∈ as, H1 a = none := fun a h => (hrows a h).1
    have M0 : MutT C G D as (tabQ line.length fun _ _ => (0, 1)) := by
      refine ⟨hacc, nd, no, by rw [tabQ_len]; omega, fun i a ha => ?_⟩
      obtain ⟨_, ys, h1, h2⟩ := hrows a (List.mem_of_getElem? ha)
      have hi := lt_of_at ha
      refine ⟨ys, _, tabQ_at (by omega), h1, ?_⟩
      rw [show ((List.range line.length).map fun _ => ((0 : Int), (1 : Int))) = List.replicate xs.length (0, 1) by rw [List.map_const', List.length_range, lx]]
      exact h2
    clear hrows hacc
    -- the line
    refine ⟨_, rfl, rg, 0, _, rfl, sG _ _ hrg1, bnd, ?_⟩
    rw [show (((xs.length : Nat) : Int) - 0).toNat = xs.length by omega]
    refine for_range (lo := 0) (n := xs.length) (fun k σ G => ∃ (v6 v7 : Option V), σ = [some (.ref l), some (.ref u), some v, some (.ref rg), some (.ref D), none, v6, v7] ∧ Same H1 G ∧ MutT C G D as (tabQ line.length fun a b => if a = b ∧ a < k then line[a]?.getD (0, 1) else (0, 1)))
      ⟨_, _, rfl, sG, by simpa using M0⟩ ?_ ?_
    · rintro k σ G hk ⟨v6, v7, rfl, sG, MT⟩
      obtain ⟨x, hx⟩ : ∃ x, xs[k]? = some x := ⟨_, List.getElem?_eq_getElem hk⟩
      obtain ⟨y, hy, hnum⟩ := (nums_at hn).2 k x hx
      have hnum' := num_s hnum (s1.trans sG)
      refine ⟨_, rfl, _, rfl, l, xs, _, _, rfl, rfl, same_l (s1.trans sG) hl, place_ix (n := 0) hx, x, y, rfl, hnum', fun G3 p s3 hp => ?_⟩
      have MT3 := mut_s MT s3
      obtain ⟨a, ha⟩ : ∃ a, as[k]? = some a := ⟨_, List.getElem?_eq_getElem (by omega)⟩
      obtain ⟨ys, qs, e1, e2, e3⟩ := MT3.row k a ha
      have ly := (rats_at e3).1
      rw [tabQ_at (by omega)] at e1
      cases e1
      rw [List.length_map, List.length_range] at ly
      refine ⟨_, rfl, _, rfl, D, _, _, _, rfl, rfl, sl_of MT3.at_, place_ix (n := 0) (v := .ref a) (by rw [List.getElem?_map, ha]; rfl), _, rfl, a, ys, _, k, rfl, rfl, e2, ixN_z (by omega), ?_⟩
      refine ⟨_, _, rfl, same_mut (sG.trans s3) (fresh a (List.mem_of_getElem? ha)), ?_⟩
      have := mut_set (j := k) MT3 ha e2 (tabQ_at (by omega)) hp
      rw [tabQ_set (by omega)] at this
      rw [show (fun a b => if a = b ∧ a < k + 1 then line[a]?.getD ((0 : Int), (1 : Int)) else (0, 1)) = fun a b => if a = k ∧ b = k then y else if a = b ∧ a < k then line[a]?.getD (0, 1) else (0, 1) from ?_]
      · exact this
      · funext a b
        by_cases c : a = k ∧ b = k
        · rw [if_pos c, if_pos ⟨by omega, by omega⟩, c.1, hy]
          rfl
        · rw [if_neg c]
          by_cases c2 : a = b ∧ a < k
          · rw [if_pos c2, if_pos ⟨c2.1, by omega⟩]
          · rw [if_neg c2, if_neg (fun z => ?_)]
            omega
    rintro σ G ⟨v6, v7, rfl, sG, MT⟩
    have MT0 : MutT C G D as (withQ line.length line [] z) := by
      unfold withQ
      rw [show (tabQ line.length fun a b => if ((a : Int), (b : Int)) ∈ ([] : List (Int × Int)) then z else if a = b then line[a]?.getD (0, 1) else (0, 1)) = tabQ line.length fun a b => if a = b ∧ a < xs.length then line[a]?.getD (0, 1) else (0, 1) from ?_]
      · exact MT
      · unfold tabQ
        refine List.map_congr_left fun a ha => List.map_congr_left fun b hb => ?_
        have := List.mem_range.mp ha
        by_cases c : a = b
        · simp [c]
          omega
        · simp [c]
    clear MT
    -- the pairs
    have hz1 := num_s hz s1
    obtain ⟨ys, hys, hdp⟩ := pl_s hps s1
    have ly := dps_len hdp
    rw [List.length_map] at ly
    refine ⟨_, rfl, u, rfl, ⟨ys, same_l sG hys⟩, for_list (K := K) (a := u) (xs := ys) (fun k σ G => ∃ (v6 v7 : Option V), σ = [some (.ref l), some (.ref u), some v, some (.ref rg), some (.ref D), none, v6, v7] ∧ Same H1 G ∧ MutT C G D as (withQ line.length line (ps.take k) z))
      ⟨_, _, rfl, sG, by simpa using MT0⟩ (fun i σ G _ z => by obtain ⟨_, _, _, z, _⟩ := z; exact same_l z hys) ?_ ?_⟩
    · rintro k w0 σ G hw ⟨v6, v7, rfl, sG, MT⟩
      obtain ⟨pr, t, hpr, rfl, ht⟩ := pl_at hdp hw
      have r := rng pr (List.mem_of_getElem? hpr)
      refine ⟨t, _, rfl, same_t sG ht, rfl, _, _, rfl, _, _, rfl, rfl, ?_⟩
      refine ⟨_, rfl, v, z, rfl, num_s hz1 sG, fun G3 p s3 hp => ?_⟩
      have MT3 := mut_s MT s3
      have i0 : pr.1.toNat < line.length := by omega
      have j0 : pr.2.toNat < line.length := by omega
      obtain ⟨a, ha⟩ : ∃ a, as[pr.1.toNat]? = some a := ⟨_, List.getElem?_eq_getElem (by omega)⟩
      obtain ⟨zs, qs, e1, e2, e3⟩ := MT3.row _ a ha
      have lz := (rats_at e3).1
      unfold withQ at e1
      rw [tabQ_at i0] at e1
      cases e1
      rw [List.length_map, List.length_range] at lz
      refine ⟨_, rfl, _, rfl, D, _, _, _, rfl, rfl, sl_of MT3.at_, atI_p (v := .ref a) r.1 (by rw [List.getElem?_map, ha]; rfl), _, rfl, a, zs, _, pr.2.toNat, rfl, rfl, e2, ixN_p r.2.2.1 (by omega), ?_⟩
      refine ⟨_, _, rfl, same_mut (sG.trans s3) (fresh a (List.mem_of_getElem? ha)), ?_⟩
      have := mut_set (j := pr.2.toNat) MT3 ha e2 (tabQ_at i0) hp
      unfold withQ at this
      rw [tabQ_set i0] at this
      unfold withQ
      rw [take_at hpr]
      rw [show (fun (a b : Nat) => if ((a : Int), (b : Int)) ∈ ps.take k ++ [pr] then z else if a = b then line[a]?.getD ((0 : Int), (1 : Int)) else (0, 1)) = fun a b => if a = pr.1.toNat ∧ b = pr.2.toNat then z else if ((a : Int), (b : Int)) ∈ ps.take k then z else if a = b then line[a]?.getD (0, 1) else (0, 1) from ?_]
      · exact this
      · funext a b
        by_cases c : a = pr.1.toNat ∧ b = pr.2.toNat
        · have e : ((a : Int), (b : Int)) = pr := Prod.ext (by show (a : Int) = pr.1; omega) (by show (b : Int) = pr.2; omega)
          rw [if_pos c, if_pos (by rw [e]; simp)]
        · have e : ((a : Int), (b : Int)) ≠ pr := fun e => c ⟨by rw [← e]; simp, by rw [← e]; simp⟩
          rw [if_neg c]
          by_cases c2 : ((a : Int), (b : Int)) ∈ ps.take k
          · rw [if_pos c2, if_pos (List.mem_append_left _ c2)]
          · rw [if_neg c2, if_neg (fun y => (List.mem_append.mp y).elim c2 fun y => e (List.mem_singleton.mp y))]
    · rintro σ G ⟨v6, v7, rfl, sG, MT⟩
      rw [ly, List.take_length] at MT
      refine ⟨_, rfl, q G D (s1.trans sG) (s1.free hD) (mut_rtt MT) ⟨_, MT.at_, fun x hx => ?_⟩⟩
      obtain ⟨a, ha, rfl⟩ := List.mem_map.mp hx
      exact ⟨a, rfl, s1.free (fresh a ha)⟩
theorem sc_idleT : FnScope ["size"] ["size"] (defScope sIdleT) := ⟨rfl, rfl, rfl, by decide +kernel, rfl, by decide +kernel, by decide +kernel⟩
theorem nums_ints {C : Addr} {H : Hp} : ∀ {is : List Int}, NumsP C H (is.map V.int) (is.map fun i => (i, 1))
  | [] => trivial
  | i :: is => ⟨.inr ⟨i, rfl, rfl⟩, nums_ints⟩
theorem with_idle {n : Nat} {z : Int × Int} : withQ n (List.replicate n (1, 1)) [] z = idleQ n := by
  unfold withQ idleQ tabQ
  refine List.map_congr_left fun a ha => List.map_congr_left fun b hb => ?_
  have := List.mem_range.mp ha
  dsimp only
  rw [if_neg (by simp)]
  by_cases c : a = b
  · rw [if_pos c, if_pos c, List.getElem?_replicate, if_pos this]
    rfl
  · rw [if_neg c, if_neg c]
theorem ok_idleT {f f1 f2 C : Addr} {fd fd1 fd2 : FuncData} (F : Fun K "idle" "idle" sIdleT f fd) (D1 : Df K mg "check_size" sChkSize ["size"] f1 fd1) (G1 : FnOk P w K mg base CX0 4 f1 fd1 ["size"] spChkSize) (D2 : Df K mg "table_with" sTabWith ["line", "pairs", "number"] f2 fd2) (G2 : FnOk P w K mg base CX0 5 f2 fd2 ["line", "pairs", "number"] (spTabWith K C)) :
    FnOk P w K mg base CX0 6 f fd ["size"] (spIdleT C) := by
  refine F.ok sc_idleT (fun vs H Q E h => ?_) (fun cdv A outer s H vs Q E hr h => ?_)
  · obtain ⟨n, rfl, _⟩ := h
    rfl
  · obtain ⟨n, rfl, n6, q⟩ := h
    refine ⟨_, pss_cons (ps_expr (pe_call G1 (hr.mono (by decide)) rfl D1.g D1.F.kp D1.b .nil pass0 (pa_cons (pv 0) pa_nil)))
      (pss_one (ps_ret (pe_call G2 hr rfl D2.g D2.F.kp D2.b .nil pass0 (pa_cons (pe_op op_rep (pe_lst (pa_cons pe_int pa_nil)) (pv 0)) (pa_cons (pe_lst pa_nil) (pa_cons pe_int pa_nil)))))), ?_⟩
    refine ⟨_, rfl, n, rfl, by omega, by omega, ?_⟩
    refine ⟨szle (by show 1 ≤ 100000; decide), fun a ha => ?_⟩
    have s1 := same_new (o := .lst [.int 1]) ha
    refine ⟨_, rfl, a, n, [.int 1], rfl, rfl, upd_same, by omega, by omega, szle (by show 1 * (n : Int).toNat ≤ 100000; omega), fun b hb => ?_⟩
    have s2 := same_new (o := .lst (List.replicate (n : Int).toNat [V.int 1]).flatten) hb
    refine ⟨szle (by show 0 ≤ 100000; decide), fun u hu => ?_⟩
    have s3 := same_new (o := .lst []) hu
    have e1 : (List.replicate (n : Int).toNat [V.int 1]).flatten = (List.replicate n (1 : Int)).map V.int := by
      rw [Int.toNat_natCast]
      clear q n6 s2 s3 hb hu s1
      induction n with
      | zero => rfl
      | succ n ih => rw [List.replicate_succ, List.flatten_cons, ih, List.replicate_succ]; rfl
    rw [e1] at s2 s3 hu ⊢
    have e2 : (List.replicate n (1 : Int)).map (fun i => (i, (1 : Int))) = List.replicate n (1, 1) := by rw [List.map_replicate]
    have e3 := with_idle (n := n) (z := ((0 : Int), (1 : Int)))
    refine ⟨b, u, .int 0, _, _, [], (0, 1), rfl, sl_of (s3 _ _ upd_same), nums_ints, by rw [e2, List.length_replicate]; exact n6, ⟨[], sl_of upd_same, .nil⟩, (fun p h => nomatch h), .inr ⟨0, rfl, rfl⟩, ?_⟩
    rw [e2, List.length_replicate, e3]
    exact fun H' r sH hr0 ht ⟨ys, hy, hN⟩ => q H' r (((s1.trans s2).trans s3).trans sH) (((s1.trans s2).trans s3).free hr0) ht ⟨ys, hy, newl_le hN ((s1.trans s2).trans s3)⟩
end
end Tk

namespace Tk
open PySem PySem.Spec PyProof.Rows L2 ClX
abbrev sDotR : Stmt := top 43
abbrev sIdleR : Stmt := top 44
abbrev sColR : Stmt := top 45
abbrev sLedR : Stmt := top 46
abbrev sTimR : Stmt := top 47
/-! ## the law's own tables: lists of lists of pairs -/
def PtRows (K : PySem.W.Frag) (H : Hp) : List V → List (List (Int × Int)) → Prop
  | [], [] => True
  | x :: xs, q :: qs => (∃ a ys, x = .ref a ∧ H a = some (.lst ys) ∧ PrsP K H ys q) ∧ PtRows K H xs qs
  | _, _ => False
theorem pt_s {K : PySem.W.Frag} {H H' : Hp} (e : Same H H') : ∀ {xs : List V} {qs : List (List (Int × Int))}, PtRows K H xs qs → PtRows K H' xs qs
  | [], [], _ => trivial
  | _ :: _, _ :: _, ⟨⟨a, ys, h1, h2, h3⟩, h⟩ => ⟨⟨a, ys, h1, e _ _ h2, prs_sR e h3⟩, pt_s e h⟩
  | [], _ :: _, h => h.elim
  | _ :: _, [], h => h.elim
theorem pt_app {K : PySem.W.Frag} {H : Hp} : ∀ {xs ys : List V} {qs rs : List (List (Int × Int))}, PtRows K H xs qs → PtRows K H ys rs → PtRows K H (xs ++ ys) (qs ++ rs)
  | [], _, [], _, _, h => h
  | _ :: _, _, _ :: _, _, ⟨h1, h2⟩, h => ⟨h1, pt_app h2 h⟩
  | [], _, _ :: _, _, h, _ => h.elim
  | _ :: _, _, [], _, h, _ => h.elim
theorem pt_len {K : PySem.W.Frag} {H : Hp} : ∀ {xs : List V} {qs : List (List (Int × Int))}, PtRows K H xs qs → xs.length = qs.length
  | [], [], _ => rfl
  | _ :: _, _ :: _, ⟨_, h⟩ => by rw [List.length_cons, List.length_cons, pt_len h]
  | [], _ :: _, h => h.elim
  | _ :: _, [], h => h.elim
theorem pt_at {K : PySem.W.Frag} {H : Hp} : ∀ {xs : List V} {qs : List (List (Int × Int))}, PtRows K H xs qs → ∀ (i : Nat) (x : V), xs[i]? = some x → ∃ q a ys, qs[i]? = some q ∧ x = .ref a ∧ H a = some (.lst ys) ∧ PrsP K H ys q
  | [], [], _, i, x, h => by simp at h
  | x :: xs, q :: qs, ⟨⟨a, ys, h1, h2, h3⟩, h⟩, i, y, hy => by
    cases i with
    | zero =>
      simp at hy
      subst hy
      exact ⟨q, a, ys, rfl, h1, h2, h3⟩
    | succ i => exact pt_at h i y (by simpa using hy)
  | [], _ :: _, h, _, _, _ => h.elim
  | _ :: _, [], h, _, _, _ => h.elim
theorem prs_at {K : PySem.W.Frag} {H : Hp} : ∀ {xs : List V} {qs : List (Int × Int)}, PrsP K H xs qs → xs.length = qs.length ∧ ∀ (i : Nat) (x : V), xs[i]? = some x → ∃ q p, qs[i]? = some q ∧ x = .ref p ∧ PairAt K H p q
  | [], [], _ => ⟨rfl, fun i x h => by simp at h⟩
  | x :: xs, q :: qs, ⟨⟨p, h1, h2⟩, h⟩ => by
    obtain ⟨l, g⟩ := prs_at h
    refine ⟨by simp [l], fun i y hy => ?_⟩
    cases i with
    | zero =>
      simp at hy
      subst hy
      exact ⟨q, p, rfl, h1, h2⟩
    | succ i => exact g i y (by simpa using hy)
  | [], _ :: _, h => h.elim
  | _ :: _, [], h => h.elim
/-- rows stay where a list changes that is none of theirs: told by what rows are new -/
theorem pt_but {K : PySem.W.Frag} {L : Addr} {H : Hp} {zs : List V} {o : HO} (hl : H L = some (.lst zs)) : ∀ {xs : List V} {qs : List (List (Int × Int))}, (∀ x ∈ xs, x ≠ .ref L) → PtRows K H xs qs → PtRows K (upd H L o) xs qs
  | [], [], _, _ => trivial
  | x :: xs, _ :: _, n, ⟨⟨a, ys, h1, h2, h3⟩, h⟩ => ⟨⟨a, ys, h1, by rw [upd_ne (fun e => n x (by simp) (by rw [h1, e]))]; exact h2, prs_butR hl smx_upd h3⟩, pt_but hl (fun y hy => n y (List.mem_cons_of_mem _ hy)) h⟩
  | [], _ :: _, _, h => h.elim
  | _ :: _, [], _, h => h.elim
def LTab (K : PySem.W.Frag) (H : Hp) (r : Addr) (qss : List (List (Int × Int))) : Prop := ∃ xs, H r = some (.lst xs) ∧ PtRows K H xs qss
theorem lt_s {K : PySem.W.Frag} {H H' : Hp} {r : Addr} {qss : List (List (Int × Int))} (h : LTab K H r qss) (e : Same H H') : LTab K H' r qss := let ⟨xs, h1, h2⟩ := h; ⟨xs, e _ _ h1, pt_s e h2⟩
def NewLT (K : PySem.W.Frag) (H : Hp) (Q : VK) (qss : List (List (Int × Int))) : Prop := ∀ (H' : Hp) (r : Addr), Same H H' → H r = none → LTab K H' r qss → NewIn H H' r → Q (.ref r) H'
/-- a table as data -/
def tabD (qss : List (List (Int × Int))) : PyData := .list (qss.map fun qs => .list (qs.map dP))
theorem pt_dps {K : PySem.W.Frag} {H : Hp} : ∀ {xs : List V} {qs : List (List (Int × Int))}, PtRows K H xs qs → DpAll K H xs (qs.map fun q => .list (q.map dP))
  | [], [], _ => .nil
  | x :: xs, q :: qs, ⟨⟨a, ys, h1, h2, h3⟩, h⟩ => by
    rw [h1]
    exact .cons (.lst (sl_of h2) (prs_dps h3)) (pt_dps h)
  | [], _ :: _, h => h.elim
  | _ :: _, [], h => h.elim
theorem lt_dp {K : PySem.W.Frag} {H : Hp} {r : Addr} {qss : List (List (Int × Int))} (h : LTab K H r qss) : Dp K H (.ref r) (tabD qss) := let ⟨xs, h1, h2⟩ := h; .lst (sl_of h1) (pt_dps h2)
theorem eqvs_tab : ∀ {ps qs : List (List (Int × Int))}, PyData.eqvAll (ps.map fun q => .list (q.map dP)) (qs.map fun q => .list (q.map dP)) = decide (ps = qs)
  | [], [] => by simp [PyData.eqvAll]
  | [], q :: qs => by simp [PyData.eqvAll]
  | p :: ps, [] => by simp [PyData.eqvAll]
  | p :: ps, q :: qs => by
    show (PyData.eqv (.list (p.map dP)) (.list (q.map dP)) && PyData.eqvAll (ps.map fun q => .list (q.map dP)) (qs.map fun q => .list (q.map dP))) = _
    rw [eqv_prs, eqvs_tab]
    by_cases c1 : p = q <;> by_cases c2 : ps = qs <;> simp [c1, c2]
theorem eqv_tab {ps qs : List (List (Int × Int))} : PyData.eqv (tabD ps) (tabD qs) = decide (ps = qs) := by
  unfold tabD
  simp only [PyData.eqv]
  exact eqvs_tab
def Sums (qs rs : List (Int × Int)) : Prop := (∀ z ∈ prodsQ qs rs, Small z) ∧ ∀ i, i ≤ (prodsQ qs rs).length → Small (sumQ ((prodsQ qs rs).take i))
def spDotR (K : PySem.W.Frag) : Sp := fun vs H Q _ => ∃ (a b : Addr) (xs ys : List V) (qs rs : List (Int × Int)), vs = [.ref a, .ref b] ∧ SqL K H a xs ∧ PrsP K H xs qs ∧ SqL K H b ys ∧ PrsP K H ys rs ∧ qs.length = rs.length ∧ qs.length ≤ 60 ∧
  (∀ q ∈ qs, Small q) ∧ (∀ r ∈ rs, Small r) ∧ Sums qs rs ∧ ∀ H' r, Same H H' → PairAt K H' r (sumQ (prodsQ qs rs)) → Q (.ref r) H'
def spColR (K : PySem.W.Frag) : Sp := fun vs H Q _ => ∃ (a : Addr) (n : Nat) (qss : List (List (Int × Int))), vs = [.ref a] ∧ LTab K H a qss ∧ qss.length = n ∧ (∀ qs ∈ qss, qs.length = n) ∧ 0 < n ∧ n ≤ 60 ∧ NewLT K H Q (colsQ n qss)
def spLedR (K : PySem.W.Frag) : Sp := fun vs H Q _ => ∃ (a b : Addr) (n : Nat) (xs : List V) (qs : List (Int × Int)) (rss : List (List (Int × Int))), vs = [.ref a, .ref b] ∧ H a = some (.lst xs) ∧ PrsP K H xs qs ∧ qs.length = n ∧ LTab K H b rss ∧ rss.length = n ∧ (∀ rs ∈ rss, rs.length = n) ∧ 0 < n ∧ n ≤ 60 ∧
  (∀ q ∈ qs, Small q) ∧ (∀ cs ∈ colsQ n rss, (∀ r ∈ cs, Small r) ∧ Sums qs cs) ∧ ∀ (H' : Hp) (r : Addr) (ys : List V), Same H H' → H r = none → H' r = some (.lst ys) → PrsP K H' ys ((colsQ n rss).map fun cs => sumQ (prodsQ qs cs)) → Q (.ref r) H'
def spTimR (K : PySem.W.Frag) : Sp := fun vs H Q _ => ∃ (a b : Addr) (n : Nat) (qss rss : List (List (Int × Int))), vs = [.ref a, .ref b] ∧ LTab K H a qss ∧ LTab K H b rss ∧ qss.length = n ∧ rss.length = n ∧ (∀ qs ∈ qss, qs.length = n) ∧ (∀ qs ∈ rss, qs.length = n) ∧ 0 < n ∧ n ≤ 60 ∧
  (∀ qs ∈ qss, (∀ q ∈ qs, Small q) ∧ ∀ cs ∈ colsQ n rss, (∀ r ∈ cs, Small r) ∧ Sums qs cs) ∧ NewLT K H Q (timesQ n qss rss)
def spIdleR (K : PySem.W.Frag) : Sp := fun vs H Q _ => ∃ n : Nat, vs = [.int n] ∧ n ≤ 60 ∧ NewLT K H Q (idleQ n)
section
variable {P : Program} {w : World} {K : PySem.W.Frag} {mg : Str → Option Value} {base : Heap}
abbrev nDotR : List Str := ["_law_row_here", "_law_other", "_law_near", "_law_far"]
theorem sc_dotR : FnScope nDotR ["_law_row_here", "_law_other"] (defScope sDotR) := ⟨rfl, rfl, rfl, by decide +kernel, rfl, by decide +kernel, by decide +kernel⟩
theorem ok_dotR {f f1 f2 : Addr} {fd fd1 fd2 : FuncData} (F : Fun K "_law_dot" "_law_dot" sDotR f fd) (D1 : Df K mg "_law_total" sTotR ["_law_some"] f1 fd1) (G1 : FnOk P w K mg base CX0 3 f1 fd1 ["_law_some"] (spTotR K)) (D2 : Df K mg "_law_by" sByR ["_law_one", "_law_other"] f2 fd2) (G2 : FnOk P w K mg base CX0 2 f2 fd2 ["_law_one", "_law_other"] (spTwoR K mulQ)) (B : Bl mg) :
    FnOk P w K mg base CX0 4 f fd ["_law_row_here", "_law_other"] (spDotR K) := by
  refine F.ok sc_dotR (fun vs H Q E h => ?_) (fun cdv A outer s H vs Q E hr h => ?_)
  · obtain ⟨a, b, xs, ys, qs, rs, rfl, _⟩ := h
    rfl
  · obtain ⟨a, b, xs, ys, qs, rs, rfl, ha, hA, hb, hB, hl, few, sq, sr, ⟨sp, ss⟩, q⟩ := h
    refine ⟨_, pss_one (ps_ret (pe_call G1 hr rfl D1.g D1.F.kp D1.b .nil pass0 (pa_cons
      (pe_lc (own := [("_law_near", 2), ("_law_far", 3)]) (g := gTup K 2 (gCons (gName 2) (gCons (gName 3) gNil))) (tt := tYes) (te := tCall (spTwoR K mulQ) [] E0 (tCons (tVar 2) (tCons (tVar 3) tNil))) rfl sc_dotR.nd (ZmX.pi_zipB (by rfl) B.zip (pa_cons (pv 0) (pa_cons (pv 1) pa_nil))) (blkOk_by (N := nDotR) (sc := defScope sDotR) (by decide +kernel))
        (fun _ _ _ _ _ => pg_tup rfl (pgs_cons (pg_name (i := 2) sc_dotR.nd rfl (Or.inl rfl)) (pgs_cons (pg_name (i := 3) sc_dotR.nd rfl (Or.inl rfl)) pgs_nil))) (fun _ _ _ _ _ => pts_nil)
        (fun _ _ _ _ _ => pe_call G2 (hr.mono (by decide)) rfl D2.g D2.F.kp D2.b .nil pass0 (pa_cons (pv 2) (pa_cons (pv 3) pa_nil)))) pa_nil))), ?_⟩
    have lx := (prs_at hA).1
    have ly := (prs_at hB).1
    have lp : (prodsQ qs rs).length = qs.length := by unfold prodsQ; rw [List.length_zipWith]; omega
    refine ⟨_, rfl, _, rfl, false, false, a, b, xs, ys, rfl, ha, hb, fun D hD => ?_⟩
    refine ZmX.lc_zipB (t := false) (u := false) (H0 := H) (by omega) ha hb (fun k G => Same H G ∧ ∃ acc, G D = some (.lst acc) ∧ PrsP K G acc ((prodsQ qs rs).take k)) ⟨same_new hD, [], upd_same, by simp [PrsP]⟩ (fun k G _ p => p.1) ?_ ?_
    · rintro i x y T G hx hy ⟨sG, acc, hacc, hP⟩ hT
      obtain ⟨q1, p1, hq1, rfl, h1⟩ := (prs_at hA).2 i x hx
      obtain ⟨q2, p2, hq2, rfl, h2⟩ := (prs_at hB).2 i y hy
      have hi := lt_of_at hq1
      have sT := same_new (o := .tup [V.ref p1, V.ref p2]) hT
      have hpr : (prodsQ qs rs)[i]? = some (mulQ q1 q2) := by unfold prodsQ; rw [List.getElem?_zipWith, hq1, hq2]
      have fewk := (prs_at hP).1
      have : ((prodsQ qs rs).take i).length ≤ 60 := by rw [List.length_take]; omega
      refine ⟨T, _, rfl, st_of upd_same, rfl, _, _, rfl, _, _, rfl, rfl, rfl, ?_⟩
      refine ⟨_, rfl, _, rfl, p1, p2, q1, q2, rfl, pair_sR h1 (sG.trans sT), pair_sR h2 (sG.trans sT), sq q1 (List.mem_of_getElem? hq1), sr q2 (List.mem_of_getElem? hq2), fun G2 r s2 _ hr2 => ?_⟩
      refine ⟨acc, s2 _ _ (sT _ _ hacc), szlt (by omega), same_mut ((sG.trans sT).trans s2) hD, acc ++ [.ref r], upd_same, ?_⟩
      rw [take_at hpr]
      exact prs_butR (s2 _ _ (sT _ _ hacc)) smx_upd (prs_appR (prs_sR (sT.trans s2) hP) ⟨⟨r, rfl, hr2⟩, trivial⟩)
    · rintro G ⟨sG, acc, hacc, hP⟩
      rw [show (prodsQ qs rs).take xs.length = prodsQ qs rs by rw [lx, ← lp, List.take_length]] at hP
      obtain ⟨e1, e2⟩ := prs_at hP
      refine ⟨D, acc, prodsQ qs rs, rfl, sl_of hacc, e1, fun i x z hx hz => ?_, ss, fun H' r s' h => q H' r (sG.trans s') h⟩
      obtain ⟨z', p, hz', rfl, hp⟩ := e2 i x hx
      rw [hz] at hz'
      cases hz'
      exact ⟨p, rfl, hp, sp z (List.mem_of_getElem? hz)⟩
abbrev nColR : List Str := ["_law_table_here", "_law_place", "_law_row_here"]
theorem sc_colR : FnScope nColR ["_law_table_here"] (defScope sColR) := ⟨rfl, rfl, rfl, by decide +kernel, rfl, by decide +kernel, by decide +kernel⟩
theorem ok_colR {f : Addr} {fd : FuncData} (F : Fun K "_law_columns" "_law_columns" sColR f fd) (B : Bl mg) : FnOk P w K mg base CX0 1 f fd ["_law_table_here"] (spColR K) := by
  refine F.ok sc_colR (fun vs H Q E h => ?_) (fun cdv A outer s H vs Q E hr h => ?_)
  · obtain ⟨a, n, qss, rfl, _⟩ := h
    rfl
  · obtain ⟨a, n, qss, rfl, ⟨xs, ha, hP⟩, ln, lr, n0, few, q⟩ := h
    refine ⟨_, pss_one (ps_ret (pe_lc (own := [("_law_place", 1)]) (g := gName 1) (tt := tYes) (te := tLc (iList K (tVar 0)) (gName 2) tYes (tOp (rIxL K) (tVar 2) (tVar 1)) [2]) rfl sc_colR.nd
      (pi_range1 rfl B.range (pa_cons (pe_callB call_len_seq (by rfl) B.len PySem.boot_len (pa_cons (pe_ix ix_list (pv 0) pe_int (fun _ _ => rfl)) pa_nil)) pa_nil)) (blkOk_by (N := nColR) (sc := defScope sColR) (by decide +kernel))
      (fun _ _ _ _ _ => pg_name (i := 1) sc_colR.nd rfl (Or.inr rfl)) (fun _ _ _ _ _ => pts_nil)
      (fun _ _ _ _ _ => pe_lc (own := [("_law_row_here", 2)]) (g := gName 2) (tt := tYes) (te := tOp (rIxL K) (tVar 2) (tVar 1)) rfl sc_colR.nd (pi_list (pv 0)) (blkOk_by (N := nColR) (sc := { kind := .function, names := [(".0", .local), ("_law_place", .cell), ("_law_table_here", .cell)], isGenerator := false, isCoroutine := false }) (by decide +kernel))
        (fun _ _ _ _ _ => pg_name (i := 2) sc_colR.nd rfl (Or.inl rfl)) (fun _ _ _ _ _ => pts_nil) (fun _ _ _ _ _ => pe_ix ix_list (pv 2) (pv 1) (fun _ _ => rfl))))), ?_⟩
    have lx := pt_len hP
    have h0 : (0 : Nat) < xs.length := by omega
    obtain ⟨q0, a0, ys0, e1, e2, e3, e4⟩ := pt_at hP 0 _ (List.getElem?_eq_getElem h0)
    have l0 : ys0.length = n := by rw [(prs_at e4).1]; exact lr q0 (List.mem_of_getElem? e1)
    refine ⟨_, rfl, a, xs, 0, _, rfl, rfl, sl_of ha, atI_nat (j := 0) (List.getElem?_eq_getElem h0), a0, ys0, by rw [e2], .inl (sl_of e3), n, by rw [l0], by omega, by omega, fun D hD => ?_⟩
    rw [Int.toNat_natCast]
    have lc : (colsQ n qss).length = n := by unfold colsQ; simp
    refine lc_range (lo := 0) (n := n) (fun k G => Same H G ∧ ∃ acc, G D = some (.lst acc) ∧ PtRows K G acc ((colsQ n qss).take k) ∧ NewL H acc ∧ ∀ x ∈ acc, x ≠ .ref D) ⟨same_new hD, [], upd_same, by simp [PtRows], newl_nil, fun x h => nomatch h⟩ ?_ ?_
    · rintro k G hk ⟨sG, acc, hacc, hQ, hN, hne⟩
      refine ⟨rfl, _, rfl, a, rfl, ⟨xs, sl_of (sG _ _ ha)⟩, fun D2 hD2 => ?_⟩
      have nDD : D2 ≠ D := fun e => by rw [e, hacc] at hD2; cases hD2
      have hcol : (colsQ n qss)[k]? = some (qss.map fun qs => qs[k]?.getD (0, 1)) := by unfold colsQ; simp [hk]
      have fewk := pt_len hQ
      have : ((colsQ n qss).take k).length ≤ 60 := by rw [List.length_take]; omega
      refine lc_list (xs := xs) (fun j G2 => Same G G2 ∧ ∃ ac, G2 D2 = some (.lst ac) ∧ PrsP K G2 ac ((qss.map fun qs => qs[k]?.getD (0, 1)).take j)) ⟨same_new hD2, [], upd_same, by simp [PrsP]⟩ (fun j G2 _ p => sl_of ((sG.trans p.1) _ _ ha)) ?_ ?_
      · rintro j y G2 hy ⟨s2, ac, hac, hQ2⟩
        obtain ⟨q1, b, zs, f1, rfl, f3, f4⟩ := pt_at (pt_s (sG.trans s2) hP) j y hy
        have lz := (prs_at f4).1
        have lq := lr q1 (List.mem_of_getElem? f1)
        obtain ⟨w', hw⟩ : ∃ w', zs[k]? = some w' := ⟨_, List.getElem?_eq_getElem (by omega)⟩
        obtain ⟨z, p, hz, rfl, hp⟩ := (prs_at f4).2 k w' hw
        have fewj := (prs_at hQ2).1
        have hj := lt_of_at hy
        have : ((qss.map fun qs => qs[k]?.getD ((0 : Int), (1 : Int))).take j).length ≤ 60 := by rw [List.length_take, List.length_map]; omega
        refine ⟨rfl, _, rfl, _, rfl, b, zs, _, _, rfl, rfl, sl_of f3, place_ix (n := 0) hw, ?_⟩
        refine ⟨ac, hac, szlt (by omega), same_mut s2 hD2, ac ++ [.ref p], upd_same, ?_⟩
        rw [take_at (x := z) (by rw [List.getElem?_map, f1]; show some (q1[k]?.getD (0, 1)) = _; rw [hz]; rfl)]
        exact prs_butR hac smx_upd (prs_appR hQ2 ⟨⟨p, rfl, hp⟩, trivial⟩)
      · rintro G2 ⟨s2, ac, hac, hQ2⟩
        rw [show (qss.map fun qs => qs[k]?.getD ((0 : Int), (1 : Int))).take xs.length = qss.map fun qs => qs[k]?.getD (0, 1) from List.take_of_length_le (by rw [List.length_map]; omega)] at hQ2
        refine ⟨acc, s2 _ _ hacc, szlt (by omega), same_mut (sG.trans s2) hD, acc ++ [.ref D2], upd_same, ?_, newl_put hN (sG.free hD2), fun x hx => ?_⟩
        · rw [take_at hcol]
          refine pt_app (pt_but (s2 _ _ hacc) hne (pt_s s2 hQ)) ⟨⟨D2, ac, rfl, by rw [upd_ne nDD]; exact hac, prs_butR (s2 _ _ hacc) smx_upd hQ2⟩, trivial⟩
        · rcases List.mem_append.mp hx with z | z
          · exact hne x z
          · rw [List.mem_singleton.mp z]
            intro e
            injection e with e
            exact nDD e
    · rintro G ⟨sG, acc, hacc, hQ, hN, hne⟩
      rw [show (colsQ n qss).take n = colsQ n qss from List.take_of_length_le (by omega)] at hQ
      exact q G D sG hD ⟨acc, hacc, hQ⟩ ⟨acc, hacc, hN⟩
abbrev nLedR : List Str := ["_law_row_here", "_law_table_here", "_law_column"]
theorem sc_ledR : FnScope nLedR ["_law_row_here", "_law_table_here"] (defScope sLedR) := ⟨rfl, rfl, rfl, by decide +kernel, rfl, by decide +kernel, by decide +kernel⟩
theorem ok_ledR {f f1 f2 : Addr} {fd fd1 fd2 : FuncData} (F : Fun K "_law_led" "_law_led" sLedR f fd) (D1 : Df K mg "_law_columns" sColR ["_law_table_here"] f1 fd1) (G1 : FnOk P w K mg base CX0 1 f1 fd1 ["_law_table_here"] (spColR K)) (D2 : Df K mg "_law_dot" sDotR ["_law_row_here", "_law_other"] f2 fd2) (G2 : FnOk P w K mg base CX0 4 f2 fd2 ["_law_row_here", "_law_other"] (spDotR K)) :
    FnOk P w K mg base CX0 5 f fd ["_law_row_here", "_law_table_here"] (spLedR K) := by
  refine F.ok sc_ledR (fun vs H Q E h => ?_) (fun cdv A outer s H vs Q E hr h => ?_)
  · obtain ⟨a, b, n, xs, qs, rss, rfl, _⟩ := h
    rfl
  · obtain ⟨a, b, n, xs, qs, rss, rfl, ha, hA, lq, hB, lr, lrr, n0, few, sq, sc, q⟩ := h
    refine ⟨_, pss_one (ps_ret (pe_lc (own := [("_law_column", 2)]) (g := gName 2) (tt := tYes) (te := tCall (spDotR K) [] E0 (tCons (tVar 0) (tCons (tVar 2) tNil))) rfl sc_ledR.nd (pi_list (pe_call G1 (hr.mono (by decide)) rfl D1.g D1.F.kp D1.b .nil pass0 (pa_cons (pv 1) pa_nil))) (blkOk_by (N := nLedR) (sc := defScope sLedR) (by decide +kernel))
      (fun _ _ _ _ _ => pg_name (i := 2) sc_ledR.nd rfl (Or.inl rfl)) (fun _ _ _ _ _ => pts_nil)
      (fun _ _ _ _ _ => pe_call G2 hr rfl D2.g D2.F.kp D2.b .nil pass0 (pa_cons (pv 0) (pa_cons (pv 2) pa_nil))))), ?_⟩
    refine ⟨_, rfl, b, n, rss, rfl, hB, lr, lrr, n0, few, fun H1 r s1 _ ⟨ys, hy, hP⟩ _ => ⟨r, rfl, ⟨ys, sl_of hy⟩, fun D hD => ?_⟩⟩
    have lc : (colsQ n rss).length = n := by unfold colsQ; simp
    have ly := pt_len hP
    have lcs : ∀ cs ∈ colsQ n rss, cs.length = n := fun cs hcs => by
      unfold colsQ at hcs
      obtain ⟨j, _, rfl⟩ := List.mem_map.mp hcs
      rw [List.length_map]
      exact lr
    refine lc_list (xs := ys) (fun k G => Same H1 G ∧ ∃ acc, G D = some (.lst acc) ∧ PrsP K G acc (((colsQ n rss).map fun cs => sumQ (prodsQ qs cs)).take k)) ⟨same_new hD, [], upd_same, by simp [PrsP]⟩ (fun j G2 _ p => sl_of (p.1 _ _ hy)) ?_ ?_
    · rintro k y G hyk ⟨sG, acc, hacc, hQ⟩
      obtain ⟨cs, c, zs, f1, rfl, f3, f4⟩ := pt_at (pt_s sG hP) k y hyk
      have mc := List.mem_of_getElem? f1
      have fewk := (prs_at hQ).1
      have : (((colsQ n rss).map fun cs => sumQ (prodsQ qs cs)).take k).length ≤ 60 := by rw [List.length_take, List.length_map]; omega
      refine ⟨rfl, _, rfl, _, rfl, a, c, xs, zs, qs, cs, rfl, sl_of ((s1.trans sG) _ _ ha), prs_sR (s1.trans sG) hA, sl_of f3, f4, by rw [lq, lcs cs mc], by omega, sq, (sc cs mc).1, (sc cs mc).2, fun G2 p s2 hp => ?_⟩
      refine ⟨acc, s2 _ _ hacc, szlt (by omega), same_mut (sG.trans s2) hD, acc ++ [.ref p], upd_same, ?_⟩
      rw [take_at (x := sumQ (prodsQ qs cs)) (by rw [List.getElem?_map, f1]; rfl)]
      exact prs_butR (s2 _ _ hacc) smx_upd (prs_appR (prs_sR s2 hQ) ⟨⟨p, rfl, hp⟩, trivial⟩)
    · rintro G ⟨sG, acc, hacc, hQ⟩
      rw [show ((colsQ n rss).map fun cs => sumQ (prodsQ qs cs)).take ys.length = (colsQ n rss).map fun cs => sumQ (prodsQ qs cs) from List.take_of_length_le (by rw [List.length_map]; omega)] at hQ
      exact q G D acc (s1.trans sG) (s1.free hD) hacc hQ
abbrev nTimR : List Str := ["_law_table_here", "_law_other", "_law_row_here"]
theorem sc_timR : FnScope nTimR ["_law_table_here", "_law_other"] (defScope sTimR) := ⟨rfl, rfl, rfl, by decide +kernel, rfl, by decide +kernel, by decide +kernel⟩
theorem ok_timR {f f1 : Addr} {fd fd1 : FuncData} (F : Fun K "_law_times" "_law_times" sTimR f fd) (D1 : Df K mg "_law_led" sLedR ["_law_row_here", "_law_table_here"] f1 fd1) (G1 : FnOk P w K mg base CX0 5 f1 fd1 ["_law_row_here", "_law_table_here"] (spLedR K)) :
    FnOk P w K mg base CX0 6 f fd ["_law_table_here", "_law_other"] (spTimR K) := by
  refine F.ok sc_timR (fun vs H Q E h => ?_) (fun cdv A outer s H vs Q E hr h => ?_)
  · obtain ⟨a, b, n, qss, rss, rfl, _⟩ := h
    rfl
  · obtain ⟨a, b, n, qss, rss, rfl, ⟨xs, ha, hA⟩, hB, lq, lr, lqq, lrr, n0, few, sc, q⟩ := h
    refine ⟨_, pss_one (ps_ret (pe_lc (own := [("_law_row_here", 2)]) (g := gName 2) (tt := tYes) (te := tCall (spLedR K) [] E0 (tCons (tVar 2) (tCons (tVar 1) tNil))) rfl sc_timR.nd (pi_list (pv 0)) (blkOk_by (N := nTimR) (sc := defScope sTimR) (by decide +kernel))
      (fun _ _ _ _ _ => pg_name (i := 2) sc_timR.nd rfl (Or.inl rfl)) (fun _ _ _ _ _ => pts_nil)
      (fun _ _ _ _ _ => pe_call G1 hr rfl D1.g D1.F.kp D1.b .nil pass0 (pa_cons (pv 2) (pa_cons (pv 1) pa_nil))))), ?_⟩
    have lx := pt_len hA
    refine ⟨_, rfl, a, rfl, ⟨xs, sl_of ha⟩, fun D hD => ?_⟩
    have lt : (timesQ n qss rss).length = n := by unfold timesQ; rw [List.length_map]; exact lq
    refine lc_list (xs := xs) (fun k G => Same H G ∧ ∃ acc, G D = some (.lst acc) ∧ PtRows K G acc ((timesQ n qss rss).take k) ∧ NewL H acc ∧ ∀ x ∈ acc, x ≠ .ref D) ⟨same_new hD, [], upd_same, by simp [PtRows], newl_nil, fun x h => nomatch h⟩ (fun j G2 _ p => sl_of (p.1 _ _ ha)) ?_ ?_
    · rintro k x G hx ⟨sG, acc, hacc, hQ, hN, hne⟩
      obtain ⟨q1, b1, zs, f1, rfl, f3, f4⟩ := pt_at (pt_s sG hA) k x hx
      have m1 := List.mem_of_getElem? f1
      have fewk := pt_len hQ
      have : ((timesQ n qss rss).take k).length ≤ 60 := by rw [List.length_take]; omega
      refine ⟨rfl, _, rfl, _, rfl, b1, b, n, zs, q1, rss, rfl, f3, f4, lqq q1 m1, lt_s hB sG, lr, lrr, n0, few, (sc q1 m1).1, (sc q1 m1).2, fun G2 r ys s2 hr0 hr2 hP2 => ?_⟩
      have nrD : r ≠ D := fun e => by rw [e, hacc] at hr0; cases hr0
      refine ⟨acc, s2 _ _ hacc, szlt (by omega), same_mut (sG.trans s2) hD, acc ++ [.ref r], upd_same, ?_, newl_put hN (sG.free hr0), fun x hx => ?_⟩
      · rw [take_at (x := (colsQ n rss).map fun cs => sumQ (prodsQ q1 cs)) (by unfold timesQ; rw [List.getElem?_map, f1]; rfl)]
        exact pt_app (pt_but (s2 _ _ hacc) hne (pt_s s2 hQ)) ⟨⟨r, ys, rfl, by rw [upd_ne nrD]; exact hr2, prs_butR (s2 _ _ hacc) smx_upd hP2⟩, trivial⟩
      · rcases List.mem_append.mp hx with z | z
        · exact hne x z
        · rw [List.mem_singleton.mp z]
          intro e
          injection e with e
          exact nrD e
    · rintro G ⟨sG, acc, hacc, hQ, hN, hne⟩
      rw [show (timesQ n qss rss).take xs.length = timesQ n qss rss from List.take_of_length_le (by omega)] at hQ
      exact q G D sG hD ⟨acc, hacc, hQ⟩ ⟨acc, hacc, hN⟩
abbrev nIdleR : List Str := ["_law_size", "_law_at", "_law_to"]
theorem sc_idleR : FnScope nIdleR ["_law_size"] (defScope sIdleR) := ⟨rfl, rfl, rfl, by decide +kernel, rfl, by decide +kernel, by decide +kernel⟩
abbrev teIdle : L2.TE := tTup (tCons (tCB (fun xs H Q => (∃ i, xs = [V.int i] ∧ Q (.int i) H) ∨ ∃ k, xs = [V.bl k] ∧ Q (.int (if k then 1 else 0)) H) (tCons (tOp rEq (tVar 1) (tVar 2)) tNil)) (tCons (tC (.int 1)) tNil))
theorem ok_idleR {f : Addr} {fd : FuncData} (F : Fun K "_law_idle" "_law_idle" sIdleR f fd) (B : Bl mg) : FnOk P w K mg base CX0 1 f fd ["_law_size"] (spIdleR K) := by
  refine F.ok sc_idleR (fun vs H Q E h => ?_) (fun cdv A outer s H vs Q E hr h => ?_)
  · obtain ⟨n, rfl, _⟩ := h
    rfl
  · obtain ⟨n, rfl, n6, q⟩ := h
    refine ⟨_, pss_one (ps_ret (pe_lc (own := [("_law_at", 1)]) (g := gName 1) (tt := tYes) (te := tLc (iRng1 (tCons (tVar 0) tNil)) (gName 2) tYes teIdle [2]) rfl sc_idleR.nd (pi_range1 rfl B.range (pa_cons (pv 0) pa_nil)) (blkOk_by (N := nIdleR) (sc := defScope sIdleR) (by decide +kernel))
      (fun _ _ _ _ _ => pg_name (i := 1) sc_idleR.nd rfl (Or.inr rfl)) (fun _ _ _ _ _ => pts_nil)
      (fun _ _ _ _ _ => pe_lc (own := [("_law_to", 2)]) (g := gName 2) (tt := tYes) (te := teIdle) rfl sc_idleR.nd (pi_range1 rfl B.range (pa_cons (pv 0) pa_nil)) (blkOk_by (N := nIdleR) (sc := { kind := .function, names := [(".0", .local), ("_law_at", .cell), ("range", .globalImplicit), ("_law_size", .cell)], isGenerator := false, isCoroutine := false }) (by decide +kernel))
        (fun _ _ _ _ _ => pg_name (i := 2) sc_idleR.nd rfl (Or.inl rfl)) (fun _ _ _ _ _ => pts_nil)
        (fun _ _ _ _ _ => pe_tup (pa_cons (pe_callTy call_int1 (by rfl) B.int PyProof.Rows.boot_int (pa_cons (pe_cmpR op_eq (pv 1) (pv 2) (nomark _)) pa_nil)) (pa_cons pe_int pa_nil)))))), ?_⟩
    refine ⟨_, rfl, n, rfl, by omega, by omega, fun D hD => ?_⟩
    rw [Int.toNat_natCast]
    have li : (idleQ n).length = n := tabQ_len
    refine lc_range (lo := 0) (n := n) (fun k G => Same H G ∧ ∃ acc, G D = some (.lst acc) ∧ PtRows K G acc ((idleQ n).take k) ∧ NewL H acc ∧ ∀ x ∈ acc, x ≠ .ref D) ⟨same_new hD, [], upd_same, by simp [PtRows], newl_nil, fun x h => nomatch h⟩ ?_ ?_
    · rintro k G hk ⟨sG, acc, hacc, hQ, hN, hne⟩
      refine ⟨rfl, _, rfl, n, rfl, by omega, by omega, fun D2 hD2 => ?_⟩
      rw [Int.toNat_natCast]
      have nDD : D2 ≠ D := fun e => by rw [e, hacc] at hD2; cases hD2
      have hcol : (idleQ n)[k]? = some ((List.range n).map fun j => if k = j then ((1 : Int), (1 : Int)) else (0, 1)) := tabQ_at hk
      have fewk := pt_len hQ
      have : ((idleQ n).take k).length ≤ 60 := by rw [List.length_take]; omega
      refine lc_range (lo := 0) (n := n) (fun j G2 => Same G G2 ∧ ∃ ac, G2 D2 = some (.lst ac) ∧ PrsP K G2 ac (((List.range n).map fun j => if k = j then ((1 : Int), (1 : Int)) else (0, 1)).take j)) ⟨same_new hD2, [], upd_same, by simp [PrsP]⟩ ?_ ?_
      · rintro j G2 hj ⟨s2, ac, hac, hQ2⟩
        have fewj := (prs_at hQ2).1
        have : (((List.range n).map fun j => if k = j then ((1 : Int), (1 : Int)) else (0, 1)).take j).length ≤ 60 := by rw [List.length_take, List.length_map, List.length_range]; omega
        refine ⟨rfl, _, rfl, _, rfl, rfl, .inr ⟨_, rfl, szle (by show 2 ≤ 100000; decide), fun t ht => ?_⟩⟩
        have e : decide (V.int (0 + (k : Nat)) = V.int (0 + (j : Nat))) = decide (k = j) := by
          by_cases c : k = j
          · rw [decide_eq_true c, c]; simp
          · rw [decide_eq_false c]
            exact decide_eq_false fun z => c (by have := V.int.inj z; omega)
        rw [e]
        have st := same_new (o := .tup [.int (if decide (k = j) = true then 1 else 0), .int 1]) ht
        refine ⟨ac, st _ _ hac, szlt (by omega), same_mut (s2.trans st) hD2, ac ++ [.ref t], upd_same, ?_⟩
        rw [take_at (x := if k = j then ((1 : Int), (1 : Int)) else (0, 1)) (by simp [hj])]
        refine prs_butR (st _ _ hac) smx_upd (prs_appR (prs_sR st hQ2) ⟨⟨t, rfl, ?_⟩, trivial⟩)
        by_cases c : k = j
        · subst c
          rw [if_pos rfl]
          exact st_of (by rw [upd_same]; simp)
        · rw [if_neg c]
          exact st_of (by rw [upd_same]; simp [c])
      · rintro G2 ⟨s2, ac, hac, hQ2⟩
        rw [show ((List.range n).map fun j => if k = j then ((1 : Int), (1 : Int)) else (0, 1)).take n = (List.range n).map fun j => if k = j then ((1 : Int), (1 : Int)) else (0, 1) from List.take_of_length_le (by simp)] at hQ2
        refine ⟨acc, s2 _ _ hacc, szlt (by omega), same_mut (sG.trans s2) hD, acc ++ [.ref D2], upd_same, ?_, newl_put hN (sG.free hD2), fun x hx => ?_⟩
        · rw [take_at hcol]
          refine pt_app (pt_but (s2 _ _ hacc) hne (pt_s s2 hQ)) ⟨⟨D2, ac, rfl, by rw [upd_ne nDD]; exact hac, prs_butR (s2 _ _ hacc) smx_upd hQ2⟩, trivial⟩
        · rcases List.mem_append.mp hx with z | z
          · exact hne x z
          · rw [List.mem_singleton.mp z]
            intro e
            injection e with e
            exact nDD e
    · rintro G ⟨sG, acc, hacc, hQ, hN, hne⟩
      rw [show (idleQ n).take n = idleQ n from List.take_of_length_le (by omega)] at hQ
      exact q G D sG hD ⟨acc, hacc, hQ⟩ ⟨acc, hacc, hN⟩
end
end Tk

namespace Tk
open PySem PySem.Spec PyProof.Rows L2
/-! ## a heap without two of its places -/
def xr (a D : Addr) (H : Hp) : Hp := fun b => if b = a ∨ b = D then none else H b
theorem xr_le {a D : Addr} {H : Hp} : Same (xr a D H) H := fun b o h => by
  unfold xr at h
  split at h
  · cases h
  · exact h
theorem xr_get {a D b : Addr} {H : Hp} {o : HO} (h1 : b ≠ a) (h2 : b ≠ D) (h : H b = some o) : xr a D H b = some o := by
  unfold xr
  rw [if_neg (by rintro (h | h); exact h1 h; exact h2 h)]
  exact h
theorem xr_x {a D : Addr} {H H' : Hp} (e : SmX a H H') : Same (xr a D H) (xr a D H') := fun b o h => by
  unfold xr at h ⊢
  split at h
  · cases h
  · rename_i c
    rw [if_neg c]
    exact e b o (fun z => c (.inl z)) h
theorem xr_s {a D : Addr} {H H' : Hp} (e : Same H H') : Same (xr a D H) (xr a D H') := xr_x (smx_of e)
theorem xr_up {a D : Addr} {H : Hp} {o : HO} : Same (xr a D H) (xr a D (upd H D o)) := fun b o' h => by
  unfold xr at h ⊢
  split at h
  · cases h
  · rename_i c
    rw [if_neg c, upd_ne (fun z => c (.inr z))]
    exact h
theorem xr_new {a D : Addr} {H : Hp} {o : HO} (hD : H D = none) : Same (xr a a H) (xr a D (upd H D o)) := fun b o' h => by
  unfold xr at h ⊢
  split at h
  · cases h
  · rename_i c
    have nb : b ≠ D := fun z => by rw [z, hD] at h; cases h
    rw [if_neg (by rintro (z | z); exact c (.inl z); exact nb z), upd_ne nb]
    exact h
theorem xr_sub {a D : Addr} {H : Hp} : Same (xr a D H) (xr a a H) := fun b o h => by
  unfold xr at h ⊢
  split at h
  · cases h
  · rename_i c
    rw [if_neg (fun z => c (.inl (z.elim id id)))]
    exact h
theorem xr_ne {a D b : Addr} {H : Hp} {o : HO} (h : xr a D H b = some o) : b ≠ a ∧ b ≠ D := by
  unfold xr at h
  split at h
  · cases h
  · rename_i c
    exact ⟨fun z => c (.inl z), fun z => c (.inr z)⟩
theorem potF {H : Hp} {a c : Addr} (p : Pot H a) (h : H c = none) : c ≠ a := fun e => by obtain ⟨u, v, g, _⟩ := p; rw [e, g] at h; cases h
theorem potS {G G' : Hp} {a : Addr} (h : Pot G a) (e : Same G G') : Pot G' a := let ⟨x, y, g, o⟩ := h; ⟨x, y, e _ _ g, o⟩
theorem potU {G : Hp} {a D : Addr} {o : HO} (h : Pot G a) (n : D ≠ a) : Pot (upd G D o) a := let ⟨x, y, g, z⟩ := h; ⟨x, y, by rw [upd_ne n.symm]; exact g, z⟩
theorem smxU {H G : Hp} {a D : Addr} {o : HO} (h : SmX a H G) (n : H D = none) : SmX a H (upd G D o) := fun b z nb hb => by
  rw [upd_ne (fun e => by rw [e, n] at hb; cases hb)]
  exact h b z nb hb
theorem smxF {H G : Hp} {a D : Addr} (h : SmX a H G) (n : D ≠ a) (hD : G D = none) : H D = none := smx_free h n hD
end Tk

namespace Tk
open PySem PySem.Spec PyProof.Rows L2
/-! ## the law's own walks within a lot -/
def freshU (as : List (Int × Int)) (l fo : List Int) (x : Int) : List Int := (as.filter fun p => decide (p.2 = x) && decide (p.1 ∈ l) && !decide (p.1 ∈ fo)).map (·.1)
theorem mem_freshU {as : List (Int × Int)} {l fo : List Int} {x y : Int} : y ∈ freshU as l fo x ↔ (x, y) ∈ upLaw as l ∧ y ∉ fo := by
  rw [mem_upLaw]
  unfold freshU
  simp only [List.mem_map, List.mem_filter, Bool.and_eq_true, decide_eq_true_eq, Bool.not_eq_true', decide_eq_false_iff_not]
  constructor
  · rintro ⟨⟨a, b⟩, ⟨h1, ⟨h2, h3⟩, h4⟩, rfl⟩
    simp at h2
    subst h2
    exact ⟨⟨h1, h3⟩, h4⟩
  · rintro ⟨⟨h1, h2⟩, h3⟩
    exact ⟨(y, x), ⟨h1, ⟨rfl, h2⟩, h3⟩, rfl⟩
theorem freshU_nd {as : List (Int × Int)} (hn : as.Nodup) (l fo : List Int) (x : Int) : (freshU as l fo x).Nodup := by
  unfold freshU
  show List.Pairwise _ _
  rw [List.pairwise_map]
  have h : (as.filter fun p => decide (p.2 = x) && decide (p.1 ∈ l) && !decide (p.1 ∈ fo)).Nodup := hn.filter _
  refine List.Pairwise.imp_of_mem (fun {a b} ha hb hne e => hne ?_) h
  have h1 := (List.mem_filter.mp ha).2
  have h2 := (List.mem_filter.mp hb).2
  simp at h1 h2
  exact Prod.ext e (h1.1.1.trans h2.1.1.symm)
theorem freshU_len (as : List (Int × Int)) (l fo : List Int) (x : Int) : (freshU as l fo x).length ≤ as.length := by
  unfold freshU
  rw [List.length_map]
  exact List.length_filter_le ..
theorem freshU_take {as : List (Int × Int)} {l fo : List Int} {x : Int} {i : Nat} {p : Int × Int} (h : as[i]? = some p) :
    freshU (as.take (i + 1)) l fo x = if p.2 = x ∧ p.1 ∈ l ∧ p.1 ∉ fo then freshU (as.take i) l fo x ++ [p.1] else freshU (as.take i) l fo x := by
  unfold freshU
  rw [take_at h, List.filter_append, List.map_append]
  by_cases c : p.2 = x ∧ p.1 ∈ l ∧ p.1 ∉ fo
  · rw [if_pos c]
    simp [c.1, c.2.1, c.2.2]
  · rw [if_neg c]
    by_cases c1 : p.2 = x
    · by_cases c2 : p.1 ∈ l
      · have c3 : p.1 ∈ fo := Classical.byContradiction fun z => c ⟨c1, c2, z⟩
        simp [c3]
      · simp [c2]
    · simp [c1]
theorem range_up {n : Nat} {as : List (Int × Int)} {l : List Int} (lot : Lot n l) : ∀ p ∈ upLaw as l, p.2 ∈ things n := fun ⟨x, y⟩ hp => lot.2 y (mem_upLaw.mp hp).2
theorem at_nat {l : List Int} {k : Nat} {x : Int} (h : l[k]? = some x) : atI (l.map V.int) ((k : Nat) : Int) = some (V.int x) := atI_nat (by rw [List.getElem?_map, h]; rfl)
def spLeaders (K : PySem.W.Frag) : Sp := fun vs H Q _ => ∃ (a b : Addr) (n : Nat) (as : List (Int × Int)) (l : List Int) (x : Int), vs = [.ref a, .ref b, .int x] ∧ PL K H a as ∧ n ≤ 60 ∧ Prs n as ∧ SqL K H b (l.map V.int) ∧ Lot n l ∧ x ∈ l ∧
  ∀ (H' : Hp) (r : Addr) (ns : List Int), Same H H' → H r = none → H' r = some (.lst (ns.map V.int)) → (ns = l ↔ IsHead as l x) → Q (.ref r) H'
def spHeads (K : PySem.W.Frag) : Sp := fun vs H Q _ => ∃ (a b : Addr) (n : Nat) (as : List (Int × Int)) (l : List Int), vs = [.ref a, .ref b] ∧ PL K H a as ∧ n ≤ 60 ∧ Prs n as ∧ SqL K H b (l.map V.int) ∧ Lot n l ∧
  ∀ (H' : Hp) (r : Addr), Same H H' → H r = none → H' r = some (.lst ((headsL as l).map V.int)) → Q (.ref r) H'
section
variable {P : Program} {w : World} {K : PySem.W.Frag} {mg : Str → Option Value} {base : Heap}
abbrev nLead : List Str := ["_law_arrows", "_law_lot", "_law_thing", "_law_found", "_law_ahead", "_law_one", "_law_other"]
theorem headsL_take {as : List (Int × Int)} {l : List Int} {i : Nat} {x : Int} (h : l[i]? = some x) : (l.take (i + 1)).filter (headB as l) = if headB as l x = true then (l.take i).filter (headB as l) ++ [x] else (l.take i).filter (headB as l) := by
  rw [take_at h, List.filter_append]
  by_cases c : headB as l x = true
  · rw [if_pos c, List.filter_cons_of_pos c]; rfl
  · rw [if_neg c, List.filter_cons_of_neg c]; simp
end
end Tk

namespace Tk
open PySem PySem.Spec PyProof.Rows L2
def one1 (l : List Int) (p : Int × Int) : List (Int × Int) := if p.2 ∈ l then [p] else []
def dnT (l : List Int) (ts : List (Int × Int)) : List (Int × Int) := ts.flatMap fun p => one1 l p ++ one1 l (swp p)
theorem dnT_take {l : List Int} {ts : List (Int × Int)} {i : Nat} {p : Int × Int} (h : ts[i]? = some p) : dnT l (ts.take (i + 1)) = dnT l (ts.take i) ++ one1 l p ++ one1 l (swp p) := by
  unfold dnT
  rw [take_at h, List.flatMap_append]
  simp
theorem dnT_full {l : List Int} {ts : List (Int × Int)} {p : Int × Int} (h : p ∈ tieLaw ts l) : p ∈ dnT l ts := by
  obtain ⟨x, y⟩ := p
  obtain ⟨h1, h2⟩ := mem_tieLaw.mp h
  unfold dnT
  rw [List.mem_flatMap]
  rcases h1 with h1 | h1
  · refine ⟨(x, y), h1, List.mem_append_left _ ?_⟩
    unfold one1
    rw [if_pos h2]; simp
  · refine ⟨(y, x), h1, List.mem_append_right _ ?_⟩
    unfold one1
    rw [if_pos (show (swp (y, x)).2 ∈ l from h2)]
    simp [swp]
theorem hinv_len {n : Nat} {ps : List (Int × Int)} {st x : Int} {fo0 fo : List Int} {dn : List (Int × Int)} (h : HInv n ps st x fo0 fo dn) : fo.length ≤ n := by
  have := nodup_le h.nd (m := things n) (fun x hx => h.th x hx)
  rw [things_len] at this
  exact this
/-- one of the two looks at a tie -/
theorem half {K : PySem.W.Frag} {D : Ends} {σ : L2.St} {G : Hp} {i k : Nat} {T : String} {b pf : Addr} {n ka : Nat} {ps dn : List (Int × Int)} {st x u v : Int} {fo0 fo1 l : List Int}
    (h1 : σ[1]? = some (some (.ref b))) (h3 : σ[3]? = some (some (.ref pf))) (h4 : σ[4]? = some (some (.int (ka : Int)))) (hi : σ[i]? = some (some (.int u))) (hk : σ[k]? = some (some (.int v)))
    (hl : SqL K G b (l.map V.int)) (hf : G pf = some (.lst (fo1.map V.int))) (e0 : fo0[ka]? = some x) (inv : HInv n ps st x fo0 fo1 dn) (hx : Reach ps st x) (hn : n ≤ 60)
    (hp : v ∈ l → (u, v) ∈ ps) (lv : ∀ y ∈ l, y ∈ things n) (hT : T = "list")
    (q : ∀ (G' : Hp) (fo2 : List Int), (G' = G ∨ ∃ o, G' = upd G pf o) → G' pf = some (.lst (fo2.map V.int)) → HInv n ps st x fo0 fo2 (dn ++ one1 l (u, v)) → D.nx σ G') :
    tIfS (tAnd (tTest (tOp rEq (tVar i) (tOp (rIxL K) (tVar 3) (tVar 4)))) (tAnd (tTest (tOp (rIn K false) (tVar k) (tVar 1))) (tTest (tOp (rIn K true) (tVar k) (tVar 3)))))
      (tDrop (tBM K T rAppend (tVar 3) (tCons (tVar k) tNil))) tNext D σ G := by
  subst hT
  have at1 : fo1[ka]? = some x := pre_at inv.pre e0
  have few := hinv_len inv
  refine ⟨_, hi, _, h3, _, h4, pf, _, _, _, rfl, rfl, sl_of hf, at_nat at1, rfl, decide (u = x), dec_bl, ?_⟩
  by_cases c1 : u = x
  · rw [decide_eq_true c1]
    refine ⟨_, hk, _, h1, b, _, rfl, .inl hl, rfl, flat_ints l, _, in_bl, ?_⟩
    by_cases c2 : v ∈ l
    · rw [decide_eq_true c2]
      have eo : one1 l (u, v) = [(u, v)] := if_pos c2
      rw [eo] at q
      refine ⟨_, hk, _, h3, pf, _, rfl, .inl (sl_of hf), rfl, flat_ints fo1, _, notin_bl, ?_⟩
      by_cases c3 : v ∈ fo1
      · rw [decide_eq_true c3]
        exact iteF (q G fo1 (.inl rfl) hf (hinv_no inv fun _ => c3))
      · rw [decide_eq_false c3]
        refine ⟨_, h3, .inl ⟨rfl, _, sl_of hf⟩, _, hk, pf, _, _, rfl, rfl, hf, szlt (by rw [List.length_map]; omega), ?_⟩
        refine q _ (fo1 ++ [v]) (.inr ⟨_, rfl⟩) (by rw [upd_same, List.map_append]; rfl) ?_
        have := hinv_put inv hx (y := v) (by rw [← c1]; exact hp c2) (lv v c2) c3
        rw [← c1] at this
        rw [← c1]
        exact this
    · rw [decide_eq_false c2]
      have eo : one1 l (u, v) = [] := if_neg c2
      rw [eo, List.append_nil] at q
      exact iteF (q G fo1 (.inl rfl) hf inv)
  · rw [decide_eq_false c1]
    refine iteF (q G fo1 (.inl rfl) hf ?_)
    unfold one1
    by_cases c2 : v ∈ l
    · rw [if_pos c2]
      exact hinv_no inv fun e => absurd e c1
    · rw [if_neg c2, List.append_nil]
      exact inv
theorem range_tie {n : Nat} {ts : List (Int × Int)} {l : List Int} (lot : Lot n l) : ∀ p ∈ tieLaw ts l, p.2 ∈ things n := fun ⟨x, y⟩ hp => lot.2 y (mem_tieLaw.mp hp).2
def spHungX (K : PySem.W.Frag) : Sp := fun vs H Q _ => ∃ (a b : Addr) (n : Nat) (ts : List (Int × Int)) (l : List Int) (x : Int), vs = [.ref a, .ref b, .int x] ∧ PL K H a ts ∧ n ≤ 60 ∧ SqL K H b (l.map V.int) ∧ Lot n l ∧ x ∈ l ∧
  ∀ (H' : Hp) (r : Addr) (ns : List Int), Same H H' → H r = none → H' r = some (.lst (ns.map V.int)) → (ns = l ↔ ∀ y ∈ l, Reach (tieIn ts l) x y) → (∀ y, y ∈ ns ↔ Reach (tieIn ts l) x y) → Q (.ref r) H'
def spHung (K : PySem.W.Frag) : Sp := fun vs H Q _ => ∃ (a b : Addr) (n : Nat) (ts : List (Int × Int)) (l : List Int) (x : Int), vs = [.ref a, .ref b, .int x] ∧ PL K H a ts ∧ n ≤ 60 ∧ SqL K H b (l.map V.int) ∧ Lot n l ∧ x ∈ l ∧
  ∀ (H' : Hp) (r : Addr) (ns : List Int), Same H H' → H r = none → H' r = some (.lst (ns.map V.int)) → (ns = l ↔ ∀ y ∈ l, Reach (tieIn ts l) x y) → Q (.ref r) H'
def spLHangs (K : PySem.W.Frag) : Sp := fun vs H Q _ => ∃ (a b : Addr) (n : Nat) (ts : List (Int × Int)) (l : List Int), vs = [.ref a, .ref b] ∧ PL K H a ts ∧ n ≤ 60 ∧ SqL K H b (l.map V.int) ∧ Lot n l ∧
  ∀ (H' : Hp), Same H H' → Q (.bl (hangB ts l)) H'
section
variable {P : Program} {w : World} {K : PySem.W.Frag} {mg : Str → Option Value} {base : Heap}
abbrev nHung : List Str := ["_law_ties", "_law_lot", "_law_thing", "_law_found", "_law_ahead", "_law_one", "_law_other"]
theorem eqv_lnil (l : List Int) : PyData.eqv (.list (l.map .int)) (.list []) = decide (l = []) := by
  have := @eqv_lints l []
  exact this
end
end Tk

namespace Tk
open PySem PySem.Spec PyProof.Rows L2
/-! ## sorted, of lists of ints -/
section
open PySem.W
variable {X : Cx}
def rSortedR (K : PySem.W.Frag) : List V → Hp → VK → Prop := fun vs H Q => ∃ (a : Addr) (xs : List V) (os : List (List Int)), vs = [V.ref a] ∧ SqL K H a xs ∧ LsAt H xs os ∧
  ∀ (ys : List V) (os' : List (List Int)) (p : Addr), os'.Perm os → os'.Pairwise (· ≤ ·) → LsAt H ys os' → (∀ y ∈ ys, y ∈ xs) → H p = none → Q (.ref p) (upd H p (.lst ys))
theorem ls_zip {G : Hp} : ∀ {xs : List V} {os : List (List Int)}, LsAt G xs os → xs = (xs.zip os).map Prod.fst ∧ os = (xs.zip os).map Prod.snd ∧ ∀ b ∈ xs.zip os, ∃ r : Addr, b.1 = .ref r ∧ G r = some (.lst (b.2.map V.int))
  | [], [], _ => ⟨rfl, rfl, fun _ h => nomatch h⟩
  | x :: xs, o :: os, ⟨h1, h3⟩ => by
    obtain ⟨a, b, c⟩ := ls_zip h3
    refine ⟨by simp only [List.zip_cons_cons, List.map_cons]; rw [← a], by simp only [List.zip_cons_cons, List.map_cons]; rw [← b], fun z hz => ?_⟩
    simp only [List.zip_cons_cons] at hz
    rcases List.mem_cons.mp hz with e | e
    · rw [e]; exact h1
    · exact c z e
  | [], _ :: _, h => h.elim
  | _ :: _, [], h => h.elim
theorem ls_of {G : Hp} : ∀ {bs : List (V × List Int)}, (∀ b ∈ bs, ∃ r : Addr, b.1 = .ref r ∧ G r = some (.lst (b.2.map V.int))) → LsAt G (bs.map Prod.fst) (bs.map Prod.snd)
  | [], _ => trivial
  | b :: bs, h => ⟨h b (List.mem_cons_self ..), ls_of fun c hc => h c (List.mem_cons_of_mem _ hc)⟩
theorem each_vals : ∀ {bs : List (V × List Int)} {us : List Value}, Vals (bs.map Prod.fst) us → EachIs (fun (v : Value) (b : V × List Int) => RelV b.1 v) us bs
  | [], _, h => by cases h; exact .nil
  | b :: bs, _, h => by
    cases h with
    | cons h1 h2 => exact .cons h1 (each_vals h2)
theorem vals_each : ∀ {bs : List (V × List Int)} {us : List Value}, EachIs (fun (v : Value) (b : V × List Int) => RelV b.1 v) us bs → Vals (bs.map Prod.fst) us
  | _, _, .nil => .nil
  | _, _, .cons h1 h2 => .cons h1 (vals_each h2)
theorem cr_sortedR (hu : X.A.units + 64 < cLine) : CallR X (.builtin "sorted") (rSortedR X.K) := by
  intro pins s σ H vs us Q I r h
  obtain ⟨a, xs, os, rfl, hs, ls, q⟩ := h
  obtain ⟨its, rv, hl, hz⟩ := I.list hs
  rw [Vals.ref1 r]
  obtain ⟨e1, e2, e3⟩ := ls_zip ls
  generalize xs.zip os = bs at e1 e2 e3
  subst e1
  subst e2
  have each := each_vals rv
  have reads : EachIs (fun (v : Value) (b : V × List Int) => ∃ as, Reads s.heap v (PyData.list (b.2.map .int)) as) its bs := by
    clear q hs ls hl hz r
    induction each with
    | nil => exact .nil
    | @cons v b vs' bs' h1 h2 ih =>
      refine .cons ?_ (ih (fun c hc => e3 c (List.mem_cons_of_mem _ hc)) (by cases rv with | cons _ r2 => exact r2))
      obtain ⟨r0, er, hr⟩ := e3 b (List.mem_cons_self ..)
      rw [er] at h1
      exact Dp.reads I _ (.ref r0) v (.lst (sl_of hr) (dps_ints b.2)) h1
  refine sorted_data (enc := fun b : V × List Int => PyData.list (b.2.map .int)) (R := fun (v : Value) (b : V × List Int) => RelV b.1 v) hl.isList each reads (AllAlike.of fun b b' => by simp [alike, alike_ints]) (Sortable.others fun b => ⟨by simp, by simp⟩) (by rw [List.length_map] at hz; exact hz) (fun b hb => ?_) fun out hlen ho => ?_
  · have : PyData.depth (PyData.list (b.2.map .int)) ≤ 1 := by rw [PyData.depth, depth_ints]; exact Nat.le_refl _
    omega
  · rw [dataLe_rows (fun b : V × List Int => b.2)] at ho
    obtain ⟨ep, he'⟩ := PyProof.Rows.sortedAll_at s.heap its out.toArray
    have vo := vals_each ho
    generalize hbs : bs.mergeSort (fun p q => decide (p.2 ≤ q.2)) = bs' at ho vo
    have pm : bs'.Perm bs := by rw [← hbs]; exact List.mergeSort_perm ..
    have srt : bs'.Pairwise (fun p q => decide (p.2 ≤ q.2) = true) := by
      rw [← hbs]
      refine List.pairwise_mergeSort (fun a b c h1 h2 => ?_) (fun a b => ?_) bs
      · simp only [decide_eq_true_eq] at h1 h2 ⊢
        exact List.le_trans h1 h2
      · simp only [Bool.or_eq_true, decide_eq_true_eq]
        exact List.le_total _ _
    refine ⟨.ref _, upd H (s.heap.objs.size + 1) (.lst (bs'.map Prod.fst)), I.laid (t' := s.toks) (fun _ _ => PyProof.Rows.sortedAll_old) (Nat.le_succ _) ⟨by rw [List.length_map, pm.length_eq]; rw [List.length_map] at hz; exact hz, out, ep, vo, he'⟩, rfl, ?_⟩
    refine q _ (bs'.map Prod.snd) _ (pm.map _) ?_ (ls_of fun b hb => e3 b (pm.mem_iff.mp hb)) (fun y hy => ?_) (I.hok.fresh (Nat.le_succ _))
    · rw [List.pairwise_map]
      exact srt.imp fun h => of_decide_eq_true h
    · obtain ⟨b, hb, rfl⟩ := List.mem_map.mp hy
      exact List.mem_map.mpr ⟨b, pm.mem_iff.mp hb, rfl⟩
end
theorem perm_erase {α : Type} : ∀ {l : List α} {i : Nat} (h : i < l.length), ([l[i]] ++ l.eraseIdx i).Perm l
  | [], _, h => by simp at h
  | x :: l, 0, _ => by simp
  | x :: l, i + 1, h => by
    have ih := perm_erase (l := l) (i := i) (by simpa using h)
    simp only [List.getElem_cons_succ, List.eraseIdx_cons_succ]
    refine List.Perm.trans (List.Perm.swap x _ _) ?_
    exact List.Perm.cons x ih

/-! ## all lots, a drawn order -/
def FreshA (H : Hp) (D : Addr) (xs : List V) : Prop := ∀ x ∈ xs, ∃ r : Addr, x = .ref r ∧ H r = none ∧ r ≠ D
def spLots : Sp := fun vs H Q _ => ∃ n : Nat, vs = [.int n] ∧ n ≤ 5 ∧
  ∀ (H' : Hp) (r : Addr) (xs : List V) (os : List (List Int)), Same H H' → H r = none → H' r = some (.lst xs) → LsAt H' xs os → (∀ x ∈ xs, ∃ q : Addr, x = .ref q ∧ H q = none) → os.Perm (allLots n) → os.Pairwise (· ≤ ·) → Q (.ref r) H'
def spOrder : Sp := fun vs H Q _ => ∃ (a : Addr) (n : Nat), vs = [.ref a, .int n] ∧ Pot H a ∧ n ≤ 60 ∧
  ∀ (H' : Hp) (p : Addr) (o : List Int), SmX a H H' → Pot H' a → H p = none → p ≠ a → H' p = some (.lst (o.map V.int)) → o.Perm (things n) → Q (.ref p) H'
theorem ints_of {ys : List V} {l : List Int} (h : ys.Perm (l.map V.int)) : ∃ o : List Int, ys = o.map V.int ∧ o.Perm l := by
  refine ⟨ys.map (fun v => match v with | .int i => i | _ => 0), ?_, ?_⟩
  · rw [List.map_map]
    refine (List.map_id ys).symm.trans (List.map_congr_left fun v hv => ?_)
    obtain ⟨i, _, rfl⟩ := List.mem_map.mp (h.mem_iff.mp hv)
    rfl
  · have := h.map (fun v => match v with | V.int i => i | _ => 0)
    rw [List.map_map] at this
    have e : ((fun v => match v with | V.int i => i | _ => 0) ∘ V.int) = (id : Int → Int) := by funext z; rfl
    rw [e, List.map_id] at this
    exact this
theorem pow5 {k : Nat} (h : k ≤ 5) : 2 ^ k ≤ 32 := Nat.le_trans (Nat.pow_le_pow_right (by decide) h) (by decide)
section
variable {P : Program} {w : World} {K : PySem.W.Frag} {mg : Str → Option Value} {base : Heap}
abbrev nLots : List Str := ["_law_many", "_law_found", "_law_thing", "_law_lot"]
abbrev nOrder : List Str := ["_law_pot_here", "_law_many", "_law_left", "_law_found", "_law_turn"]
end
end Tk

namespace Tk
open PySem PySem.Spec PyProof.Rows L2
theorem ta_x {a : Addr} {G G' : Hp} {acc : List V} {ps : List (Int × Int)} {k : Nat} (h : TA G acc ps k) (pa : Pot G a) (e : SmX a G G') : TA G' acc ps k :=
  ⟨h.1, fun i x hx => by
    obtain ⟨t, z, h1, h2, h3⟩ := h.2 i x hx
    obtain ⟨u, v, g, _⟩ := pa
    exact ⟨t, z, h1, h2, e _ _ (fun q => by rw [q, g] at h3; cases h3) h3⟩⟩
theorem ta_upd {G : Hp} {acc o : List V} {O : HO} {ps : List (Int × Int)} {k : Nat} {D : Addr} (h : TA G acc ps k) (hD : G D = some (.lst o)) : TA (upd G D O) acc ps k :=
  ⟨h.1, fun i x hx => by
    obtain ⟨t, z, h1, h2, h3⟩ := h.2 i x hx
    exact ⟨t, z, h1, h2, by rw [upd_ne (fun q => by rw [q, hD] at h3; cases h3)]; exact h3⟩⟩
theorem ta_more {G : Hp} {acc : List V} {ps qs : List (Int × Int)} {k : Nat} (h : TA G acc ps k) : TA G acc (ps ++ qs) k :=
  ⟨h.1, fun i x hx => by
    obtain ⟨t, z, h1, h2, h3⟩ := h.2 i x hx
    exact ⟨t, z, h1, by rw [List.getElem?_append_left (lt_of_at h2)]; exact h2, h3⟩⟩
/-- a list at D of new tuples for these pairs -/
def LT (G : Hp) (D : Addr) (ps : List (Int × Int)) : Prop := ∃ acc, G D = some (.lst acc) ∧ TA G acc ps ps.length
theorem lt_put {G : Hp} {D v : Addr} {ps : List (Int × Int)} {acc : List V} {x y : Int} (hD : G D = some (.lst acc)) (h : TA G acc ps ps.length) (hv : G v = none) :
    LT (upd (upd G v (.tup [.int x, .int y])) D (.lst (acc ++ [.ref v]))) D (ps ++ [(x, y)]) := by
  refine ⟨acc ++ [.ref v], upd_same, ?_⟩
  have := ta_put (z := (x, y)) (ta_more (qs := [(x, y)]) h) hD hv (by simp)
  rw [List.length_append]
  exact this
theorem lt_other {G : Hp} {D E v : Addr} {ps : List (Int × Int)} {O O' : HO} {e : List V} (h : LT G D ps) (ne : D ≠ E) (hE : G E = some (.lst e)) (hv : G v = none) : LT (upd (upd G v O) E O') D ps := by
  obtain ⟨acc, h1, h2⟩ := h
  have nD : D ≠ v := fun q => by rw [q, hv] at h1; cases h1
  have nE : E ≠ v := fun q => by rw [q, hv] at hE; cases hE
  refine ⟨acc, by rw [upd_ne ne, upd_ne nD]; exact h1, ?_⟩
  refine ta_upd (o := e) ?_ (by rw [upd_ne nE]; exact hE)
  exact ta_s h2 (same_new hv)
theorem lt_x {a : Addr} {G G' : Hp} {D : Addr} {ps : List (Int × Int)} (h : LT G D ps) (n : D ≠ a) (pa : Pot G a) (e : SmX a G G') : LT G' D ps :=
  let ⟨acc, h1, h2⟩ := h; ⟨acc, e _ _ n h1, ta_x h2 pa e⟩
theorem pot_s {G G' : Hp} {a : Addr} (h : Pot G a) (e : Same G G') : Pot G' a := let ⟨x, y, g, o⟩ := h; ⟨x, y, e _ _ g, o⟩
theorem plan_x {K : PySem.W.Frag} {C a : Addr} {H H' : Hp} {p : Addr} {n : Nat} {as ts : List (Int × Int)} (h : PlanAt K C H p n as ts) (pa : Pot H a) (e : SmX a H H') : PlanAt K C H' p n as ts := by
  obtain ⟨⟨dx, l, m, h1, h2, h3⟩, n6, h4, h5, h6, h7, h8, h9⟩ := h
  obtain ⟨x, y, ha, _⟩ := id pa
  have key : ∀ {l : Addr} {ps : List (Int × Int)}, PL K H l ps → PL K H' l ps := by
    rintro l ps ⟨xs, g1, g2⟩
    have g1' : SqL K H' l xs := by
      rcases g1 with (g | ⟨o, g⟩) | g
      · by_cases c : l = a
        · subst c
          rw [ha] at g
          cases g
          cases ps with
          | nil => cases g2
          | cons z zs =>
            cases g2 with
            | cons k1 _ =>
              obtain ⟨t, q, _⟩ := dP_inv k1
              cases q
        · exact .inl (.inl (e _ _ c g))
      · exact .inl (.inr ⟨o, e _ _ (fun c => by rw [c, ha] at g; cases g) g⟩)
      · exact .inr g
    refine ⟨xs, g1', ?_⟩
    clear g1 g1'
    induction ps generalizing xs with
    | nil => cases g2; exact .nil
    | cons z zs ih =>
      cases g2 with
      | cons k1 k2 =>
        obtain ⟨t, rfl, ht⟩ := dP_inv k1
        exact .cons (dP_mk (smx_t pa e ht)) (ih _ k2)
  exact ⟨⟨dx, l, m, e _ _ (fun c => by rw [c, ha] at h1; cases h1) h1, key h2, key h3⟩, n6, h4, h5, h6, h7, h8, h9⟩
theorem dps_x {K : PySem.W.Frag} {a : Addr} {G G' : Hp} {xs : List V} {ps : List (Int × Int)} (h : DpAll K G xs (ps.map dP)) (pg : Pot G a) (e : SmX a G G') : DpAll K G' xs (ps.map dP) := by
  induction ps generalizing xs with
  | nil => cases h; exact .nil
  | cons z zs ih =>
    cases h with
    | cons h1 h2 =>
      obtain ⟨t, rfl, ht⟩ := dP_inv h1
      exact .cons (dP_mk (smx_t pg e ht)) (ih h2)
/-- where the drawing of a plan stands -/
structure LP (a po pa pt : Addr) (H0 H1 : Hp) (o : List Int) (ixA ixT : List (Nat × Nat)) : Prop where
  sx : SmX a H0 H1
  pot : Pot H1 a
  ho : H1 po = some (.lst (o.map V.int))
  hA : LT H1 pa (ixA.map (prA o))
  hT : LT H1 pt (ixT.map (prT o))
structure Dist (a po pa pt : Addr) (H0 : Hp) : Prop where
  n1 : po ≠ a
  n2 : pa ≠ a
  n3 : pt ≠ a
  n4 : po ≠ pa
  n5 : po ≠ pt
  n6 : pa ≠ pt
  fA : H0 pa = none
  fT : H0 pt = none
section
variable {a po pa pt : Addr} {H0 H1 H2 : Hp} {o : List Int} {ixA ixT : List (Nat × Nat)}
theorem lp_draw (d : Dist a po pa pt H0) (h : LP a po pa pt H0 H1 o ixA ixT) (e : SmX a H1 H2) (p : Pot H2 a) : LP a po pa pt H0 H2 o ixA ixT :=
  ⟨h.sx.trans e, p, e _ _ d.n1 h.ho, lt_x h.hA d.n2 h.pot e, lt_x h.hT d.n3 h.pot e⟩
theorem lp_arr (d : Dist a po pa pt H0) (h : LP a po pa pt H0 H1 o ixA ixT) {acc : List V} (hD : H1 pa = some (.lst acc)) {v : Addr} (hv : H1 v = none) (q : Nat × Nat) :
    LP a po pa pt H0 (upd (upd H1 v (.tup [.int (it o q.1), .int (it o q.2)])) pa (.lst (acc ++ [.ref v]))) o (ixA ++ [q]) ixT := by
  obtain ⟨acc', e1, e2⟩ := h.hA
  rw [hD] at e1
  cases e1
  obtain ⟨x, y, g, gg⟩ := h.pot
  have nva : a ≠ v := fun z => by rw [z, hv] at g; cases g
  have nvo : po ≠ v := fun z => by have := h.ho; rw [z, hv] at this; cases this
  refine ⟨?_, ⟨x, y, by rw [upd_ne d.n2.symm, upd_ne nva]; exact g, gg⟩, by rw [upd_ne d.n4, upd_ne nvo]; exact h.ho, ?_, ?_⟩
  · exact smx_mut (h.sx.trans (smx_of (same_new hv))) d.fA
  · rw [List.map_append]
    exact lt_put hD e2 hv
  · exact lt_other h.hT d.n6.symm hD hv
theorem lp_tie (d : Dist a po pa pt H0) (h : LP a po pa pt H0 H1 o ixA ixT) {acc : List V} (hD : H1 pt = some (.lst acc)) {v : Addr} (hv : H1 v = none) (q : Nat × Nat) :
    LP a po pa pt H0 (upd (upd H1 v (.tup [.int (prT o q).1, .int (prT o q).2])) pt (.lst (acc ++ [.ref v]))) o ixA (ixT ++ [q]) := by
  obtain ⟨acc', e1, e2⟩ := h.hT
  rw [hD] at e1
  cases e1
  obtain ⟨x, y, g, gg⟩ := h.pot
  have nva : a ≠ v := fun z => by rw [z, hv] at g; cases g
  have nvo : po ≠ v := fun z => by have := h.ho; rw [z, hv] at this; cases this
  refine ⟨?_, ⟨x, y, by rw [upd_ne d.n3.symm, upd_ne nva]; exact g, gg⟩, by rw [upd_ne d.n5, upd_ne nvo]; exact h.ho, ?_, ?_⟩
  · exact smx_mut (h.sx.trans (smx_of (same_new hv))) d.fT
  · exact lt_other h.hA d.n6 hD hv
  · rw [List.map_append]
    exact lt_put hD e2 hv
end

theorem at_it {o : List Int} {i : Nat} (h : i < o.length) : atI (o.map V.int) (i : Int) = some (V.int (it o i)) := atI_nat (by rw [List.getElem?_map, it_some h]; rfl)
theorem dps_rev {K : PySem.W.Frag} {H : Hp} : ∀ {xs : List V} {ps : List (Int × Int)}, DpAll K H xs (ps.map dP) → DpAll K H xs.reverse (ps.reverse.map dP)
  | _, [], h => by cases h; exact .nil
  | _, p :: ps, h => by
    cases h with
    | cons h1 h2 =>
      rw [List.reverse_cons, List.reverse_cons, List.map_append]
      exact dps_app (dps_rev h2) (.cons h1 .nil)
/-- sorted, the tuples still are themselves -/
theorem ta_sort {G : Hp} {xs ys : List V} {ps : List (Int × Int)} (ta : TA G xs ps ps.length) (stb : SrtO.Stb (ltP (prV G)) ys xs) : TA G ys (ys.map (prV G)) (ys.map (prV G)).length :=
  ⟨by simp, fun i y hy => by
    obtain ⟨k, hk⟩ := List.getElem?_of_mem (stb.perm.mem_iff.mp (List.mem_of_getElem? hy))
    obtain ⟨t, p, rfl, _, h3⟩ := ta.2 k y hk
    exact ⟨t, p, rfl, by rw [List.getElem?_map, hy]; show some (prV G (.ref t)) = _; rw [prV_eq h3], h3⟩⟩
def spWorldX (K : PySem.W.Frag) : Sp := fun vs H Q _ => ∃ (a : Addr) (n : Nat), vs = [.ref a, .int n] ∧ Pot H a ∧ n ≤ 6 ∧
  ∀ (H' : Hp) (p l m : Addr) (xs ys : List V) (as ts : List (Int × Int)), SmX a H H' → Pot H' a → H' p = some (.tup [.int n, .ref l, .ref m]) → H l = none → H m = none → l ≠ m → l ≠ a → m ≠ a →
    H' l = some (.lst xs) → H' m = some (.lst ys) → DpAll K H' xs (as.map dP) → DpAll K H' ys (ts.map dP) → Prs n as → Acy as → Prs n ts → (∀ q ∈ ts, q.1 < q.2) → TA H' xs as as.length → TA H' ys ts ts.length → Q (.ref p) H'
def spWorld (K : PySem.W.Frag) : Sp := fun vs H Q _ => ∃ (a : Addr) (n : Nat), vs = [.ref a, .int n] ∧ Pot H a ∧ n ≤ 6 ∧
  ∀ (H' : Hp) (p l m : Addr) (xs ys : List V) (as ts : List (Int × Int)), SmX a H H' → Pot H' a → H' p = some (.tup [.int n, .ref l, .ref m]) → H l = none → H m = none → l ≠ m → l ≠ a → m ≠ a →
    H' l = some (.lst xs) → H' m = some (.lst ys) → DpAll K H' xs (as.map dP) → DpAll K H' ys (ts.map dP) → Prs n as → Acy as → Prs n ts → (∀ q ∈ ts, q.1 < q.2) → Q (.ref p) H'
def spMade (K : PySem.W.Frag) (C : Addr) : Sp := fun vs H Q _ => ∃ (a p l m : Addr) (n : Nat) (xs ys : List V) (as ts : List (Int × Int)), vs = [.ref a, .ref p] ∧ Pot H a ∧ H p = some (.tup [.int n, .ref l, .ref m]) ∧ l ≠ a ∧ m ≠ a ∧
  H l = some (.lst xs) ∧ H m = some (.lst ys) ∧ DpAll K H xs (as.map dP) ∧ DpAll K H ys (ts.map dP) ∧ n ≤ 6 ∧ Prs n as ∧ Acy as ∧ Prs n ts ∧ (∀ q ∈ ts, q.1 < q.2) ∧
  ∀ (H' : Hp) (x : Addr) (as' ts' : List (Int × Int)), SmX a H H' → Pot H' a → as'.Perm as → ts'.Perm ts → PlanAt K C H' x n as' ts' → Q (.ref x) H'
section
variable {P : Program} {w : World} {K : PySem.W.Frag} {mg : Str → Option Value} {base : Heap}
abbrev nWorld : List Str := ["_law_pot_here", "_law_many", "_law_order_here", "_law_arrows", "_law_ties", "_law_dense", "_law_at", "_law_to"]
abbrev nMade : List Str := ["_law_pot_here", "_law_world_here", "_law_arrows", "_law_ties"]
end
end Tk

namespace Tk
open PySem PySem.Spec PyProof.Rows L2
theorem reach_sub {ps qs : List (Int × Int)} {a b : Int} (s : ∀ p ∈ ps, p ∈ qs) (h : Reach ps a b) : Reach qs a b := by
  induction h with
  | refl => exact .refl
  | tail _ hp ih => exact .tail ih (s _ hp)
theorem heads_congr {as as' : List (Int × Int)} {l : List Int} (e : as'.Perm as) : headsL as' l = headsL as l := by
  unfold headsL
  refine List.filter_congr fun x _ => ?_
  rw [Bool.eq_iff_iff, headB_iff, headB_iff]
  unfold IsHead
  constructor
  · exact fun h y hy => reach_sub (fun ⟨u, v⟩ hp => by rw [mem_upIn] at hp ⊢; exact ⟨e.mem_iff.mp hp.1, hp.2⟩) (h y hy)
  · exact fun h y hy => reach_sub (fun ⟨u, v⟩ hp => by rw [mem_upIn] at hp ⊢; exact ⟨e.mem_iff.mpr hp.1, hp.2⟩) (h y hy)
theorem hang_congr {ts ts' : List (Int × Int)} {l : List Int} (e : ts'.Perm ts) : hangB ts' l = hangB ts l := by
  rw [Bool.eq_iff_iff, hangB_iff, hangB_iff]
  cases l with
  | nil => exact Iff.rfl
  | cons x l =>
    constructor
    · exact fun h y hy => reach_sub (fun ⟨u, v⟩ hp => by rw [mem_tieIn] at hp ⊢; rw [e.mem_iff, e.mem_iff] at hp; exact hp) (h y hy)
    · exact fun h y hy => reach_sub (fun ⟨u, v⟩ hp => by rw [mem_tieIn] at hp ⊢; rw [e.mem_iff, e.mem_iff]; exact hp) (h y hy)
theorem pl_x {K : PySem.W.Frag} {a l : Addr} {H H' : Hp} {ps : List (Int × Int)} (h : PL K H l ps) (pa : Pot H a) (e : SmX a H H') : PL K H' l ps := by
  obtain ⟨x, y, ha, _⟩ := id pa
  obtain ⟨xs, g1, g2⟩ := h
  refine ⟨xs, ?_, dps_x g2 pa e⟩
  rcases g1 with (g | ⟨o, g⟩) | g
  · by_cases c : l = a
    · subst c
      rw [ha] at g
      cases g
      cases ps with
      | nil => cases g2
      | cons z zs =>
        cases g2 with
        | cons k1 _ =>
          obtain ⟨t, q, _⟩ := dP_inv k1
          cases q
    · exact .inl (.inl (e _ _ c g))
  · exact .inl (.inr ⟨o, e _ _ (fun c => by rw [c, ha] at g; cases g) g⟩)
  · exact .inr g
theorem str_eq {d e : PyData} (h : d = e) : V.bl (decide (V.str d.shown = V.str e.shown)) = V.bl true := by subst h; simp
theorem str_ne {d e : PyData} (h : d = e) : V.bl (!decide (V.str d.shown = V.str e.shown)) = V.bl false := by subst h; simp
/-- the data of the first of a list, or None -/
def topD : List Int → PyData
  | [] => .none
  | x :: _ => .int x
theorem dp_top {K : PySem.W.Frag} {H : Hp} : ∀ (l : List Int), Dp K H (topV l) (topD l)
  | [] => .non
  | x :: _ => .int x
theorem goodD_none : GoodD .none 0 64 := ⟨by simp [PyData.showable], by simp [PyData.hasDict], by simp [PyData.depth], by simp [PyData.canLay0], by simp [PyData.intsShort], by simp [PyData.weight]⟩
theorem goodD_int {x : Int} (h : x.natAbs < 10 ^ 12) : GoodD (.int x) 0 64 := by
  have g := goodA_ints (ns := [x]) fun y hy => by rw [List.mem_singleton.mp hy]; exact h
  refine ⟨?_, by simp [PyData.hasDict], by simp [PyData.depth], by simp [PyData.canLay0], ?_, ?_⟩
  · have := g.sh
    simpa [PyData.showableAll] using this
  · have := g.ish
    simpa [PyData.intsShortAll] using this
  · have := g.wt
    simp only [List.map_cons, List.map_nil, PyData.weightAll, List.length_cons, List.length_nil] at this
    omega
theorem top_rep {l : List Int} (h : ∀ x ∈ l, x.natAbs < 10 ^ 12) : RepOk (.list [topD l, topD l]) := by
  have g : GoodD (topD l) 0 64 := by
    cases l with
    | nil => exact goodD_none
    | cons x l => exact goodD_int (h x (List.mem_cons_self ..))
  exact goodD_rep (goodD_list (goodA_cons g (goodA_cons g goodA_nil))) (by decide) (by decide)
theorem rep_tup {ns : List Int} (h : ∀ n ∈ ns, n.natAbs < 10 ^ 12) (hl : ns.length ≤ 1000) : RepOk (.tuple (ns.map .int)) := by
  obtain ⟨a, b, c, d, e⟩ := ints_facts h
  refine ⟨by simp only [PyData.showable]; exact a, by simp only [PyData.hasDict]; exact b, by simp only [PyData.depth]; omega, ?_⟩
  refine PyData.shown_fits (B := 13) (by decide) (by decide) ?_ ?_
  · simp only [PyData.leavesShort]
    exact PyData.leavesShortAll_of_canLay0 13 _ d (PyData.intsShortAll_ints ns h)
  · simp only [PyData.weight]; omega
/-- what is given stands as a tuple or as a list -/
def GivenAt (K : PySem.W.Frag) (H : Hp) (g : Addr) (l : List Int) (d : PyData) : Prop := (SqT K H g (l.map V.int) ∧ d = .tuple (l.map .int)) ∨ (SqL K H g (l.map V.int) ∧ d = .list (l.map .int))
theorem given_s {K : PySem.W.Frag} {H H' : Hp} {g : Addr} {l : List Int} {d : PyData} (h : GivenAt K H g l d) (e : Same H H') : GivenAt K H' g l d :=
  h.elim (fun z => .inl ⟨same_t e z.1, z.2⟩) (fun z => .inr ⟨same_l e z.1, z.2⟩)
theorem given_a {K : PySem.W.Frag} {H : Hp} {g : Addr} {l : List Int} {d : PyData} (h : GivenAt K H g l d) : SqA K H g (l.map V.int) := h.elim (fun z => .inr z.1) (fun z => .inl z.1)
theorem given_d {K : PySem.W.Frag} {H : Hp} {g : Addr} {l : List Int} {d : PyData} (h : GivenAt K H g l d) : Dp K H (.ref g) d := by
  rcases h with ⟨h, rfl⟩ | ⟨h, rfl⟩
  · exact .tup h (dps_ints l)
  · exact .lst h (dps_ints l)
theorem given_rep {K : PySem.W.Frag} {H : Hp} {g : Addr} {l : List Int} {d : PyData} (h : GivenAt K H g l d) (sm : ∀ n ∈ l, n.natAbs < 10 ^ 12) (hl : l.length ≤ 1000) : RepOk d := by
  rcases h with ⟨h, rfl⟩ | ⟨h, rfl⟩
  · exact rep_tup sm hl
  · exact rep_ints sm hl
theorem lot_small {n : Nat} {l : List Int} (h : Lot n l) (n6 : n ≤ 6) : ∀ x ∈ l, x.natAbs < 10 ^ 12 := fun x hx => by
  have := mem_things.mp (h.2 x hx)
  have : (10 : Nat) ^ 12 = 1000000000000 := by decide
  omega
/-! which of the bent lots are lots -/
def LotY (n : Nat) (o : Option (List (Option Int))) (b : Bool) : Prop := b = true ↔ ∃ l, LotO n o l
theorem loty_rev {n : Nat} {l : List Int} (h : Lot n l) : LotY n (some (l.reverse.map some)) (decide (l.length < 2)) := by
  unfold LotY
  rw [decide_eq_true_eq]
  constructor
  · intro hl
    refine ⟨l, ?_, h⟩
    match l, hl with
    | [], _ => rfl
    | [x], _ => rfl
  · rintro ⟨m, e, hm⟩
    have e' := some_inj (Option.some.inj e)
    subst e'
    match l, h, hm with
    | [], _, _ => simp
    | [x], _, _ => simp
    | x :: y :: l, h, hm =>
      have h1 := (List.pairwise_cons.mp h.1).1 y (by simp)
      have h2 := List.pairwise_reverse.mp hm.1
      have h3 := (List.pairwise_cons.mp h2).1 y (by simp)
      omega
theorem loty_dup {n : Nat} {l : List Int} (h : Lot n l) : LotY n (some ((l ++ l.take 1).map some)) (decide (l = [])) := by
  unfold LotY
  rw [decide_eq_true_eq]
  constructor
  · rintro rfl
    exact ⟨[], rfl, h⟩
  · rintro ⟨m, e, hm⟩
    have e' := some_inj (Option.some.inj e)
    subst e'
    cases l with
    | nil => rfl
    | cons x l =>
      have nd := lt_nd hm.1
      simp at nd
theorem loty_big {n : Nat} {l : List Int} : LotY n (some ((l ++ [(n : Int)]).map some)) false := by
  refine ⟨fun z => (nomatch z), ?_⟩
  rintro ⟨m, e, hm⟩
  have e' := some_inj (Option.some.inj e)
  subst e'
  have := mem_things.mp (hm.2 (n : Int) (by simp))
  omega
theorem loty_none {n : Nat} {os : List (Option Int)} : LotY n (some (none :: os)) false := by
  refine ⟨fun z => (nomatch z), ?_⟩
  rintro ⟨m, e, hm⟩
  cases m with
  | nil => cases Option.some.inj e
  | cons x m =>
    have := (List.cons.inj (Option.some.inj e)).1
    cases this
theorem each_app {K : PySem.W.Frag} {H : Hp} : ∀ {xs ys : List V} {os ps : List (Option Int)}, EachV K H xs os → EachV K H ys ps → EachV K H (xs ++ ys) (os ++ ps)
  | [], _, [], _, _, h => h
  | x :: xs, _, o :: os, _, ⟨h1, h2⟩, h => ⟨h1, each_app h2 h⟩
  | [], _, _ :: _, _, h, _ => h.elim
  | _ :: _, _, [], _, h, _ => h.elim
theorem tail_cut (l : List Int) : cutV (l.map V.int) (some 1) none = (l.drop 1).map V.int := by
  cases l with
  | nil => rfl
  | cons x l =>
    unfold cutV HT.sIx
    simp
    exact List.take_of_length_le (by simp)
theorem head_cut (l : List Int) : cutV (l.map V.int) none (some 1) = (l.take 1).map V.int := by
  cases l with
  | nil => rfl
  | cons n ns =>
    unfold cutV HT.sIx
    simp [List.length_map]
end Tk

namespace Tk
open PySem PySem.Spec PyProof.Rows L2
def spPick (K : PySem.W.Frag) : Sp := fun vs H Q _ => ∃ (a b : Addr) (xs : List V), vs = [.ref a, .ref b] ∧ Pot H a ∧ H b = some (.lst xs) ∧ b ≠ a ∧ xs ≠ [] ∧ xs.length ≤ 1000 ∧
  ∀ (H' : Hp) (i : Nat) (v : V), SmX a H H' → Pot H' a → xs[i]? = some v → Q v H'
section
variable {P : Program} {w : World} {K : PySem.W.Frag} {mg : Str → Option Value} {base : Heap}
theorem sc_pick : FnScope ["_law_pot_here", "_law_some"] ["_law_pot_here", "_law_some"] (defScope sPick) := ⟨rfl, rfl, rfl, by decide +kernel, rfl, by decide +kernel, by decide +kernel⟩
theorem ok_pick {f f1 : Addr} {fd fd1 : FuncData} (F : Fun K "_law_pick" "_law_pick" sPick f fd) (D1 : Df K mg "_law_draw" sDraw ["_law_pot_here", "_law_room"] f1 fd1) (B : Bl mg) :
    FnOk P w K mg base CX0 2 f fd ["_law_pot_here", "_law_some"] (spPick K) := by
  have G1 : FnOk P w K mg base CX0 1 f1 fd1 ["_law_pot_here", "_law_room"] spDraw := ok_draw D1.F B
  refine F.ok sc_pick (fun vs H Q E h => ?_) (fun cdv A outer s H vs Q E hr h => ?_)
  · obtain ⟨a, b, xs, rfl, _⟩ := h
    rfl
  · obtain ⟨a, b, xs, rfl, pa, hb, nba, ne, few, q⟩ := h
    refine ⟨_, pss_one (ps_ret (pe_ix ix_list (pv 1) (pe_call G1 hr rfl D1.g D1.F.kp D1.b .nil pass0 (pa_cons (pv 0) (pa_cons (pe_callB call_len_seq (by rfl) B.len PySem.boot_len (pa_cons (pv 1) pa_nil)) pa_nil))) (fun _ _ => rfl))), ?_⟩
    have pos := List.length_pos_iff.mpr ne
    refine ⟨_, rfl, _, rfl, _, rfl, b, xs, rfl, .inl (sl_of hb), a, _, rfl, pa, by omega, by omega, fun H1 d s1 p1 d0 d1 => ?_⟩
    obtain ⟨i, rfl⟩ : ∃ i : Nat, d = (i : Int) := ⟨d.toNat, by omega⟩
    have il : i < xs.length := by omega
    exact ⟨b, xs, _, xs[i], rfl, rfl, sl_of (s1 _ _ nba hb), atI_nat (List.getElem?_eq_getElem il), q H1 i _ s1 p1 (List.getElem?_eq_getElem il)⟩

end
end Tk

namespace Tk
open PySem PySem.Spec PyProof.Rows L2
/-! ## lowest terms -/
theorem com_dvd {t b : Int} : comQ t b ∣ t ∧ comQ t b ∣ b := by
  have h1 : ((Nat.gcd t.natAbs b.natAbs : Nat) : Int) ∣ t := by
    have := Nat.gcd_dvd_left t.natAbs b.natAbs
    exact Int.ofNat_dvd_left.mpr this
  have h2 : ((Nat.gcd t.natAbs b.natAbs : Nat) : Int) ∣ b := by
    have := Nat.gcd_dvd_right t.natAbs b.natAbs
    exact Int.ofNat_dvd_left.mpr this
  unfold comQ
  split
  · exact ⟨h1, h2⟩
  · exact ⟨Int.neg_dvd.mpr h1, Int.neg_dvd.mpr h2⟩
theorem low_fac {t b : Int} (b0 : b ≠ 0) : ∃ k l : Int, lowQ t b = (k, l) ∧ t = comQ t b * k ∧ b = comQ t b * l := by
  obtain ⟨⟨k, hk⟩, ⟨l, hl⟩⟩ := com_dvd (t := t) (b := b)
  refine ⟨k, l, ?_, hk, hl⟩
  have c0 := com_ne (t := t) b0
  have e1 : t.fdiv (comQ t b) = k := by
    conv => lhs; rw [hk]
    rw [← hk]
    conv => lhs; arg 1; rw [hk]
    exact Int.mul_fdiv_cancel_left k c0
  have e2 : b.fdiv (comQ t b) = l := by
    conv => lhs; arg 1; rw [hl]
    exact Int.mul_fdiv_cancel_left l c0
  unfold lowQ
  rw [e1, e2]
structure LowOk (t b : Int) (q : Int × Int) : Prop where
  pos : 0 < q.2
  cop : Nat.gcd q.1.natAbs q.2.natAbs = 1
  top : q.1.natAbs ≤ t.natAbs
  bot : q.2.natAbs ≤ b.natAbs
  sgn : 0 < b → (q.1 < 0 ↔ t < 0) ∧ (q.1 = 0 ↔ t = 0)
theorem low_ok {t b : Int} (b0 : b ≠ 0) : LowOk t b (lowQ t b) := by
  obtain ⟨k, l, e, hk, hl⟩ := low_fac (t := t) b0
  rw [e]
  have c0 := com_ne (t := t) b0
  have ca := com_abs t b
  have g0 : 0 < Nat.gcd t.natAbs b.natAbs := Nat.gcd_pos_of_pos_right _ (by omega)
  have ak : t.natAbs = (comQ t b).natAbs * k.natAbs := by conv => lhs; rw [hk]; rw [Int.natAbs_mul]
  have al : b.natAbs = (comQ t b).natAbs * l.natAbs := by conv => lhs; rw [hl]; rw [Int.natAbs_mul]
  have cs : (0 < b → 0 < comQ t b) ∧ (¬ 0 < b → comQ t b < 0) := by
    unfold comQ
    refine ⟨fun h => ?_, fun h => ?_⟩
    · rw [if_pos h]; omega
    · rw [if_neg h]; omega
  generalize comQ t b = c at *
  refine ⟨?_, ?_, ?_, ?_, fun hb => ?_⟩
  · show 0 < l
    by_cases hb : 0 < b
    · have := cs.1 hb
      rw [hl] at hb
      rcases Int.lt_trichotomy l 0 with h | h | h
      · have := Int.mul_neg_of_pos_of_neg this h
        omega
      · rw [h] at hb; simp at hb
      · exact h
    · have h1 := cs.2 hb
      have hb2 : c * l < 0 := by rw [← hl]; omega
      rcases Int.lt_trichotomy l 0 with h | h | h
      · have := Int.mul_pos_of_neg_of_neg h1 h
        omega
      · rw [h] at hb2; simp at hb2
      · exact h
  · show Nat.gcd k.natAbs l.natAbs = 1
    have h := ca
    rw [ak, al, Nat.gcd_mul_left] at h
    have hc : 0 < c.natAbs := by omega
    have h2 : c.natAbs * 1 = c.natAbs * Nat.gcd k.natAbs l.natAbs := by rw [Nat.mul_one]; exact h
    exact (Nat.eq_of_mul_eq_mul_left hc h2).symm
  · show k.natAbs ≤ t.natAbs
    rw [ak]
    exact Nat.le_mul_of_pos_left _ (by omega)
  · show l.natAbs ≤ b.natAbs
    rw [al]
    exact Nat.le_mul_of_pos_left _ (by omega)
  · have h1 := cs.1 hb
    show (k < 0 ↔ t < 0) ∧ (k = 0 ↔ t = 0)
    rcases Int.lt_trichotomy k 0 with h | h | h
    · have : c * k < 0 := Int.mul_neg_of_pos_of_neg h1 h
      constructor <;> constructor <;> intro <;> omega
    · subst h
      simp at hk
      constructor <;> constructor <;> intro <;> omega
    · have : 0 < c * k := Int.mul_pos h1 h
      constructor <;> constructor <;> intro <;> omega
/-- in lowest terms already -/
theorem low_self {k l : Int} (l0 : 0 < l) (h : Nat.gcd k.natAbs l.natAbs = 1) : lowQ k l = (k, l) := by
  have c1 : comQ k l = 1 := by
    unfold comQ
    rw [if_pos l0, h]
    rfl
  unfold lowQ
  rw [c1, Int.fdiv_one, Int.fdiv_one]
theorem add_comQ (x y : Int × Int) : addQ x y = addQ y x := by
  unfold addQ
  rw [Int.add_comm, Int.mul_comm x.2 y.2]
theorem mul_comQ (x y : Int × Int) : mulQ x y = mulQ y x := by
  unfold mulQ
  rw [Int.mul_comm x.1 y.1, Int.mul_comm x.2 y.2]
/-- what the law draws, not in lowest terms -/
structure RawOk (q : Int × Int) : Prop where
  ne : q.2 ≠ 0
  top : q.1.natAbs < 2 ^ 120
  bot : q.2.natAbs < 2 ^ 110
structure Fine (q : Int × Int) : Prop where
  pos : 0 < q.2
  cop : Nat.gcd q.1.natAbs q.2.natAbs = 1
  top : q.1.natAbs < 2 ^ 120
  bot : q.2.natAbs < 2 ^ 110
theorem raw_fine {q : Int × Int} (h : RawOk q) : Fine (lowQ q.1 q.2) := by
  have g := low_ok (t := q.1) h.ne
  exact ⟨g.pos, g.cop, Nat.lt_of_le_of_lt g.top h.top, Nat.lt_of_le_of_lt g.bot h.bot⟩
theorem log_of {n k : Nat} (h : n < 2 ^ k) (k0 : 0 < k) : n.log2 < k := by
  by_cases h0 : n = 0
  · rw [h0]; simpa using k0
  · exact (Nat.log2_lt h0).mpr h
theorem fine_small {q : Int × Int} (h : Fine q) : Small q := ⟨h.pos, Nat.lt_of_lt_of_le (log_of h.bot (by decide)) (by decide), Nat.lt_of_lt_of_le (log_of h.top (by decide)) (by decide)⟩
theorem fine_tiny {q : Int × Int} (h : Fine q) : Tiny q := ⟨Nat.lt_trans h.top (by decide), Nat.lt_trans h.bot (by decide)⟩
theorem fine_top {q : Int × Int} (h : Fine q) : q.1.natAbs.log2 < 4000 := Nat.lt_of_lt_of_le (log_of h.top (by decide)) (by decide)
theorem fine_int {i : Int} (h : i.natAbs < 1000) : Fine (i, 1) := ⟨by show (0 : Int) < 1; decide, by show Nat.gcd i.natAbs 1 = 1; simp, Nat.lt_trans h (by decide), by show (1 : Nat) < 2 ^ 110; decide⟩
theorem neg_fine {q : Int × Int} (h : Fine q) : lowQ (-q.1) q.2 = (0 - q.1, q.2) := by
  rw [low_self h.pos (by rw [Int.natAbs_neg]; exact h.cop), Int.zero_sub]
theorem sub_zero {q : Int × Int} (h : Fine q) : subQ (0, 1) q = (0 - q.1, q.2) := by
  unfold subQ
  show lowQ (0 * q.2 - q.1 * 1) (1 * q.2) = _
  rw [Int.zero_mul, Int.mul_one, Int.one_mul, low_self h.pos (by rw [Int.zero_sub, Int.natAbs_neg]; exact h.cop)]
theorem abs_fine {q : Int × Int} (h : Fine q) : lowQ (if q.1 < 0 then -q.1 else q.1) q.2 = (if q.1 < 0 then -q.1 else q.1, q.2) := by
  refine low_self h.pos ?_
  split
  · rw [Int.natAbs_neg]; exact h.cop
  · exact h.cop
theorem sub_sgn {x y : Int × Int} (hx : 0 < x.2) (hy : 0 < y.2) : (sgnQ (subQ x y).1 < 0 ↔ x.1 * y.2 < y.1 * x.2) ∧ (sgnQ (subQ x y).1 ≤ 0 ↔ x.1 * y.2 ≤ y.1 * x.2) := by
  have b0 : 0 < x.2 * y.2 := Int.mul_pos hx hy
  have g := (low_ok (t := x.1 * y.2 - y.1 * x.2) (Int.ne_of_gt b0)).sgn b0
  have e : (subQ x y) = lowQ (x.1 * y.2 - y.1 * x.2) (x.2 * y.2) := rfl
  rw [← e] at g
  generalize x.1 * y.2 = u at g
  generalize y.1 * x.2 = v at g
  unfold sgnQ
  constructor
  · split
    · constructor <;> intro <;> omega
    · split <;> constructor <;> intro <;> omega
  · split
    · constructor <;> intro <;> omega
    · split <;> constructor <;> intro <;> omega
end Tk

namespace Tk
/-! ## the fractions as rational numbers -/
def valQ (q : Int × Int) : Rat := Rat.divInt q.1 q.2
def toQ (r : Rat) : Int × Int := (r.num, (r.den : Int))
theorem toQ_val {q : Int × Int} (h : 0 < q.2) (c : Nat.gcd q.1.natAbs q.2.natAbs = 1) : toQ (valQ q) = q := by
  obtain ⟨k, l⟩ := q
  obtain ⟨n, rfl⟩ : ∃ n : Nat, l = (n : Int) := ⟨l.toNat, by have : 0 < l := h; omega⟩
  have n0 : n ≠ 0 := by
    intro e
    subst e
    simp at h
  have e : (⟨k, n, n0, by simpa [Nat.Coprime] using c⟩ : Rat) = Rat.divInt k n := Rat.mk_eq_divInt
  unfold valQ toQ
  show ((Rat.divInt k n).num, ((Rat.divInt k n).den : Int)) = (k, (n : Int))
  rw [← e]
theorem val_low {t b : Int} (h : b ≠ 0) : valQ (lowQ t b) = Rat.divInt t b := by
  obtain ⟨k, l, e, e1, e2⟩ := low_fac (t := t) h
  rw [e]
  have c0 := com_ne (t := t) h
  unfold valQ
  show Rat.divInt k l = Rat.divInt t b
  generalize comQ t b = m at e1 e2 c0
  rw [e1, e2]
  exact (Rat.divInt_mul_left c0).symm
theorem low_toQ {t b : Int} (h : b ≠ 0) : lowQ t b = toQ (Rat.divInt t b) := by
  rw [← val_low h]
  have g := low_ok (t := t) h
  exact (toQ_val g.pos g.cop).symm
theorem add_toQ {x y : Int × Int} (hx : x.2 ≠ 0) (hy : y.2 ≠ 0) : addQ x y = toQ (valQ x + valQ y) := by
  unfold addQ valQ
  rw [low_toQ (Int.mul_ne_zero hx hy), Rat.divInt_add_divInt _ _ hx hy]
theorem sub_toQ {x y : Int × Int} (hx : x.2 ≠ 0) (hy : y.2 ≠ 0) : subQ x y = toQ (valQ x - valQ y) := by
  unfold subQ valQ
  rw [low_toQ (Int.mul_ne_zero hx hy), Rat.divInt_sub_divInt _ _ hx hy]
theorem mul_toQ {x y : Int × Int} (hx : x.2 ≠ 0) (hy : y.2 ≠ 0) : mulQ x y = toQ (valQ x * valQ y) := by
  unfold mulQ valQ
  rw [low_toQ (Int.mul_ne_zero hx hy), Rat.divInt_mul_divInt]
theorem val_toQ (r : Rat) : valQ (toQ r) = r := Rat.num_divInt_den r
theorem val_add {x y : Int × Int} (hx : x.2 ≠ 0) (hy : y.2 ≠ 0) : valQ (addQ x y) = valQ x + valQ y := by rw [add_toQ hx hy, val_toQ]
theorem val_sub {x y : Int × Int} (hx : x.2 ≠ 0) (hy : y.2 ≠ 0) : valQ (subQ x y) = valQ x - valQ y := by rw [sub_toQ hx hy, val_toQ]
theorem val_mul {x y : Int × Int} (hx : x.2 ≠ 0) (hy : y.2 ≠ 0) : valQ (mulQ x y) = valQ x * valQ y := by rw [mul_toQ hx hy, val_toQ]
/-- in lowest terms -/
structure LowQ (q : Int × Int) : Prop where
  pos : 0 < q.2
  cop : Nat.gcd q.1.natAbs q.2.natAbs = 1
theorem LowQ.ne {q : Int × Int} (h : LowQ q) : q.2 ≠ 0 := Int.ne_of_gt h.pos
theorem low_low {t b : Int} (h : b ≠ 0) : LowQ (lowQ t b) := by
  have g := low_ok (t := t) h
  exact ⟨g.pos, g.cop⟩
theorem low_add {x y : Int × Int} (hx : LowQ x) (hy : LowQ y) : LowQ (addQ x y) := low_low (Int.mul_ne_zero hx.ne hy.ne)
theorem low_sub {x y : Int × Int} (hx : LowQ x) (hy : LowQ y) : LowQ (subQ x y) := low_low (Int.mul_ne_zero hx.ne hy.ne)
theorem low_mul {x y : Int × Int} (hx : LowQ x) (hy : LowQ y) : LowQ (mulQ x y) := low_low (Int.mul_ne_zero hx.ne hy.ne)
/-- alike in value, alike -/
theorem low_ext {x y : Int × Int} (hx : LowQ x) (hy : LowQ y) (e : valQ x = valQ y) : x = y := by rw [← toQ_val hx.pos hx.cop, ← toQ_val hy.pos hy.cop, e]
theorem fold_low {qs : List (Int × Int)} : ∀ {z : Int × Int}, LowQ z → (∀ q ∈ qs, LowQ q) → LowQ (qs.foldl addQ z) ∧ valQ (qs.foldl addQ z) = valQ z + (qs.map valQ).sum := by
  induction qs with
  | nil =>
    intro z hz _
    exact ⟨hz, by simp [Rat.add_zero]⟩
  | cons q qs ih =>
    intro z hz h
    have hq := h q (by simp)
    obtain ⟨i1, i2⟩ := ih (low_add hz hq) fun r hr => h r (by simp [hr])
    refine ⟨i1, ?_⟩
    show valQ (qs.foldl addQ (addQ z q)) = _
    rw [i2, val_add hz.ne hq.ne, List.map_cons, List.sum_cons, Rat.add_assoc]
theorem val_0 : valQ (0, 1) = 0 := by decide +kernel
theorem sum_low {qs : List (Int × Int)} (h : ∀ q ∈ qs, LowQ q) : LowQ (qs.foldl addQ (0, 1)) ∧ valQ (qs.foldl addQ (0, 1)) = (qs.map valQ).sum := by
  obtain ⟨i1, i2⟩ := fold_low (z := (0, 1)) ⟨by decide, by decide⟩ h
  exact ⟨i1, by rw [i2, val_0, Rat.zero_add]⟩
end Tk

namespace Tk
open PySem PySem.Spec PyProof.Rows L2 ClX
abbrev sEntR : Stmt := top 54
abbrev sRowR : Stmt := top 55
abbrev sListR : Stmt := top 56
abbrev sTableR : Stmt := top 57
/-! ## drawn tables -/
theorem pe_wkR {X : Cx} {e : Expr} {t t' : TE} (h : PE X e t) (wk : ∀ σ H Q, t' σ H Q → t σ H Q) : PE X e t' := ⟨fun pins s σ H Q I g => h.run pins s σ H Q I (wk σ H Q g)⟩
theorem pe_negR {X : Cx} {i : Int} {tk : Nat} {p pos : Pos} : PE X (.UnaryOp .USub (.Constant (.int i) tk p) pos) (tC (.int (-i))) := pe_wkR (pe_un un_neg pe_int) fun σ H Q h => ⟨_, rfl, h⟩
/-- a list of pairs, written out -/
def tPairsR : List (Int × Int) → L2.TA
  | [] => tNil
  | q :: qs => tCons (tTup (tCons (tC (.int q.1)) (tCons (tC (.int q.2)) tNil))) (tPairsR qs)
theorem tPairs_go {K : PySem.W.Frag} {σ : L2.St} : ∀ {qs : List (Int × Int)} {H : Hp} {k : List V → Hp → Prop}, (∀ H' xs, Same H H' → PrsP K H' xs qs → k xs H') → tPairsR qs σ H k
  | [], H, k, h => h H [] (fun _ _ e => e) trivial
  | q :: qs, H, k, h => by
    refine ⟨szle (by show 2 ≤ 100000; decide), fun p hp => ?_⟩
    have s1 := same_new (o := .tup [V.int q.1, V.int q.2]) hp
    exact tPairs_go fun H' xs s2 hP => h H' (.ref p :: xs) (s1.trans s2) ⟨⟨p, rfl, pair_sR (st_of upd_same) s2⟩, hP⟩
/-- what an entry is -/
structure EntQ (q : Int × Int) : Prop where
  low : LowQ q
  top : q.1.natAbs ≤ 25
  bot : q.2 ≤ 9
theorem ent_small {q : Int × Int} (h : EntQ q) : Small q := by
  have h1 := h.low.pos
  have h2 := h.bot
  have h3 := h.top
  refine ⟨h1, ?_, ?_⟩
  · exact Nat.lt_of_lt_of_le (log_of (k := 10) (by omega) (by decide)) (by decide)
  · exact Nat.lt_of_lt_of_le (log_of (k := 10) (by omega) (by decide)) (by decide)
abbrev entL : List (Int × Int) := [(0, 1), (0, 1), (1, 1), (-1, 1), (2, 1), (3, 1), (-2, 1), (1, 2), (-5, 3), (0, 1)]
theorem ent_of {q : Int × Int} (h : q ∈ entL) : EntQ q ∧ q.1.natAbs ≤ 5 ∧ q.2 ≤ 3 := by
  simp only [List.mem_cons, List.not_mem_nil, or_false] at h
  rcases h with rfl | rfl | rfl | rfl | rfl | rfl | rfl | rfl | rfl | rfl <;> exact ⟨⟨⟨by decide, by decide⟩, by decide, by decide⟩, by decide, by decide⟩
theorem ent_mul {x y : Int × Int} (hx : LowQ x) (hy : LowQ y) (h1 : x.1.natAbs ≤ 5) (h2 : x.2 ≤ 3) (h3 : y.1.natAbs ≤ 5) (h4 : y.2 ≤ 3) : EntQ (mulQ x y) := by
  have g := low_ok (t := x.1 * y.1) (Int.mul_ne_zero hx.ne hy.ne)
  have g1 := g.top
  have g2 := g.bot
  have p1 := hx.pos
  have p2 := hy.pos
  have b1 : (x.1 * y.1).natAbs ≤ 25 := by rw [Int.natAbs_mul]; exact Nat.mul_le_mul h1 h3
  have b2 : (x.2 * y.2).natAbs ≤ 9 := by rw [Int.natAbs_mul]; exact Nat.mul_le_mul (show x.2.natAbs ≤ 3 by omega) (show y.2.natAbs ≤ 3 by omega)
  have e : mulQ x y = lowQ (x.1 * y.1) (x.2 * y.2) := rfl
  have g3 := g.pos
  rw [← e] at g1 g2 g3
  exact ⟨low_mul hx hy, by omega, by omega⟩
def Ent5 (q : Int × Int) : Prop := EntQ q ∧ q.1.natAbs ≤ 5 ∧ q.2 ≤ 3
theorem pair_xr {K : PySem.W.Frag} {a D p : Addr} {H : Hp} {q : Int × Int} {xs ys : List V} (h : PairAt K H p q) (ha : H a = some (.lst xs)) (hD : H D = some (.lst ys)) : PairAt K (xr a D H) p q := by
  have go : ∀ {o : HO}, H p = some o → (∀ zs, o ≠ .lst zs) → xr a D H p = some o := fun {o} e n => xr_get (fun z => by rw [z, ha] at e; exact n xs (Option.some.inj e).symm) (fun z => by rw [z, hD] at e; exact n ys (Option.some.inj e).symm) e
  rcases h with (h | ⟨o, h⟩) | h
  · exact .inl (.inl (go h fun zs e => nomatch e))
  · exact .inl (.inr ⟨o, go h fun zs e => nomatch e⟩)
  · exact .inr h
theorem prs_xr {K : PySem.W.Frag} {a D : Addr} {H : Hp} {us vs : List V} (ha : H a = some (.lst us)) (hD : H D = some (.lst vs)) : ∀ {xs : List V} {qs : List (Int × Int)}, PrsP K H xs qs → PrsP K (xr a D H) xs qs
  | [], [], _ => trivial
  | _ :: _, _ :: _, ⟨⟨p, h1, h2⟩, h⟩ => ⟨⟨p, h1, pair_xr h2 ha hD⟩, prs_xr ha hD h⟩
  | [], _ :: _, h => h.elim
  | _ :: _, [], h => h.elim
theorem prs_x {K : PySem.W.Frag} {a : Addr} {H H' : Hp} {xs : List V} {qs : List (Int × Int)} (h : PrsP K H xs qs) (pot : Pot H a) (e : SmX a H H') : PrsP K H' xs qs := let ⟨_, _, g, _⟩ := pot; prs_butR g e h
def spEntR (K : PySem.W.Frag) : Sp := fun vs H Q _ => ∃ a : Addr, vs = [.ref a] ∧ Pot H a ∧ ∀ (H' : Hp) (p : Addr) (q : Int × Int), SmX a H H' → Pot H' a → PairAt K H' p q → Ent5 q → Q (.ref p) H'
def spRowR (K : PySem.W.Frag) : Sp := fun vs H Q _ => ∃ (a : Addr) (n : Nat), vs = [.ref a, .int n] ∧ Pot H a ∧ n ≤ 60 ∧
  ∀ (H' : Hp) (r : Addr) (xs : List V) (qs : List (Int × Int)), SmX a H H' → Pot H' a → H r = none → H' r = some (.lst xs) → PrsP K H' xs qs → qs.length = n → (∀ q ∈ qs, Ent5 q) → Q (.ref r) H'
def spListR (K : PySem.W.Frag) : Sp := fun vs H Q _ => ∃ (a : Addr) (n m : Nat), vs = [.ref a, .int n, .int m] ∧ Pot H a ∧ n ≤ 60 ∧ m ≤ 60 ∧
  ∀ (H' : Hp) (r : Addr) (xs : List V) (qss : List (List (Int × Int))), SmX a H H' → Pot H' a → H r = none → H' r = some (.lst xs) → PtRows K (xr a r H') xs qss → qss.length = m → (∀ qs ∈ qss, qs.length = n ∧ ∀ q ∈ qs, Ent5 q) → Q (.ref r) H'
def spTableR (K : PySem.W.Frag) : Sp := fun vs H Q _ => ∃ (a : Addr) (n : Nat), vs = [.ref a, .int n] ∧ Pot H a ∧ n ≤ 60 ∧
  ∀ (H' : Hp) (r : Addr) (qss : List (List (Int × Int))), SmX a H H' → Pot H' a → H r = none → LTab K (xr a a H') r qss → qss.length = n → (∀ qs ∈ qss, qs.length = n ∧ ∀ q ∈ qs, EntQ q) → Q (.ref r) H'
section
variable {P : Program} {w : World} {K : PySem.W.Frag} {mg : Str → Option Value} {base : Heap}
theorem sc_entR : FnScope ["_law_pot_here"] ["_law_pot_here"] (defScope sEntR) := ⟨rfl, rfl, rfl, by decide +kernel, rfl, by decide +kernel, by decide +kernel⟩
theorem ok_entR {f f1 : Addr} {fd fd1 : FuncData} (F : Fun K "_law_entry" "_law_entry" sEntR f fd) (D1 : Df K mg "_law_pick" sPick ["_law_pot_here", "_law_some"] f1 fd1) (G1 : FnOk P w K mg base CX0 2 f1 fd1 ["_law_pot_here", "_law_some"] (spPick K)) : FnOk P w K mg base CX0 3 f fd ["_law_pot_here"] (spEntR K) := by
  refine F.ok sc_entR (fun vs H Q E h => ?_) (fun cdv A outer s H vs Q E hr h => ?_)
  · obtain ⟨a, rfl, _⟩ := h
    rfl
  · obtain ⟨a, rfl, pot, q⟩ := h
    refine ⟨_, pss_one (ps_ret (pe_call G1 hr rfl D1.g D1.F.kp D1.b .nil pass0 (pa_cons (pv 0) (pa_cons (pe_lst (t := tPairsR entL) (pa_cons (pe_tup (pa_cons pe_int (pa_cons pe_int pa_nil))) (pa_cons (pe_tup (pa_cons pe_int (pa_cons pe_int pa_nil))) (pa_cons (pe_tup (pa_cons pe_int (pa_cons pe_int pa_nil))) (pa_cons (pe_tup (pa_cons pe_negR (pa_cons pe_int pa_nil))) (pa_cons (pe_tup (pa_cons pe_int (pa_cons pe_int pa_nil)))
      (pa_cons (pe_tup (pa_cons pe_int (pa_cons pe_int pa_nil))) (pa_cons (pe_tup (pa_cons pe_negR (pa_cons pe_int pa_nil))) (pa_cons (pe_tup (pa_cons pe_int (pa_cons pe_int pa_nil))) (pa_cons (pe_tup (pa_cons pe_negR (pa_cons pe_int pa_nil))) (pa_cons (pe_tup (pa_cons pe_int (pa_cons pe_int pa_nil))) pa_nil))))))))))) pa_nil)))), ?_⟩
    refine ⟨_, rfl, tPairs_go (K := K) fun H1 xs s1 hP => ?_⟩
    obtain ⟨lx, hat⟩ := prs_at hP
    have l10 : xs.length = 10 := lx
    refine ⟨szle (by omega), fun b hb => ?_⟩
    have s2 := same_new (o := .lst xs) hb
    have p2 := potS (potS pot s1) s2
    refine ⟨a, b, xs, rfl, p2, upd_same, potF (potS pot s1) hb, (fun e => by rw [e] at l10; cases l10), by omega, fun H2 i v s3 p3 hv => ?_⟩
    obtain ⟨z, p, hz, rfl, hp⟩ := hat i v hv
    obtain ⟨u, u', hu, _⟩ := p2
    exact q H2 p z (((smx_of s1).trans (smx_of s2)).trans s3) p3 (pair_but (pair_sR hp s2) hu s3) (ent_of (List.mem_of_getElem? hz))
abbrev nRowR : List Str := ["_law_pot_here", "_law_wide", "_law_place"]
theorem sc_rowR : FnScope nRowR ["_law_pot_here", "_law_wide"] (defScope sRowR) := ⟨rfl, rfl, rfl, by decide +kernel, rfl, by decide +kernel, by decide +kernel⟩
theorem ok_rowR {f f1 : Addr} {fd fd1 : FuncData} (F : Fun K "_law_row" "_law_row" sRowR f fd) (D1 : Df K mg "_law_entry" sEntR ["_law_pot_here"] f1 fd1) (G1 : FnOk P w K mg base CX0 3 f1 fd1 ["_law_pot_here"] (spEntR K)) (B : Bl mg) : FnOk P w K mg base CX0 4 f fd ["_law_pot_here", "_law_wide"] (spRowR K) := by
  refine F.ok sc_rowR (fun vs H Q E h => ?_) (fun cdv A outer s H vs Q E hr h => ?_)
  · obtain ⟨a, n, rfl, _⟩ := h
    rfl
  · obtain ⟨a, n, rfl, pot, few, q⟩ := h
    refine ⟨_, pss_one (ps_ret (pe_lc (own := [("_law_place", 2)]) (g := gName 2) (tt := tYes) (te := tCall (spEntR K) [] E0 (tCons (tVar 0) tNil)) rfl sc_rowR.nd (pi_range1 rfl B.range (pa_cons (pv 1) pa_nil)) (blkOk_by (N := nRowR) (sc := defScope sRowR) (by decide +kernel))
      (fun _ _ _ _ _ => pg_name (i := 2) sc_rowR.nd rfl (Or.inl rfl)) (fun _ _ _ _ _ => pts_nil) (fun _ _ _ _ _ => pe_call G1 hr rfl D1.g D1.F.kp D1.b .nil pass0 (pa_cons (pv 0) pa_nil)))), ?_⟩
    refine ⟨_, rfl, n, rfl, by omega, by omega, fun D hD => ?_⟩
    rw [Int.toNat_natCast]
    have nDa := potF pot hD
    refine lc_range (lo := 0) (n := n) (fun k G => SmX a H G ∧ Pot G a ∧ ∃ acc qs, G D = some (.lst acc) ∧ PrsP K G acc qs ∧ qs.length = k ∧ ∀ q ∈ qs, Ent5 q) ⟨smx_of (same_new hD), potS pot (same_new hD), [], [], upd_same, trivial, rfl, fun q h => nomatch h⟩ ?_ ?_
    · rintro k G hk ⟨xS, pG, acc, qs, hacc, hP, hl, hE⟩
      refine ⟨rfl, _, rfl, a, rfl, pG, fun G2 p z x2 p2 hp hz => ?_⟩
      have l1 := (prs_at hP).1
      refine ⟨acc, x2 _ _ nDa hacc, szlt (by omega), smxU (xS.trans x2) hD, potU p2 nDa, acc ++ [.ref p], qs ++ [z], upd_same, ?_, by rw [List.length_append, hl]; rfl, fun q hq => ?_⟩
      · exact prs_butR (x2 _ _ nDa hacc) smx_upd (prs_appR (prs_x hP pG x2) ⟨⟨p, rfl, hp⟩, trivial⟩)
      · rcases List.mem_append.mp hq with h | h
        · exact hE q h
        · rw [List.mem_singleton.mp h]; exact hz
    · rintro G ⟨xS, pG, acc, qs, hacc, hP, hl, hE⟩
      exact q G D acc qs xS pG hD hacc hP hl hE
abbrev nListR : List Str := ["_law_pot_here", "_law_wide", "_law_many", "_law_found", "_law_turn"]
theorem sc_listR : FnScope nListR ["_law_pot_here", "_law_wide", "_law_many"] (defScope sListR) := ⟨rfl, rfl, rfl, by decide +kernel, rfl, by decide +kernel, by decide +kernel⟩
theorem ok_listR {f f1 : Addr} {fd fd1 : FuncData} (F : Fun K "_law_list" "_law_list" sListR f fd) (D1 : Df K mg "_law_row" sRowR ["_law_pot_here", "_law_wide"] f1 fd1) (G1 : FnOk P w K mg base CX0 4 f1 fd1 ["_law_pot_here", "_law_wide"] (spRowR K)) (B : Bl mg) : FnOk P w K mg base CX0 5 f fd ["_law_pot_here", "_law_wide", "_law_many"] (spListR K) := by
  refine F.ok sc_listR (fun vs H Q E h => ?_) (fun cdv A outer s H vs Q E hr h => ?_)
  · obtain ⟨a, n, m, rfl, _⟩ := h
    rfl
  · obtain ⟨a, n, m, rfl, pot, few, few2, q⟩ := h
    refine ⟨_, pss_cons (ps_set (i := 3) sc_listR.nd rfl (Or.inl rfl) (pe_lst pa_nil))
      (pss_cons (ps_for PassesOwn.never rfl (pi_range1 rfl B.range (pa_cons (pv 2) pa_nil)) (pg_name (i := 4) sc_listR.nd rfl (Or.inl rfl))
        (pss_one (ps_expr (pe_bm PySem.F.plainAttrs_list PySem.F.slot_list_append PySem.F.type_list_append mt_append (pv 3) (pa_cons (pe_call G1 hr rfl D1.g D1.F.kp D1.b .nil pass0 (pa_cons (pv 0) (pa_cons (pv 1) pa_nil))) pa_nil)))))
      (pss_one (ps_ret (pv 3)))), ?_⟩
    refine ⟨szle (by show 0 ≤ 100000; decide), fun D hD => ?_⟩
    have nDa := potF pot hD
    refine ⟨_, rfl, m, rfl, by omega, by omega, ?_⟩
    rw [Int.toNat_natCast]
    refine for_range (lo := 0) (n := m) (fun k σ G => ∃ (v4 : Option V) (acc : List V) (qss : List (List (Int × Int))), σ = [some (.ref a), some (.int n), some (.int m), some (.ref D), v4] ∧ SmX a H G ∧ Pot G a ∧ G D = some (.lst acc) ∧ PtRows K (xr a D G) acc qss ∧ qss.length = k ∧ ∀ qs ∈ qss, qs.length = n ∧ ∀ q ∈ qs, Ent5 q)
      ⟨_, [], [], rfl, smx_of (same_new hD), potS pot (same_new hD), upd_same, trivial, rfl, fun q h => nomatch h⟩ ?_ ?_
    · rintro k σ G hk ⟨v4, acc, qss, rfl, xS, pG, hacc, hP, hl, hE⟩
      refine ⟨_, rfl, .inl ⟨rfl, _, sl_of hacc⟩, ?_⟩
      refine ⟨_, rfl, _, rfl, a, n, rfl, pG, few, fun G2 r xs qs x2 p2 hr0 hr2 hP2 hl2 hE2 => ?_⟩
      have hacc2 := x2 _ _ nDa hacc
      have nra := potF pG hr0
      have nrD : r ≠ D := fun e => by rw [e, hacc] at hr0; cases hr0
      have l1 := pt_len hP
      obtain ⟨u, u', hu, _⟩ := id p2
      refine ⟨D, acc, _, rfl, rfl, hacc2, szlt (by omega), _, acc ++ [.ref r], qss ++ [qs], rfl, smxU (xS.trans x2) hD, potU p2 nDa, upd_same, ?_, by rw [List.length_append, hl]; rfl, fun z hz => ?_⟩
      · refine pt_app (pt_s ((xr_x x2).trans xr_up) hP) ⟨⟨r, xs, rfl, xr_up _ _ (xr_get nra nrD hr2), prs_sR xr_up (prs_xr hu hacc2 hP2)⟩, trivial⟩
      · rcases List.mem_append.mp hz with h | h
        · exact hE z h
        · rw [List.mem_singleton.mp h]; exact ⟨hl2, hE2⟩
    · rintro σ G ⟨v4, acc, qss, rfl, xS, pG, hacc, hP, hl, hE⟩
      exact ⟨_, rfl, q G D acc qss xS pG hD hacc hP hl hE⟩
theorem pt_set {H : Hp} {b : Addr} {ys : List V} {q : List (Int × Int)} (hb : H b = some (.lst ys)) (hP : PrsP K H ys q) : ∀ {xs : List V} {qs : List (List (Int × Int))} {i : Nat}, PtRows K H xs qs → PtRows K H (xs.set i (.ref b)) (qs.set i q)
  | [], [], _, _ => by simp [PtRows]
  | x :: xs, z :: qs, 0, ⟨_, h⟩ => ⟨⟨b, ys, rfl, hb, hP⟩, h⟩
  | x :: xs, z :: qs, i + 1, ⟨h1, h⟩ => ⟨h1, pt_set hb hP h⟩
  | [], _ :: _, _, h => h.elim
  | _ :: _, [], _, h => h.elim
theorem prs_rep {H : Hp} {p : Addr} {q : Int × Int} (h : PairAt K H p q) : ∀ {n : Nat}, PrsP K H (List.replicate n (.ref p)) (List.replicate n q)
  | 0 => trivial
  | n + 1 => ⟨⟨p, rfl, h⟩, prs_rep h⟩
abbrev nTableR : List Str := ["_law_pot_here", "_law_size", "_law_found", "_law_one", "_law_other", "_law_number", "_law_entry_here"]
theorem sc_tableR : FnScope nTableR ["_law_pot_here", "_law_size"] (defScope sTableR) := ⟨rfl, rfl, rfl, by decide +kernel, rfl, by decide +kernel, by decide +kernel⟩
theorem ok_tableR {f f1 f2 f3 f4 : Addr} {fd fd1 fd2 fd3 fd4 : FuncData} (F : Fun K "_law_table" "_law_table" sTableR f fd) (D1 : Df K mg "_law_list" sListR ["_law_pot_here", "_law_wide", "_law_many"] f1 fd1) (G1 : FnOk P w K mg base CX0 5 f1 fd1 ["_law_pot_here", "_law_wide", "_law_many"] (spListR K))
    (D2 : Df K mg "_law_draw" sDraw ["_law_pot_here", "_law_room"] f2 fd2) (D3 : Df K mg "_law_entry" sEntR ["_law_pot_here"] f3 fd3) (G3 : FnOk P w K mg base CX0 3 f3 fd3 ["_law_pot_here"] (spEntR K)) (D4 : Df K mg "_law_by" sByR ["_law_one", "_law_other"] f4 fd4) (G4 : FnOk P w K mg base CX0 2 f4 fd4 ["_law_one", "_law_other"] (spTwoR K mulQ)) (B : Bl mg) :
    FnOk P w K mg base CX0 6 f fd ["_law_pot_here", "_law_size"] (spTableR K) := by
  have G2 : FnOk P w K mg base CX0 1 f2 fd2 ["_law_pot_here", "_law_room"] spDraw := ok_draw D2.F B
  refine F.ok sc_tableR (fun vs H Q E h => ?_) (fun cdv A outer s H vs Q E hr h => ?_)
  · obtain ⟨a, n, rfl, _⟩ := h
    rfl
  · obtain ⟨a, n, rfl, pot, few, q⟩ := h
    have hr1 : Room 1 _ := hr.mono (by decide)
    have hr2 : Room 2 _ := hr.mono (by decide)
    have hr3 : Room 3 _ := hr.mono (by decide)
    refine ⟨_, pss_cons (ps_set (i := 2) sc_tableR.nd rfl (Or.inl rfl) (pe_call G1 hr rfl D1.g D1.F.kp D1.b .nil pass0 (pa_cons (pv 0) (pa_cons (pv 1) (pa_cons (pv 1) pa_nil)))))
      (C8.pss_cut (ps_if (PW.pt (pw_and (pt_cmpR op_gt (pv 1) pe_int (nomark _)) (pw_and1 (pt_cmpR op_eq (pe_call G2 hr1 rfl D2.g D2.F.kp D2.b .nil pass0 (pa_cons (pv 0) (pa_cons pe_int pa_nil))) pe_int (nomark _)))))
          (pss_cons (ps_asg (pe_tup (pa_cons (pe_call G2 hr1 rfl D2.g D2.F.kp D2.b .nil pass0 (pa_cons (pv 0) (pa_cons (pv 1) pa_nil))) (pa_cons (pe_call G2 hr1 rfl D2.g D2.F.kp D2.b .nil pass0 (pa_cons (pv 0) (pa_cons (pv 1) pa_nil))) (pa_cons (pe_call G3 hr3 rfl D3.g D3.F.kp D3.b .nil pass0 (pa_cons (pv 0) pa_nil)) pa_nil))))
              (pg_tup rfl (pgs_cons (pg_name (i := 3) sc_tableR.nd rfl (Or.inl rfl)) (pgs_cons (pg_name (i := 4) sc_tableR.nd rfl (Or.inl rfl)) (pgs_cons (pg_name (i := 5) sc_tableR.nd rfl (Or.inr rfl)) pgs_nil)))))
          (pss_one (ps_asg (pe_ifExp (pt_cmpR op_ne (pv 3) (pv 4) (nomark _))
              (pe_lc (own := [("_law_entry_here", 6)]) (g := gName 6) (tt := tYes) (te := tCall (spTwoR K mulQ) [] E0 (tCons (tVar 5) (tCons (tVar 6) tNil))) rfl sc_tableR.nd (pi_list (pe_ix ix_list (pv 2) (pv 4) (fun _ _ => rfl))) (blkOk_by (N := nTableR) (sc := defScope sTableR) (by decide +kernel))
                (fun _ _ _ _ _ => pg_name (i := 6) sc_tableR.nd rfl (Or.inl rfl)) (fun _ _ _ _ _ => pts_nil) (fun _ _ _ _ _ => pe_call G4 hr2 rfl D4.g D4.F.kp D4.b .nil pass0 (pa_cons (pv 5) (pa_cons (pv 6) pa_nil))))
              (pe_op op_rep (pe_lst (pa_cons (pe_tup (pa_cons pe_int (pa_cons pe_int pa_nil))) pa_nil)) (pv 1))) (pg_sub (pv 2) (pv 3) set_list)))) pss_nil)
      (pss_one (ps_ret (pv 2)))), ?_⟩
    refine ⟨_, rfl, _, rfl, _, rfl, a, n, n, rfl, pot, few, few, fun H1 D acc qss x1 p1 hD hacc hP hl hE => ?_⟩
    have nDa := potF pot hD
    refine ⟨fun σ G => ∃ (v3 v4 v5 : Option V) (acc' : List V) (qss' : List (List (Int × Int))), σ = [some (V.ref a), some (V.int n), some (V.ref D), v3, v4, v5, none] ∧ SmX a H G ∧ Pot G a ∧ G D = some (.lst acc') ∧ PtRows K (xr a D G) acc' qss' ∧ qss'.length = n ∧ (∀ qs ∈ qss', qs.length = n ∧ ∀ q ∈ qs, EntQ q), ?_, ?_⟩
    · have hE2 : ∀ qs ∈ qss, qs.length = n ∧ ∀ q ∈ qs, EntQ q := fun qs h => ⟨(hE qs h).1, fun q hq => ((hE qs h).2 q hq).1⟩
      have lx := pt_len hP
      refine ⟨_, rfl, _, _, rfl, rfl, _, rfl, ?_⟩
      refine ite2 (fun c => ?_) (fun c => ?_)
      · have n1 : 1 < n := by have := of_decide_eq_true c; omega
        refine ⟨_, rfl, a, 3, rfl, p1, by decide, by decide, fun H2 d x2 p2 d0 d1 => ⟨rfl, _, rfl, ?_⟩⟩
        refine ite2 (fun c2 => ?_) (fun c2 => ?_)
        · refine ⟨_, rfl, _, rfl, a, n, rfl, p2, by omega, by omega, fun H3 i x3 p3 i0 i1 => ?_⟩
          refine ⟨_, rfl, _, rfl, a, n, rfl, p3, by omega, by omega, fun H4 j x4 p4 j0 j1 => ?_⟩
          refine ⟨_, rfl, a, rfl, p4, fun H5 p z x5 p5 hp hz => ⟨szle (by show 3 ≤ 100000; decide), fun t ht => ?_⟩⟩
          have st := same_new (o := .tup [V.int i, V.int j, V.ref p]) ht
          have x15 := (((x2.trans x3).trans x4).trans x5).trans (smx_of st)
          have p6 := potS p5 st
          refine ⟨t, _, rfl, st_of upd_same, rfl, _, _, rfl, _, _, rfl, _, _, rfl, rfl, ?_⟩
          have hp6 := pair_sR hp st
          have x6 := x1.trans x15
          have hacc6 := x15 _ _ nDa hacc
          have hP6 := pt_s (xr_x (D := D) x15) hP
          generalize upd H5 t (.tup [V.int i, V.int j, V.ref p]) = G at hp6 x6 hacc6 hP6 p6
          clear x15 st ht hP hacc x5 x4 x3 x2 p5 p4 p3 p2 hp
          have fin : ∀ (G' : Hp) (D2 : Addr) (ac : List V) (row : List (Int × Int)), Same G G' → G D2 = none → G' D2 = some (.lst ac) → PrsP K G' ac row → row.length = n → (∀ q ∈ row, EntQ q) →
              gSub (tVar 2) (tVar 3) rSetL (.ref D2) [some (V.ref a), some (V.int n), some (V.ref D), some (V.int i), some (V.int j), some (V.ref p), none] G' (fun σ G => ∃ (v3 v4 v5 : Option V) (acc' : List V) (qss' : List (List (Int × Int))), σ = [some (V.ref a), some (V.int n), some (V.ref D), v3, v4, v5, none] ∧ SmX a H G ∧ Pot G a ∧ G D = some (.lst acc') ∧ PtRows K (xr a D G) acc' qss' ∧ qss'.length = n ∧ (∀ qs ∈ qss', qs.length = n ∧ ∀ q ∈ qs, EntQ q)) := by
            intro G' D2 ac row sG hD2 hac hQ hlr hEr
            have nD2a := potF p6 hD2
            have nD2D : D2 ≠ D := fun e => by rw [e, hacc6] at hD2; cases hD2
            have haccG := sG _ _ hacc6
            obtain ⟨u, u', hu, _⟩ := potS p6 sG
            refine ⟨_, rfl, _, rfl, D, acc, _, i.toNat, rfl, rfl, haccG, ixN_p i0 (by omega), ?_⟩
            refine ⟨_, _, _, _, qss.set i.toNat row, rfl, smxU (x6.trans (smx_of sG)) hD, potU (potS p6 sG) nDa, upd_same, ?_, by rw [List.length_set]; exact hl, fun qs hqs => ?_⟩
            · exact pt_set (xr_up _ _ (xr_get nD2a nD2D hac)) (prs_sR xr_up (prs_xr hu haccG hQ)) (pt_s ((xr_s sG).trans xr_up) hP6)
            · rcases List.mem_or_eq_of_mem_set hqs with h | h
              · exact hE2 qs h
              · rw [h]; exact ⟨hlr, hEr⟩
          refine ⟨_, rfl, _, rfl, rfl, _, rfl, ?_⟩
          refine ite2 (fun c3 => ?_) (fun c3 => ?_)
          · have jl : j.toNat < acc.length := by omega
            obtain ⟨q1, b, zs, f1, f2, f3, f4⟩ := pt_at hP6 j.toNat _ (List.getElem?_eq_getElem jl)
            have e1 := hE q1 (List.mem_of_getElem? f1)
            have lz := (prs_at f4).1
            refine ⟨_, rfl, _, rfl, D, acc, _, _, rfl, rfl, sl_of hacc6, atI_p j0 (List.getElem?_eq_getElem jl), b, f2, ⟨zs, sl_of (xr_le _ _ f3)⟩, fun D2 hD2 => ?_⟩
            refine lc_list (xs := zs) (fun k G' => Same G G' ∧ ∃ ac, G' D2 = some (.lst ac) ∧ PrsP K G' ac ((q1.map fun e => mulQ z e).take k)) ⟨same_new hD2, [], upd_same, by simp [PrsP]⟩ (fun k G' _ p => sl_of (p.1 _ _ (xr_le _ _ f3))) ?_ ?_
            · rintro k y G' hy ⟨sG, ac, hac, hQ⟩
              obtain ⟨z2, p2, hz2, rfl, hp2⟩ := (prs_at f4).2 k y hy
              have fewk := (prs_at hQ).1
              have : ((q1.map fun e => mulQ z e).take k).length ≤ 60 := by rw [List.length_take, List.length_map]; omega
              refine ⟨rfl, _, rfl, _, rfl, p, p2, z, z2, rfl, pair_sR hp6 sG, pair_sR hp2 (xr_le.trans sG), ent_small hz.1, ent_small (e1.2 z2 (List.mem_of_getElem? hz2)).1, fun G2 r s2 _ hr2 => ?_⟩
              refine ⟨ac, s2 _ _ hac, szlt (by omega), same_mut (sG.trans s2) hD2, ac ++ [.ref r], upd_same, ?_⟩
              rw [take_at (x := mulQ z z2) (by rw [List.getElem?_map, hz2]; rfl)]
              exact prs_butR (s2 _ _ hac) smx_upd (prs_appR (prs_sR s2 hQ) ⟨⟨r, rfl, hr2⟩, trivial⟩)
            · rintro G' ⟨sG, ac, hac, hQ⟩
              rw [show (q1.map fun e => mulQ z e).take zs.length = q1.map fun e => mulQ z e from List.take_of_length_le (by rw [List.length_map]; omega)] at hQ
              refine fin G' D2 ac _ sG hD2 hac hQ (by rw [List.length_map]; exact e1.1) fun q hq => ?_
              obtain ⟨y, hy, rfl⟩ := List.mem_map.mp hq
              have e2 := e1.2 y hy
              exact ent_mul hz.1.low e2.1.low hz.2.1 hz.2.2 e2.2.1 e2.2.2
          · refine ⟨szle (by show 2 ≤ 100000; decide), fun t ht => ⟨szle (by show 1 ≤ 100000; decide), fun b hb => ?_⟩⟩
            have s1 := same_new (o := .tup [V.int 0, V.int 1]) ht
            have s2 := same_new (o := .lst [V.ref t]) hb
            refine ⟨_, rfl, b, n, [V.ref t], rfl, rfl, upd_same, by omega, by omega, szle (by show 1 * (n : Int).toNat ≤ 100000; omega), fun D2 hD2 => ?_⟩
            have s3 := same_new (o := .lst (List.replicate (n : Int).toNat [V.ref t]).flatten) hD2
            refine fin _ D2 _ (List.replicate n (0, 1)) ((s1.trans s2).trans s3) ((s1.trans s2).free hD2) upd_same ?_ (List.length_replicate ..) fun q hq => ?_
            · rw [show (List.replicate (n : Int).toNat [V.ref t]).flatten = List.replicate n (V.ref t) by rw [Int.toNat_natCast, List.flatten_replicate_singleton]]
              exact prs_rep (pair_sR (K := K) (q := (0, 1)) (st_of upd_same) (s2.trans (same_new hD2)))
            · rw [(List.mem_replicate.mp hq).2]
              exact (ent_of (q := (0, 1)) (by decide)).1
        · exact ⟨_, _, _, acc, qss, rfl, x1.trans x2, p2, x2 _ _ nDa hacc, pt_s (xr_x x2) hP, hl, hE2⟩
      · exact ⟨_, _, _, acc, qss, rfl, x1, p1, hacc, hP, hl, hE2⟩
    · rintro σ G ⟨v3, v4, v5, acc', qss', rfl, xS, pG, hacc', hP', hl', hE'⟩
      exact ⟨_, rfl, q G D qss' xS pG hD ⟨acc', xr_get nDa nDa hacc', pt_s xr_sub hP'⟩ hl' hE'⟩
end
end Tk

namespace Tk
open PySem PySem.Spec PyProof.Rows L2 ClX
/-! ## tables whose lists and tuples stand as such: they show as a text -/
def EqA (H : Hp) (a : Addr) (xs : List V) : Prop := H a = some (.lst xs) ∨ H a = some (.tup xs)
theorem eqA_s {H H' : Hp} {a : Addr} {xs : List V} (h : EqA H a xs) (e : Same H H') : EqA H' a xs := h.elim (fun h => .inl (e _ _ h)) (fun h => .inr (e _ _ h))
theorem eqA_a {K : PySem.W.Frag} {H : Hp} {a : Addr} {xs : List V} (h : EqA H a xs) : SqA K H a xs := h.elim (fun h => .inl (sl_of h)) (fun h => .inr (st_of h))
def RowX (C : Addr) (H : Hp) (v : V) (qs : List (Int × Int)) : Prop := ∃ a xs, v = .ref a ∧ EqA H a xs ∧ NumsP C H xs qs
theorem rowX_s {C : Addr} {H H' : Hp} {v : V} {qs : List (Int × Int)} (h : RowX C H v qs) (e : Same H H') : RowX C H' v qs := let ⟨a, xs, h1, h2, h3⟩ := h; ⟨a, xs, h1, eqA_s h2 e, nums_s e h3⟩
theorem rowX_row {K : PySem.W.Frag} {C : Addr} {H : Hp} {v : V} {qs : List (Int × Int)} (h : RowX C H v qs) : RowAt K C H v qs := let ⟨a, xs, h1, h2, h3⟩ := h; ⟨a, xs, h1, eqA_a h2, h3⟩
def RowsX (C : Addr) (H : Hp) : List V → List (List (Int × Int)) → Prop
  | [], [] => True
  | x :: xs, q :: qs => RowX C H x q ∧ RowsX C H xs qs
  | _, _ => False
theorem rowsX_s {C : Addr} {H H' : Hp} (e : Same H H') : ∀ {xs : List V} {qs : List (List (Int × Int))}, RowsX C H xs qs → RowsX C H' xs qs
  | [], [], _ => trivial
  | _ :: _, _ :: _, ⟨h1, h⟩ => ⟨rowX_s h1 e, rowsX_s e h⟩
  | [], _ :: _, h => h.elim
  | _ :: _, [], h => h.elim
theorem rowsX_app {C : Addr} {H : Hp} : ∀ {xs ys : List V} {qs rs : List (List (Int × Int))}, RowsX C H xs qs → RowsX C H ys rs → RowsX C H (xs ++ ys) (qs ++ rs)
  | [], _, [], _, _, h => h
  | _ :: _, _, _ :: _, _, ⟨h1, h2⟩, h => ⟨h1, rowsX_app h2 h⟩
  | [], _, _ :: _, _, h, _ => h.elim
  | _ :: _, _, [], _, h, _ => h.elim
theorem rowsX_len {C : Addr} {H : Hp} : ∀ {xs : List V} {qs : List (List (Int × Int))}, RowsX C H xs qs → xs.length = qs.length
  | [], [], _ => rfl
  | _ :: _, _ :: _, ⟨_, h⟩ => by rw [List.length_cons, List.length_cons, rowsX_len h]
  | [], _ :: _, h => h.elim
  | _ :: _, [], h => h.elim
theorem rowsX_rows {K : PySem.W.Frag} {C : Addr} {H : Hp} : ∀ {xs : List V} {qs : List (List (Int × Int))}, RowsX C H xs qs → RowsP K C H xs qs
  | [], [], _ => trivial
  | _ :: _, _ :: _, ⟨h1, h⟩ => ⟨rowX_row h1, rowsX_rows h⟩
  | [], _ :: _, h => h.elim
  | _ :: _, [], h => h.elim
def TabX (C : Addr) (H : Hp) (v : V) (n : Nat) (qss : List (List (Int × Int))) : Prop := n ≤ 6 ∧ qss.length = n ∧ (∀ qs ∈ qss, qs.length = n) ∧ ∃ a xs, v = .ref a ∧ EqA H a xs ∧ RowsX C H xs qss
theorem tabX_s {C : Addr} {H H' : Hp} {v : V} {n : Nat} {qss : List (List (Int × Int))} (h : TabX C H v n qss) (e : Same H H') : TabX C H' v n qss := let ⟨h1, h2, h3, a, xs, h4, h5, h6⟩ := h; ⟨h1, h2, h3, a, xs, h4, eqA_s h5 e, rowsX_s e h6⟩
theorem tabX_tab {K : PySem.W.Frag} {C : Addr} {H : Hp} {v : V} {n : Nat} {qss : List (List (Int × Int))} (h : TabX C H v n qss) : TabAt K C H v n qss := let ⟨h1, h2, h3, a, xs, h4, h5, h6⟩ := h; ⟨h1, h2, h3, a, xs, h4, eqA_a h5, rowsX_rows h6⟩
/-! texts -/
theorem tupText_len (ts : List Str) : (tupleText ts).length ≤ (ts.map (·.length)).sum + 2 * ts.length + 4 := by
  have h1 := listText_len_le ts
  have h2 := listText_eq_join ts
  rw [h2] at h1
  unfold tupleText
  simp only [strLen_append] at h1 ⊢
  have e1 : (("[" : String) : Str).length = 1 := rfl
  have e2 : (("]" : String) : Str).length = 1 := rfl
  have e3 : (("(" : String) : Str).length = 1 := rfl
  have e4 : ((if (ts.length == 1) = true then (",)" : String) else ")" : String) : Str).length ≤ 2 := by split <;> decide +kernel
  omega
theorem sum_len_le {b : Nat} : ∀ {ts : List Str}, (∀ t ∈ ts, t.length ≤ b) → (ts.map (·.length)).sum ≤ ts.length * b
  | [], _ => by simp
  | t :: ts, h => by
    have h1 := h t (by simp)
    have h2 := sum_len_le (b := b) (ts := ts) fun u hu => h u (by simp [hu])
    simp only [List.map_cons, List.sum_cons, List.length_cons, Nat.succ_mul]
    omega
theorem txa_nums {C : Addr} {H : Hp} : ∀ {xs : List V} {qs : List (Int × Int)}, NumsP C H xs qs → (∀ q ∈ qs, Tiny q) → ∃ ts, TxA (ShowQ C) H xs ts 0 ∧ ∀ t ∈ ts, t.length ≤ 500
  | [], [], _, _ => ⟨[], .nil, fun t h => nomatch h⟩
  | x :: xs, q :: qs, ⟨h1, h⟩, hq => by
    obtain ⟨ts, h2, h3⟩ := txa_nums h fun r hr => hq r (by simp [hr])
    have tq := hq q (by simp)
    have a1 := int_len tq.1
    have a2 := int_len tq.2
    rcases h1 with ⟨p, rfl, hp⟩ | ⟨i, rfl, rfl⟩
    · refine ⟨rpQ q :: ts, .cons (m := 0) (n := 0) (.own ⟨q, hp, tq, rfl⟩) h2, fun t ht => ?_⟩
      rcases List.mem_cons.mp ht with rfl | ht
      · unfold rpQ
        simp only [strLen_append]
        have e1 : (("Ratio(" : String) : Str).length = 6 := rfl
        have e2 : ((", " : String) : Str).length = 2 := rfl
        have e3 : ((")" : String) : Str).length = 1 := rfl
        omega
      · exact h3 t ht
    · refine ⟨(PyData.int i).shown :: ts, .cons (m := 0) (n := 0) (.int i ?_) h2, fun t ht => ?_⟩
      · simp only [PyData.showable]
        exact decide_eq_true (tiny_log tq.1)
      · rcases List.mem_cons.mp ht with rfl | ht
        · have : (PyData.int i).shown.length ≤ 201 := a1
          omega
        · exact h3 t ht
  | [], _ :: _, h, _ => h.elim
  | _ :: _, [], h, _ => h.elim
theorem tx_eqA {R : Hp → Addr → Str → Prop} {H : Hp} {a : Addr} {xs : List V} {ts : List Str} {n b : Nat} (h : EqA H a xs) (f : xs.length ≤ 6) (g : TxA R H xs ts n) (hb : ∀ t ∈ ts, t.length ≤ b) : ∃ t, Tx R H (.ref a) t (n + 1) ∧ t.length ≤ 6 * b + 16 := by
  have lt := txa_len g
  have s := sum_len_le hb
  have s2 : ts.length * b ≤ 6 * b := Nat.mul_le_mul_right _ (by omega)
  rcases h with h | h
  · refine ⟨_, .lst h (by omega) g, ?_⟩
    have := listText_len_le ts
    omega
  · refine ⟨_, .tup h (by omega) g, ?_⟩
    have := tupText_len ts
    omega
theorem txa_rowsX {C : Addr} {H : Hp} : ∀ {xs : List V} {qss : List (List (Int × Int))}, RowsX C H xs qss → (∀ qs ∈ qss, qs.length ≤ 6 ∧ ∀ q ∈ qs, Tiny q) → ∃ ts n, TxA (ShowQ C) H xs ts n ∧ n ≤ 1 ∧ ∀ t ∈ ts, t.length ≤ 3016
  | [], [], _, _ => ⟨[], 0, .nil, by omega, fun t h => nomatch h⟩
  | x :: xs, q :: qs, ⟨⟨a, ys, e0, h1, h2⟩, h⟩, hq => by
    subst e0
    obtain ⟨ts, n, g1, g2, g3⟩ := txa_rowsX h fun r hr => hq r (by simp [hr])
    obtain ⟨lq, tq⟩ := hq q (by simp)
    obtain ⟨us, f1, f2⟩ := txa_nums h2 tq
    obtain ⟨t, e1, e2⟩ := tx_eqA h1 (by rw [(nums_at h2).1]; exact lq) f1 f2
    refine ⟨t :: ts, _, .cons e1 g1, by omega, fun u hu => ?_⟩
    rcases List.mem_cons.mp hu with rfl | hu
    · omega
    · exact g3 u hu
  | [], _ :: _, h, _ => h.elim
  | _ :: _, [], h, _ => h.elim
theorem tx_tabX {C : Addr} {H : Hp} {v : V} {n : Nat} {qss : List (List (Int × Int))} (h : TabX C H v n qss) (hq : ∀ qs ∈ qss, ∀ q ∈ qs, Tiny q) : ∃ t m, Tx (ShowQ C) H v t m ∧ m ≤ 2 ∧ t.length ≤ 20000 := by
  obtain ⟨n6, hl, hw, a, xs, rfl, h1, h2⟩ := h
  obtain ⟨ts, m, g1, g2, g3⟩ := txa_rowsX h2 fun qs hqs => ⟨by rw [hw qs hqs]; exact n6, hq qs hqs⟩
  obtain ⟨t, e1, e2⟩ := tx_eqA h1 (by rw [rowsX_len h2]; omega) g1 g3
  exact ⟨t, _, e1, by omega, by omega⟩
end Tk

namespace Tk
open PySem PySem.Spec PyProof.Rows L2 ClX
abbrev sPasR : Stmt := top 48
abbrev sGivRow : Stmt := top 49
abbrev sGivR : Stmt := top 50
abbrev sRowsR : Stmt := top 53
/-! ## tables as they are passed; told tables as the law's own -/
theorem rat_xr {C a D p : Addr} {H : Hp} {q : Int × Int} {xs ys : List V} (h : RatAt C H p q) (ha : H a = some (.lst xs)) (hD : H D = some (.lst ys)) : RatAt C (xr a D H) p q := by
  obtain ⟨dx, h⟩ := h
  exact ⟨dx, xr_get (fun z => by rw [z, ha] at h; cases h) (fun z => by rw [z, hD] at h; cases h) h⟩
theorem num_xr {C a D : Addr} {H : Hp} {v : V} {q : Int × Int} {xs ys : List V} (h : NumAt C H v q) (ha : H a = some (.lst xs)) (hD : H D = some (.lst ys)) : NumAt C (xr a D H) v q := by
  rcases h with ⟨p, e, h⟩ | h
  · exact .inl ⟨p, e, rat_xr h ha hD⟩
  · exact .inr h
theorem nums_xr {C a D : Addr} {H : Hp} {us vs : List V} (ha : H a = some (.lst us)) (hD : H D = some (.lst vs)) : ∀ {xs : List V} {qs : List (Int × Int)}, NumsP C H xs qs → NumsP C (xr a D H) xs qs
  | [], [], _ => trivial
  | _ :: _, _ :: _, ⟨h1, h⟩ => ⟨num_xr h1 ha hD, nums_xr ha hD h⟩
  | [], _ :: _, h => h.elim
  | _ :: _, [], h => h.elim
theorem num_but {C l : Addr} {H H' : Hp} {v : V} {q : Int × Int} {xs : List V} (h : NumAt C H v q) (hl : H l = some (.lst xs)) (e : SmX l H H') : NumAt C H' v q := by
  rcases h with ⟨p, e1, h⟩ | h
  · exact .inl ⟨p, e1, rat_but h hl e⟩
  · exact .inr h
theorem nums_but {C l : Addr} {H H' : Hp} {zs : List V} (hl : H l = some (.lst zs)) (e : SmX l H H') : ∀ {xs : List V} {qs : List (Int × Int)}, NumsP C H xs qs → NumsP C H' xs qs
  | [], [], _ => trivial
  | _ :: _, _ :: _, ⟨h1, h⟩ => ⟨num_but h1 hl e, nums_but hl e h⟩
  | [], _ :: _, h => h.elim
  | _ :: _, [], h => h.elim
theorem nums_app {C : Addr} {H : Hp} : ∀ {xs ys : List V} {qs rs : List (Int × Int)}, NumsP C H xs qs → NumsP C H ys rs → NumsP C H (xs ++ ys) (qs ++ rs)
  | [], _, [], _, _, h => h
  | _ :: _, _, _ :: _, _, ⟨h1, h2⟩, h => ⟨h1, nums_app h2 h⟩
  | [], _, _ :: _, _, h, _ => h.elim
  | _ :: _, _, [], _, h, _ => h.elim
theorem rows_app {K : PySem.W.Frag} {C : Addr} {H : Hp} : ∀ {xs ys : List V} {qs rs : List (List (Int × Int))}, RowsP K C H xs qs → RowsP K C H ys rs → RowsP K C H (xs ++ ys) (qs ++ rs)
  | [], _, [], _, _, h => h
  | _ :: _, _, _ :: _, _, ⟨h1, h2⟩, h => ⟨h1, rows_app h2 h⟩
  | [], _, _ :: _, _, h, _ => h.elim
  | _ :: _, _, [], _, h, _ => h.elim
/-- what is passed is good -/
structure GoodR (q : Int × Int) : Prop where
  low : LowQ q
  small : Small q
theorem ent_good {q : Int × Int} (h : EntQ q) : GoodR q := ⟨h.low, ent_small h⟩
def spPasR (K : PySem.W.Frag) (C : Addr) : Sp := fun vs H Q _ => ∃ (a p : Addr) (q : Int × Int), vs = [.ref a, .ref p] ∧ Pot H a ∧ PairAt K H p q ∧ GoodR q ∧ ∀ (H' : Hp) (v : V), SmX a H H' → Pot H' a → NumAt C H' v q → Q v H'
def spGivRow (K : PySem.W.Frag) (C : Addr) : Sp := fun vs H Q _ => ∃ (a r : Addr) (xs : List V) (qs : List (Int × Int)), vs = [.ref a, .ref r] ∧ Pot H a ∧ r ≠ a ∧ H r = some (.lst xs) ∧ PrsP K H xs qs ∧ qs.length ≤ 60 ∧ (∀ q ∈ qs, GoodR q) ∧
  ∀ (H' : Hp) (b : Addr), SmX a H H' → Pot H' a → H b = none → RowX C (xr a a H') (.ref b) qs → Q (.ref b) H'
def spGivR (K : PySem.W.Frag) (C : Addr) : Sp := fun vs H Q _ => ∃ (a r : Addr) (n : Nat) (qss : List (List (Int × Int))), vs = [.ref a, .ref r] ∧ Pot H a ∧ LTab K (xr a a H) r qss ∧ n ≤ 6 ∧ qss.length = n ∧ (∀ qs ∈ qss, qs.length = n ∧ ∀ q ∈ qs, GoodR q) ∧
  ∀ (H' : Hp) (b : Addr), SmX a H H' → Pot H' a → H b = none → TabX C (xr a a H') (.ref b) n qss → Q (.ref b) H'
def spPairsN (K : PySem.W.Frag) (C : Addr) : Sp := fun vs H Q _ => ∃ (a : Addr) (xs : List V) (qs : List (Int × Int)), vs = [.ref a] ∧ H a = some (.lst xs) ∧ RatsP C H xs qs ∧ qs.length ≤ 60 ∧
  ∀ (H' : Hp) (r : Addr) (ys : List V), Same H H' → H r = none → H' r = some (.lst ys) → PrsP K H' ys qs → Q (.ref r) H'
def spRowsN (K : PySem.W.Frag) (C : Addr) : Sp := fun vs H Q _ => ∃ (a : Addr) (qss : List (List (Int × Int))), vs = [.ref a] ∧ RtTab C H a qss ∧ qss.length ≤ 60 ∧ (∀ qs ∈ qss, qs.length ≤ 60) ∧ NewLT K H Q qss
section
variable {P : Program} {w : World} {K : PySem.W.Frag} {mg : Str → Option Value} {base : Heap}
abbrev nPasR : List Str := ["_law_pot_here", "_law_pair_here", "_law_is_small"]
theorem sc_pasR : FnScope nPasR ["_law_pot_here", "_law_pair_here"] (defScope sPasR) := ⟨rfl, rfl, rfl, by decide +kernel, rfl, by decide +kernel, by decide +kernel⟩
theorem ok_pasR {f f1 fI f3 C : Addr} {fd fd1 dI fd3 : FuncData} (F : Fun K "_law_passed" "_law_passed" sPasR f fd) (M : RtM K mg C fI dI) (D1 : Df K mg "_law_draw" sDraw ["_law_pot_here", "_law_room"] f1 fd1) (D3 : Df K mg "is_integer" sIsInt ["value"] f3 fd3) (B : Bl mg) :
    FnOk P w K mg base CX0 4 f fd ["_law_pot_here", "_law_pair_here"] (spPasR K C) := by
  have G1 : FnOk P w K mg base CX0 1 f1 fd1 ["_law_pot_here", "_law_room"] spDraw := ok_draw D1.F B
  have GI : FnOk P w K mg base CX0 2 fI dI ["self", "top", "bottom"] (spRInit C) := ok_rinit M.FI M.c D3 B
  refine F.ok sc_pasR (fun vs H Q E h => ?_) (fun cdv A outer s H vs Q E hr h => ?_)
  · obtain ⟨a, p, q, rfl, _⟩ := h
    rfl
  · obtain ⟨a, p, z, rfl, pot, hp, hz, q⟩ := h
    have hr1 : Room 1 _ := hr.mono (by decide)
    refine ⟨_, pss_cons (ps_set (i := 2) sc_pasR.nd rfl (Or.inl rfl) (pe_and (pe_cmpR op_eq (pe_ix ix_tup (pv 1) pe_int (fun _ _ => rfl)) pe_int (nomark _)) (pe_one (pe_cmpR op_lt (pe_callB call_abs (by rfl) B.abs PyProof.Rows.boot_abs (pa_cons (pe_ix ix_tup (pv 1) pe_int (fun _ _ => rfl)) pa_nil)) (pe_op op_pow pe_int pe_int) (nomark _)))))
      (pss_one (ps_ret (pe_ifExp (PW.pt (pw_and (pt_val (pv 2)) (pw_and1 (pt_cmpR op_eq (pe_call G1 hr1 rfl D1.g D1.F.kp D1.b .nil pass0 (pa_cons (pv 0) (pa_cons pe_int pa_nil))) pe_int (nomark _)))))
        (pe_ix ix_tup (pv 1) pe_int (fun _ _ => rfl))
        (pe_make M.mkr GI hr rfl M.c.mgC M.bI .nil pass0 (pa_cons (pe_ix ix_tup (pv 1) pe_int (fun _ _ => rfl)) (pa_cons (pe_ix ix_tup (pv 1) pe_int (fun _ _ => rfl)) pa_nil)))))), ?_⟩
    have mk : ∀ (G : Hp) (σ : L2.St), σ[1]? = some (some (.ref p)) → SmX a H G → Pot G a → tMake C (spRInit C) [] E0 (tCons (tOp (rIxT K) (tVar 1) (tC (.int 0))) (tCons (tOp (rIxT K) (tVar 1) (tC (.int 1))) tNil)) σ G Q := by
      intro G σ hσ xS pG
      obtain ⟨u, u', hu, _⟩ := pot
      have hpG := pair_but hp hu xS
      refine ⟨_, hσ, p, _, _, _, rfl, rfl, hpG, at_i0, _, hσ, p, _, _, _, rfl, rfl, hpG, at_i1, fun x dx nx ndx nex => ?_⟩
      have sm : Same G (upd (upd G dx (.own x)) x (.ins C dx [])) := fun b o e => by
        rw [upd_ne (ne_of_none e nx), upd_ne (ne_of_none e ndx)]
        exact e
      refine ⟨x, dx, z.1, z.2, rfl, upd_same, hz.low.ne, (by have := hz.small.bot; omega), fun H' keep hr' => ⟨rfl, ?_⟩⟩
      have s2 : Same G H' := fun b o e => keep b o (ne_of_none e nx) (sm b o e)
      rw [low_self hz.low.pos hz.low.cop] at hr'
      exact q H' (.ref x) (xS.trans (smx_of s2)) (potS pG s2) (.inl ⟨x, rfl, hr'⟩)
    refine ⟨_, rfl, p, _, _, _, rfl, rfl, hp, at_i1, ?_⟩
    refine ⟨rfl, _, rfl, ?_⟩
    refine ite2 (fun c => ?_) (fun c => ?_)
    · have z2 : z.2 = 1 := V.int.inj (of_decide_eq_true c)
      refine ⟨_, rfl, p, _, _, _, rfl, rfl, hp, at_i0, _, rfl, _, _, rfl, rfl, ⟨by decide, by decide, by decide⟩, _, _, rfl, rfl, ?_⟩
      refine ⟨_, rfl, _, rfl, ?_⟩
      refine ite2 (fun c2 => ?_) (fun c2 => ?_)
      · refine ⟨_, rfl, a, 2, rfl, pot, by decide, by decide, fun H1 d x1 p1 d0 d1 => ⟨rfl, _, rfl, ?_⟩⟩
        refine ite2 (fun c3 => ?_) (fun c3 => ?_)
        · obtain ⟨u, u', hu, _⟩ := pot
          exact ⟨_, rfl, p, _, _, _, rfl, rfl, pair_but hp hu x1, at_i0, q H1 _ x1 p1 (.inr ⟨z.1, rfl, Prod.ext rfl z2⟩)⟩
        · exact mk H1 _ rfl x1 p1
      · exact mk H _ rfl (SmX.refl a H) pot
    · exact ⟨_, rfl, false, rfl, mk H _ rfl (SmX.refl a H) pot⟩
abbrev nGivRow : List Str := ["_law_pot_here", "_law_row_here", "_law_found", "_law_pair_here"]
theorem sc_givRow : FnScope nGivRow ["_law_pot_here", "_law_row_here"] (defScope sGivRow) := ⟨rfl, rfl, rfl, by decide +kernel, rfl, by decide +kernel, by decide +kernel⟩
theorem ok_givRow {f f1 f2 C : Addr} {fd fd1 fd2 : FuncData} (F : Fun K "_law_given_row" "_law_given_row" sGivRow f fd) (D1 : Df K mg "_law_draw" sDraw ["_law_pot_here", "_law_room"] f1 fd1) (D2 : Df K mg "_law_passed" sPasR ["_law_pot_here", "_law_pair_here"] f2 fd2) (G2 : FnOk P w K mg base CX0 4 f2 fd2 ["_law_pot_here", "_law_pair_here"] (spPasR K C)) (B : Bl mg) :
    FnOk P w K mg base CX0 5 f fd ["_law_pot_here", "_law_row_here"] (spGivRow K C) := by
  have G1 : FnOk P w K mg base CX0 1 f1 fd1 ["_law_pot_here", "_law_room"] spDraw := ok_draw D1.F B
  refine F.ok sc_givRow (fun vs H Q E h => ?_) (fun cdv A outer s H vs Q E hr h => ?_)
  · obtain ⟨a, r, xs, qs, rfl, _⟩ := h
    rfl
  · obtain ⟨a, r, xs, qs, rfl, pot, nra, hr0, hP, few, hg, q⟩ := h
    have hr1 : Room 1 _ := hr.mono (by decide)
    refine ⟨_, pss_cons (ps_setLc (i := 2) (own := [("_law_pair_here", 3)]) (g := gName 3) (tt := tYes) (te := tCall (spPasR K C) [] E0 (tCons (tVar 0) (tCons (tVar 3) tNil))) rfl sc_givRow.nd rfl rfl (sw_true rfl rfl rfl (by decide +kernel)) (pi_list (pv 1)) (blkOk_by (N := nGivRow) (sc := defScope sGivRow) (by decide +kernel))
        (fun _ _ _ _ _ => pg_name (i := 3) sc_givRow.nd rfl (Or.inl rfl)) (fun _ _ _ _ _ => pts_nil) (fun _ _ _ _ _ => pe_call G2 hr rfl D2.g D2.F.kp D2.b .nil pass0 (pa_cons (pv 0) (pa_cons (pv 3) pa_nil))))
      (pss_one (ps_ret (pe_ifExp (pt_cmpR op_eq (pe_call G1 hr1 rfl D1.g D1.F.kp D1.b .nil pass0 (pa_cons (pv 0) (pa_cons pe_int pa_nil))) pe_int (nomark _)) (pe_callTy call_tuple_of (by rfl) B.tuple PySem.Pv.boot_tuple (pa_cons (pv 2) pa_nil)) (pv 2)))), ?_⟩
    obtain ⟨lx, hat⟩ := prs_at hP
    refine ⟨_, rfl, r, rfl, ⟨xs, sl_of hr0⟩, fun D hD => ?_⟩
    have nDa := potF pot hD
    refine lc_list (xs := xs) (fun k G => SmX a H G ∧ Pot G a ∧ ∃ acc, G D = some (.lst acc) ∧ NumsP C G acc (qs.take k)) ⟨smx_of (same_new hD), potS pot (same_new hD), [], upd_same, by simp [NumsP]⟩ (fun j G _ p => sl_of (p.1 _ _ nra hr0)) ?_ ?_
    · rintro k y G hy ⟨xS, pG, acc, hacc, hQ⟩
      obtain ⟨z, p, hz, rfl, hp⟩ := hat k y hy
      have l1 := (nums_at hQ).1
      have : (qs.take k).length ≤ 60 := by rw [List.length_take]; omega
      obtain ⟨u, u', hu, _⟩ := id pot
      obtain ⟨w1, w2, hw, _⟩ := id pG
      refine ⟨rfl, _, rfl, _, rfl, a, p, z, rfl, pG, pair_but hp hu xS, hg z (List.mem_of_getElem? hz), fun G2 v x2 p2 hv => ?_⟩
      refine ⟨acc, x2 _ _ nDa hacc, szlt (by omega), smxU (xS.trans x2) hD, potU p2 nDa, acc ++ [v], upd_same, ?_⟩
      rw [take_at hz]
      exact nums_but (x2 _ _ nDa hacc) smx_upd (nums_app (nums_but hw x2 hQ) ⟨hv, trivial⟩)
    · rintro G ⟨xS, pG, acc, hacc, hQ⟩
      rw [show qs.take xs.length = qs by rw [lx, List.take_length]] at hQ
      obtain ⟨w1, w2, hw, _⟩ := id pG
      refine ⟨_, rfl, a, 3, rfl, pG, by decide, by decide, fun G2 d x2 p2 d0 d1 => ⟨rfl, _, rfl, ?_⟩⟩
      have hacc2 := x2 _ _ nDa hacc
      have hQ2 := nums_but hw x2 hQ
      obtain ⟨w3, w4, hw2, _⟩ := id p2
      refine ite2 (fun c => ?_) (fun c => ?_)
      · refine ⟨_, rfl, D, acc, rfl, .inl ⟨sl_of hacc2, fun t ht => ?_⟩⟩
        have st := same_new (o := .tup acc) ht
        have nta := potF p2 ht
        refine q _ t ((xS.trans x2).trans (smx_of st)) (potS p2 st) (smxF (xS.trans x2) nta ht) ⟨t, acc, rfl, .inr (xr_get nta nta upd_same), ?_⟩
        exact nums_xr (st _ _ hw2) (st _ _ hw2) (nums_s st hQ2)
      · refine ⟨_, rfl, q G2 D (xS.trans x2) p2 hD ⟨D, acc, rfl, .inl (xr_get nDa nDa hacc2), nums_xr hw2 hw2 hQ2⟩⟩
abbrev nGivR : List Str := ["_law_pot_here", "_law_rows_here", "_law_found", "_law_row_here"]
theorem sc_givR : FnScope nGivR ["_law_pot_here", "_law_rows_here"] (defScope sGivR) := ⟨rfl, rfl, rfl, by decide +kernel, rfl, by decide +kernel, by decide +kernel⟩
theorem ok_givR {f f1 f2 C : Addr} {fd fd1 fd2 : FuncData} (F : Fun K "_law_given" "_law_given" sGivR f fd) (D1 : Df K mg "_law_draw" sDraw ["_law_pot_here", "_law_room"] f1 fd1) (D2 : Df K mg "_law_given_row" sGivRow ["_law_pot_here", "_law_row_here"] f2 fd2) (G2 : FnOk P w K mg base CX0 5 f2 fd2 ["_law_pot_here", "_law_row_here"] (spGivRow K C)) (B : Bl mg) :
    FnOk P w K mg base CX0 6 f fd ["_law_pot_here", "_law_rows_here"] (spGivR K C) := by
  have G1 : FnOk P w K mg base CX0 1 f1 fd1 ["_law_pot_here", "_law_room"] spDraw := ok_draw D1.F B
  refine F.ok sc_givR (fun vs H Q E h => ?_) (fun cdv A outer s H vs Q E hr h => ?_)
  · obtain ⟨a, r, n, qss, rfl, _⟩ := h
    rfl
  · obtain ⟨a, r, n, qss, rfl, pot, ⟨xs, hr0, hP⟩, n6, hl, hE, q⟩ := h
    have hr1 : Room 1 _ := hr.mono (by decide)
    refine ⟨_, pss_cons (ps_setLc (i := 2) (own := [("_law_row_here", 3)]) (g := gName 3) (tt := tYes) (te := tCall (spGivRow K C) [] E0 (tCons (tVar 0) (tCons (tVar 3) tNil))) rfl sc_givR.nd rfl rfl (sw_true rfl rfl rfl (by decide +kernel)) (pi_list (pv 1)) (blkOk_by (N := nGivR) (sc := defScope sGivR) (by decide +kernel))
        (fun _ _ _ _ _ => pg_name (i := 3) sc_givR.nd rfl (Or.inl rfl)) (fun _ _ _ _ _ => pts_nil) (fun _ _ _ _ _ => pe_call G2 hr rfl D2.g D2.F.kp D2.b .nil pass0 (pa_cons (pv 0) (pa_cons (pv 3) pa_nil))))
      (pss_one (ps_ret (pe_ifExp (pt_cmpR op_eq (pe_call G1 hr1 rfl D1.g D1.F.kp D1.b .nil pass0 (pa_cons (pv 0) (pa_cons pe_int pa_nil))) pe_int (nomark _)) (pe_callTy call_tuple_of (by rfl) B.tuple PySem.Pv.boot_tuple (pa_cons (pv 2) pa_nil)) (pv 2)))), ?_⟩
    have lx := pt_len hP
    have nra := (xr_ne hr0).1
    refine ⟨_, rfl, r, rfl, ⟨xs, sl_of (xr_le _ _ hr0)⟩, fun D hD => ?_⟩
    have nDa := potF pot hD
    refine lc_list (xs := xs) (fun k G => SmX a H G ∧ Pot G a ∧ ∃ acc, G D = some (.lst acc) ∧ RowsX C (xr a D G) acc (qss.take k)) ⟨smx_of (same_new hD), potS pot (same_new hD), [], upd_same, by simp [RowsX]⟩ (fun j G _ p => sl_of (p.1 _ _ nra (xr_le _ _ hr0))) ?_ ?_
    · rintro k y G hy ⟨xS, pG, acc, hacc, hQ⟩
      obtain ⟨qs, b, ys, f1, rfl, f3, f4⟩ := pt_at hP k y hy
      obtain ⟨e1, e2⟩ := hE qs (List.mem_of_getElem? f1)
      have l1 := rowsX_len hQ
      have : (qss.take k).length ≤ 60 := by rw [List.length_take]; omega
      obtain ⟨w1, w2, hw, _⟩ := id pot
      refine ⟨rfl, _, rfl, _, rfl, a, b, ys, qs, rfl, pG, (xr_ne f3).1, xS _ _ (xr_ne f3).1 (xr_le _ _ f3), prs_butR hw xS (prs_sR xr_le f4), by omega, e2, fun G2 t x2 p2 ht hrow => ?_⟩
      have nta := potF pG ht
      have ntD : t ≠ D := fun e => by rw [e, hacc] at ht; cases ht
      have hacc2 := x2 _ _ nDa hacc
      obtain ⟨w3, w4, hw2, _⟩ := id p2
      refine ⟨acc, hacc2, szlt (by omega), smxU (xS.trans x2) hD, potU p2 nDa, acc ++ [.ref t], upd_same, ?_⟩
      rw [take_at f1]
      refine rowsX_app (rowsX_s ((xr_x x2).trans xr_up) hQ) ⟨?_, trivial⟩
      obtain ⟨t', zs, e, hs, hn⟩ := hrow
      injection e with e
      subst e
      refine ⟨t, zs, rfl, ?_, nums_s xr_up (nums_xr hw2 hacc2 (nums_s xr_le hn))⟩
      have mv : ∀ {o : HO}, xr a a G2 t = some o → xr a D (upd G2 D (.lst (acc ++ [.ref t]))) t = some o := fun h => xr_up _ _ (xr_get nta ntD (xr_le _ _ h))
      rcases hs with h | h
      · exact .inl (mv h)
      · exact .inr (mv h)
    · rintro G ⟨xS, pG, acc, hacc, hQ⟩
      rw [show qss.take xs.length = qss by rw [lx, List.take_length]] at hQ
      refine ⟨_, rfl, a, 3, rfl, pG, by decide, by decide, fun G2 d x2 p2 d0 d1 => ⟨rfl, _, rfl, ?_⟩⟩
      have hacc2 := x2 _ _ nDa hacc
      have hQ2 := rowsX_s (xr_sub (a := a) (D := D) (H := G2)) (rowsX_s (xr_x x2) hQ)
      refine ite2 (fun c => ?_) (fun c => ?_)
      · refine ⟨_, rfl, D, acc, rfl, .inl ⟨sl_of hacc2, fun t ht => ?_⟩⟩
        have st := same_new (o := .tup acc) ht
        have nta := potF p2 ht
        exact q _ t ((xS.trans x2).trans (smx_of st)) (potS p2 st) (smxF (xS.trans x2) nta ht) ⟨n6, hl, fun qs h => (hE qs h).1, t, acc, rfl, .inr (xr_get nta nta upd_same), rowsX_s (xr_s st) hQ2⟩
      · exact ⟨_, rfl, q G2 D (xS.trans x2) p2 hD ⟨n6, hl, fun qs h => (hE qs h).1, D, acc, rfl, .inl (xr_get nDa nDa hacc2), hQ2⟩⟩
theorem sc_pairsN : FnScope nPairsR ["_law_value"] (defScope sRtPairs) := sc_pairsR
theorem ok_pairsN {f f1 C : Addr} {fd fd1 : FuncData} (F : Fun K "_law_pairs" "_law_pairs" sRtPairs f fd) (D1 : Df K mg "_law_pair" sRtPair ["_law_value"] f1 fd1) (G1 : FnOk P w K mg base CX0 3 f1 fd1 ["_law_value"] (spPairR K C)) (B : Bl mg) : FnOk P w K mg base CX0 4 f fd ["_law_value"] (spPairsN K C) := by
  refine F.ok sc_pairsR (fun vs H Q E h => ?_) (fun cdv A outer s H vs Q E hr h => ?_)
  · obtain ⟨a, xs, qs, rfl, _⟩ := h
    rfl
  · obtain ⟨a, xs, qs, rfl, ha, hP, few, q⟩ := h
    refine ⟨_, pss_one (ps_ret (pe_ifExp (pt_val (pe_callB call_isi (by rfl) B.isi PyProof.Rows.boot_isinstance (pa_cons (pv 0) (pa_cons (pe_bltn (v := .ty "list") (by rfl) B.list PyProof.Rows.boot_list rfl) pa_nil))))
      (pe_lc (own := [("_law_one", 1)]) (g := gName 1) (tt := tYes) (te := tCall (spPairR K C) [] E0 (tCons (tVar 1) tNil)) rfl sc_pairsR.nd (pi_list (pv 0)) (blkOk_by (N := nPairsR) (sc := defScope sRtPairs) (by decide +kernel)) (fun _ _ _ _ _ => pg_name (i := 1) sc_pairsR.nd rfl (Or.inl rfl)) (fun _ _ _ _ _ => pts_nil)
        (fun _ _ _ _ _ => pe_call G1 hr rfl D1.g D1.F.kp D1.b .nil pass0 (pa_cons (pv 1) pa_nil))) pe_non)), ?_⟩
    obtain ⟨lx, hat⟩ := rats_at hP
    refine ⟨_, rfl, V.ref a, V.ty "list", _, _, true, rfl, .ty _, .base (TyOf.lst ha), (by unfold PySem.W.kitOne; rw [if_pos (by simp)]), true, rfl, iteT ?_⟩
    refine ⟨_, rfl, a, rfl, ⟨xs, sl_of ha⟩, fun D hD => ?_⟩
    refine lc_list (xs := xs) (fun k G => Same H G ∧ ∃ acc, G D = some (.lst acc) ∧ PrsP K G acc (qs.take k)) ⟨same_new hD, [], upd_same, by simp [PrsP]⟩ (fun k G _ z => sl_of (z.1 _ _ ha)) ?_ ?_
    · rintro k x G hx ⟨sG, acc, hacc, hQ⟩
      have hk := lt_of_at hx
      obtain ⟨z, hz⟩ : ∃ z, qs[k]? = some z := ⟨qs[k]'(by omega), by simp [show k < qs.length by omega]⟩
      obtain ⟨p, rfl, hp⟩ := hat k x z hx hz
      have l1 := (prs_at hQ).1
      have : (qs.take k).length ≤ 60 := by rw [List.length_take]; omega
      refine ⟨rfl, _, rfl, p, z, rfl, rat_s hp sG, fun G2 t s2 ht0 ht => ?_⟩
      refine ⟨acc, s2 _ _ hacc, szlt (by omega), same_mut (sG.trans s2) hD, acc ++ [.ref t], upd_same, ?_⟩
      rw [take_at hz]
      exact prs_butR (s2 _ _ hacc) smx_upd (prs_appR (prs_sR s2 hQ) ⟨⟨t, rfl, ht⟩, trivial⟩)
    · rintro G ⟨sG, acc, hacc, hQ⟩
      rw [show qs.take xs.length = qs by rw [lx, List.take_length]] at hQ
      exact q G D acc sG hD hacc hQ
abbrev nRowsN : List Str := ["_law_value", "_law_row_here"]
theorem sc_rowsN : FnScope nRowsN ["_law_value"] (defScope sRowsR) := ⟨rfl, rfl, rfl, by decide +kernel, rfl, by decide +kernel, by decide +kernel⟩
theorem ok_rowsN {f f1 C : Addr} {fd fd1 : FuncData} (F : Fun K "_law_rows" "_law_rows" sRowsR f fd) (D1 : Df K mg "_law_pairs" sRtPairs ["_law_value"] f1 fd1) (G1 : FnOk P w K mg base CX0 4 f1 fd1 ["_law_value"] (spPairsN K C)) (B : Bl mg) : FnOk P w K mg base CX0 5 f fd ["_law_value"] (spRowsN K C) := by
  refine F.ok sc_rowsN (fun vs H Q E h => ?_) (fun cdv A outer s H vs Q E hr h => ?_)
  · obtain ⟨a, qss, rfl, _⟩ := h
    rfl
  · obtain ⟨a, qss, rfl, ⟨xs, ha, hP⟩, few, few2, q⟩ := h
    refine ⟨_, pss_one (ps_ret (pe_ifExp (pt_val (pe_callB call_isi (by rfl) B.isi PyProof.Rows.boot_isinstance (pa_cons (pv 0) (pa_cons (pe_bltn (v := .ty "list") (by rfl) B.list PyProof.Rows.boot_list rfl) pa_nil))))
      (pe_lc (own := [("_law_row_here", 1)]) (g := gName 1) (tt := tYes) (te := tCall (spPairsN K C) [] E0 (tCons (tVar 1) tNil)) rfl sc_rowsN.nd (pi_list (pv 0)) (blkOk_by (N := nRowsN) (sc := defScope sRowsR) (by decide +kernel)) (fun _ _ _ _ _ => pg_name (i := 1) sc_rowsN.nd rfl (Or.inl rfl)) (fun _ _ _ _ _ => pts_nil)
        (fun _ _ _ _ _ => pe_call G1 hr rfl D1.g D1.F.kp D1.b .nil pass0 (pa_cons (pv 1) pa_nil))) pe_non)), ?_⟩
    have lx := rt_len hP
    refine ⟨_, rfl, V.ref a, V.ty "list", _, _, true, rfl, .ty _, .base (TyOf.lst ha), (by unfold PySem.W.kitOne; rw [if_pos (by simp)]), true, rfl, iteT ?_⟩
    refine ⟨_, rfl, a, rfl, ⟨xs, sl_of ha⟩, fun D hD => ?_⟩
    refine lc_list (xs := xs) (fun k G => Same H G ∧ ∃ acc, G D = some (.lst acc) ∧ PtRows K G acc (qss.take k) ∧ NewL H acc ∧ ∀ x ∈ acc, x ≠ .ref D) ⟨same_new hD, [], upd_same, by simp [PtRows], newl_nil, fun x h => nomatch h⟩ (fun k G _ z => sl_of (z.1 _ _ ha)) ?_ ?_
    · rintro k x G hx ⟨sG, acc, hacc, hQ, hN, hne⟩
      obtain ⟨z, b, ys, hz, rfl, _, hys, hY⟩ := rt_at hP k x hx
      have l1 := pt_len hQ
      have : (qss.take k).length ≤ 60 := by rw [List.length_take]; omega
      refine ⟨rfl, _, rfl, b, ys, z, rfl, sG _ _ hys, rats_s sG hY, few2 z (List.mem_of_getElem? hz), fun G2 t zs s2 ht0 ht hZ => ?_⟩
      have ntD : t ≠ D := fun e => by rw [e, hacc] at ht0; cases ht0
      refine ⟨acc, s2 _ _ hacc, szlt (by omega), same_mut (sG.trans s2) hD, acc ++ [.ref t], upd_same, ?_, newl_put hN (sG.free ht0), fun x hx => ?_⟩
      · rw [take_at hz]
        exact pt_app (pt_but (s2 _ _ hacc) hne (pt_s s2 hQ)) ⟨⟨t, zs, rfl, by rw [upd_ne ntD]; exact ht, prs_butR (s2 _ _ hacc) smx_upd hZ⟩, trivial⟩
      · rcases List.mem_append.mp hx with y | y
        · exact hne x y
        · rw [List.mem_singleton.mp y]
          intro e
          injection e with e
          exact ntD e
    · rintro G ⟨sG, acc, hacc, hQ, hN, hne⟩
      rw [show qss.take xs.length = qss by rw [lx, List.take_length]] at hQ
      exact q G D sG hD ⟨acc, hacc, hQ⟩ ⟨acc, hacc, hN⟩
end
end Tk

namespace Tk
/-! plain mathematics: sums of Rat over lists -/
section
variable {α β : Type}
theorem sum_mulL (c : Rat) (f : α → Rat) : ∀ l : List α, (l.map fun x => c * f x).sum = c * (l.map f).sum
  | [] => by simp [Rat.mul_zero]
  | x :: l => by simp only [List.map_cons, List.sum_cons, sum_mulL c f l, Rat.mul_add]
theorem sum_mulR (c : Rat) (f : α → Rat) : ∀ l : List α, (l.map fun x => f x * c).sum = (l.map f).sum * c
  | [] => by simp [Rat.zero_mul]
  | x :: l => by simp only [List.map_cons, List.sum_cons, sum_mulR c f l, Rat.add_mul]
theorem sum_addR (f g : α → Rat) : ∀ l : List α, (l.map fun x => f x + g x).sum = (l.map f).sum + (l.map g).sum
  | [] => by simp [Rat.add_zero]
  | x :: l => by
    simp only [List.map_cons, List.sum_cons, sum_addR f g l]
    rw [Rat.add_assoc, Rat.add_assoc, ← Rat.add_assoc (g x), ← Rat.add_assoc _ (g x), Rat.add_comm (g x)]
theorem sum_zero : ∀ l : List α, (l.map fun _ => (0 : Rat)).sum = 0
  | [] => by simp
  | x :: l => by simp only [List.map_cons, List.sum_cons, sum_zero l, Rat.add_zero]
theorem sum_commR (f : α → β → Rat) (m : List β) : ∀ l : List α, (l.map fun x => (m.map fun y => f x y).sum).sum = (m.map fun y => (l.map fun x => f x y).sum).sum
  | [] => by simp only [List.map_nil, List.sum_nil, sum_zero]
  | x :: l => by simp only [List.map_cons, List.sum_cons, sum_commR f m l, sum_addR]
theorem sum_negR (f : α → Rat) : ∀ l : List α, (l.map fun x => -f x).sum = -(l.map f).sum
  | [] => by simp
  | x :: l => by simp only [List.map_cons, List.sum_cons, sum_negR f l, Rat.neg_add]
theorem sum_subR (f g : α → Rat) (l : List α) : (l.map fun x => f x - g x).sum = (l.map f).sum - (l.map g).sum := by
  simp only [Rat.sub_eq_add_neg, sum_addR, sum_negR]
/-- (a b) c = a (b c), one place -/
theorem dot_assoc (a : α → Rat) (b : α → β → Rat) (c : β → Rat) (l : List α) (m : List β) :
    (m.map fun j => (l.map fun k => a k * b k j).sum * c j).sum = (l.map fun k => a k * (m.map fun j => b k j * c j).sum).sum := by
  have e1 : (m.map fun j => (l.map fun k => a k * b k j).sum * c j) = m.map fun j => (l.map fun k => a k * (b k j * c j)).sum := by
    congr 1
    funext j
    rw [← sum_mulR]
    congr 2
    funext k
    rw [Rat.mul_assoc]
  have e2 : (l.map fun k => a k * (m.map fun j => b k j * c j).sum) = l.map fun k => (m.map fun j => a k * (b k j * c j)).sum := by
    congr 1
    funext k
    rw [sum_mulL]
  rw [e1, e2, sum_commR]
end
end Tk

namespace Tk
/-! ## mathematics of tables -/
theorem tabQ_ext {n : Nat} {f g : Nat → Nat → Int × Int} (h : ∀ i, i < n → ∀ j, j < n → f i j = g i j) : tabQ n f = tabQ n g := by
  unfold tabQ
  exact List.map_congr_left fun i hi => List.map_congr_left fun j hj => h i (List.mem_range.mp hi) j (List.mem_range.mp hj)
theorem zip_maps {α : Type} {F : Int × Int → Int × Int → Int × Int} {a b : α → Int × Int} : ∀ l : List α, List.zipWith F (l.map a) (l.map b) = l.map fun k => F (a k) (b k)
  | [] => rfl
  | x :: l => by simp only [List.map_cons, List.zipWith_cons_cons, zip_maps l]
theorem tab_rep {n : Nat} {qss : List (List (Int × Int))} (hl : qss.length = n) (hw : ∀ qs ∈ qss, qs.length = n) : qss = tabQ n fun i j => (qss[i]?.getD [])[j]?.getD (0, 1) := by
  refine List.ext_getElem (by rw [hl, tabQ_len]) fun i h1 h2 => ?_
  have hi : i < n := by omega
  simp only [tabQ, List.getElem_map, List.getElem_range]
  have hq := hw qss[i] (List.getElem_mem h1)
  refine List.ext_getElem (by simp [hq]) fun j g1 g2 => ?_
  simp only [List.getElem_map, List.getElem_range]
  rw [List.getElem?_eq_getElem h1, Option.getD_some, List.getElem?_eq_getElem g1, Option.getD_some]
theorem tab_get {n i j : Nat} {f : Nat → Nat → Int × Int} (hi : i < n) (hj : j < n) : ((tabQ n f)[i]?.getD [])[j]?.getD (0, 1) = f i j := by
  rw [tabQ_at hi, Option.getD_some]
  simp [hj]
theorem cols_tab {n : Nat} {f : Nat → Nat → Int × Int} : colsQ n (tabQ n f) = tabQ n fun i j => f j i := by
  unfold colsQ
  show (List.range n).map (fun j => (tabQ n f).map fun qs => qs[j]?.getD (0, 1)) = (List.range n).map fun i => (List.range n).map fun j => f j i
  refine List.map_congr_left fun j hj => ?_
  have hj := List.mem_range.mp hj
  unfold tabQ
  rw [List.map_map]
  refine List.map_congr_left fun i hi => ?_
  simp [hj]
theorem times_tab {n : Nat} {f g : Nat → Nat → Int × Int} : timesQ n (tabQ n f) (tabQ n g) = tabQ n fun i j => sumQ ((List.range n).map fun k => mulQ (f i k) (g k j)) := by
  unfold timesQ
  rw [cols_tab]
  show (tabQ n f).map _ = _
  unfold tabQ
  rw [List.map_map]
  refine List.map_congr_left fun i hi => ?_
  show ((List.range n).map fun i => (List.range n).map fun j => g j i).map _ = _
  rw [List.map_map]
  refine List.map_congr_left fun j hj => ?_
  show sumQ (prodsQ _ _) = _
  unfold prodsQ
  rw [zip_maps]
theorem zip_tab {n : Nat} {f g : Nat → Nat → Int × Int} : lessL (tabQ n f) (tabQ n g) = tabQ n fun i j => subQ (f i j) (g i j) := by
  unfold lessL tabQ
  have z : ∀ l : List Nat, List.zipWith (List.zipWith subQ) (l.map fun i => (List.range n).map fun j => f i j) (l.map fun i => (List.range n).map fun j => g i j) = l.map fun i => (List.range n).map fun j => subQ (f i j) (g i j) := by
    intro l
    induction l with
    | nil => rfl
    | cons x l ih => simp only [List.map_cons, List.zipWith_cons_cons, ih, zip_maps]
  exact z _
/-! in lowest terms -/
def LowT (n : Nat) (f : Nat → Nat → Int × Int) : Prop := ∀ i, i < n → ∀ j, j < n → LowQ (f i j)
theorem low_sums {n : Nat} {F : Nat → Int × Int} (h : ∀ k, k < n → LowQ (F k)) : LowQ (sumQ ((List.range n).map F)) ∧ valQ (sumQ ((List.range n).map F)) = ((List.range n).map fun k => valQ (F k)).sum := by
  have g := sum_low (qs := (List.range n).map F) (fun q hq => by
    obtain ⟨k, hk, rfl⟩ := List.mem_map.mp hq
    exact h k (List.mem_range.mp hk))
  rw [List.map_map] at g
  exact g
theorem val_dot {n : Nat} {f g : Nat → Int × Int} (hf : ∀ k, k < n → LowQ (f k)) (hg : ∀ k, k < n → LowQ (g k)) : LowQ (sumQ ((List.range n).map fun k => mulQ (f k) (g k))) ∧ valQ (sumQ ((List.range n).map fun k => mulQ (f k) (g k))) = ((List.range n).map fun k => valQ (f k) * valQ (g k)).sum := by
  obtain ⟨h1, h2⟩ := low_sums (n := n) (F := fun k => mulQ (f k) (g k)) fun k hk => low_mul (hf k hk) (hg k hk)
  refine ⟨h1, h2.trans ?_⟩
  congr 1
  refine List.map_congr_left fun k hk => ?_
  have hk := List.mem_range.mp hk
  exact val_mul (hf k hk).ne (hg k hk).ne
theorem low_times {n : Nat} {f g : Nat → Nat → Int × Int} (hf : LowT n f) (hg : LowT n g) : LowT n fun i j => sumQ ((List.range n).map fun k => mulQ (f i k) (g k j)) :=
  fun i hi j hj => (val_dot (fun k hk => hf i hi k hk) fun k hk => hg k hk j hj).1
theorem low_lessT {n : Nat} {f g : Nat → Nat → Int × Int} (hf : LowT n f) (hg : LowT n g) : LowT n fun i j => subQ (f i j) (g i j) := fun i hi j hj => low_sub (hf i hi j hj) (hg i hi j hj)
theorem low_idle {n : Nat} : LowT n fun a b => if a = b then ((1 : Int), (1 : Int)) else (0, 1) := fun i _ j _ => by
  by_cases c : i = j
  · simp only [if_pos c]
    exact ⟨by decide, by decide⟩
  · simp only [if_neg c]
    exact ⟨by decide, by decide⟩
theorem val_1 : valQ (1, 1) = 1 := by decide +kernel
theorem sum_delta (c : Nat → Rat) (j : Nat) : ∀ n, ((List.range n).map fun k => c k * (if k = j then 1 else 0)).sum = if j < n then c j else 0
  | 0 => by simp
  | n + 1 => by
    rw [List.range_succ, List.map_append, List.sum_append, sum_delta c j n]
    simp only [List.map_cons, List.map_nil, List.sum_cons, List.sum_nil, Rat.add_zero]
    by_cases h : n = j
    · subst h
      rw [if_neg (Nat.lt_irrefl _), if_pos rfl, if_pos (Nat.lt_succ_self _), Rat.mul_one, Rat.zero_add]
    · rw [if_neg h, Rat.mul_zero, Rat.add_zero]
      by_cases h2 : j < n
      · rw [if_pos h2, if_pos (by omega)]
      · rw [if_neg h2, if_neg (by omega)]
theorem cols_cols {n : Nat} {qss : List (List (Int × Int))} (hl : qss.length = n) (hw : ∀ qs ∈ qss, qs.length = n) : colsQ n (colsQ n qss) = qss := by
  rw [tab_rep hl hw, cols_tab, cols_tab]
theorem cols_times {n : Nat} {A B : List (List (Int × Int))} (hA : A.length = n) (wA : ∀ qs ∈ A, qs.length = n) (hB : B.length = n) (wB : ∀ qs ∈ B, qs.length = n) : colsQ n (timesQ n A B) = timesQ n (colsQ n B) (colsQ n A) := by
  rw [tab_rep hA wA, tab_rep hB wB, times_tab, cols_tab, cols_tab, cols_tab, times_tab]
  refine tabQ_ext fun i hi j hj => ?_
  congr 1
  exact List.map_congr_left fun k hk => mul_comQ _ _
def LowR (A : List (List (Int × Int))) : Prop := ∀ qs ∈ A, ∀ q ∈ qs, LowQ q
theorem lowT_of {n : Nat} {A : List (List (Int × Int))} (hA : A.length = n) (wA : ∀ qs ∈ A, qs.length = n) (h : LowR A) : LowT n fun i j => (A[i]?.getD [])[j]?.getD (0, 1) := fun i hi j hj => by
  have h1 : i < A.length := by omega
  have h2 : j < A[i].length := by rw [wA _ (List.getElem_mem h1)]; exact hj
  show LowQ ((A[i]?.getD [])[j]?.getD (0, 1))
  rw [List.getElem?_eq_getElem h1, Option.getD_some, List.getElem?_eq_getElem h2, Option.getD_some]
  exact h _ (List.getElem_mem h1) _ (List.getElem_mem h2)
theorem lowR_tab {n : Nat} {f : Nat → Nat → Int × Int} (h : LowT n f) : LowR (tabQ n f) := fun qs hq q hqq => by
  unfold tabQ at hq
  obtain ⟨i, hi, rfl⟩ := List.mem_map.mp hq
  obtain ⟨j, hj, rfl⟩ := List.mem_map.mp hqq
  exact h i (List.mem_range.mp hi) j (List.mem_range.mp hj)
theorem times_idle {n : Nat} {A : List (List (Int × Int))} (hA : A.length = n) (wA : ∀ qs ∈ A, qs.length = n) (lA : LowR A) : timesQ n A (idleQ n) = A := by
  have L := lowT_of hA wA lA
  conv => rhs; rw [tab_rep hA wA]
  conv => lhs; rw [tab_rep hA wA]
  unfold idleQ
  rw [times_tab]
  refine tabQ_ext fun i hi j hj => ?_
  obtain ⟨h1, h2⟩ := val_dot (n := n) (f := fun k => (A[i]?.getD [])[k]?.getD (0, 1)) (g := fun k => if k = j then (1, 1) else (0, 1)) (fun k hk => L i hi k hk) fun k hk => low_idle (n := n) k hk j hj
  refine low_ext h1 (L i hi j hj) (h2.trans ?_)
  rw [show ((List.range n).map fun k => valQ ((A[i]?.getD [])[k]?.getD (0, 1)) * valQ (if k = j then ((1 : Int), (1 : Int)) else (0, 1))) = (List.range n).map fun k => valQ ((A[i]?.getD [])[k]?.getD (0, 1)) * (if k = j then 1 else 0) from List.map_congr_left fun k _ => by
    by_cases c : k = j
    · rw [if_pos c, if_pos c, val_1]
    · rw [if_neg c, if_neg c, val_0]]
  rw [sum_delta (fun k => valQ ((A[i]?.getD [])[k]?.getD (0, 1))) j n, if_pos hj]
theorem idle_tabT {n : Nat} : colsQ n (idleQ n) = idleQ n := by
  unfold idleQ
  rw [cols_tab]
  refine tabQ_ext fun i _ j _ => ?_
  by_cases c : i = j
  · rw [if_pos c, if_pos c.symm]
  · rw [if_neg c, if_neg (fun z => c z.symm)]
theorem cols_shape {n : Nat} {A : List (List (Int × Int))} (hA : A.length = n) : (colsQ n A).length = n ∧ ∀ qs ∈ colsQ n A, qs.length = n := by
  unfold colsQ
  refine ⟨by simp, fun qs h => ?_⟩
  obtain ⟨i, _, rfl⟩ := List.mem_map.mp h
  simp [hA]
theorem times_shape {n : Nat} {A B : List (List (Int × Int))} (hA : A.length = n) : (timesQ n A B).length = n ∧ ∀ qs ∈ timesQ n A B, qs.length = n := by
  unfold timesQ
  refine ⟨by simp [hA], fun qs h => ?_⟩
  obtain ⟨i, _, rfl⟩ := List.mem_map.mp h
  simp [colsQ]
theorem less_shape {n : Nat} {A B : List (List (Int × Int))} (hA : A.length = n) (wA : ∀ qs ∈ A, qs.length = n) (hB : B.length = n) (wB : ∀ qs ∈ B, qs.length = n) : (lessL A B).length = n ∧ ∀ qs ∈ lessL A B, qs.length = n := by
  rw [tab_rep hA wA, tab_rep hB wB, zip_tab]
  exact ⟨tabQ_len, tabQ_wide⟩
theorem idle_shape {n : Nat} : (idleQ n).length = n ∧ ∀ qs ∈ idleQ n, qs.length = n := ⟨tabQ_len, tabQ_wide⟩
theorem lowR_cols {n : Nat} {A : List (List (Int × Int))} (hA : A.length = n) (wA : ∀ qs ∈ A, qs.length = n) (lA : LowR A) : LowR (colsQ n A) := by
  have L := lowT_of hA wA lA
  rw [tab_rep hA wA, cols_tab]
  exact lowR_tab fun i hi j hj => L j hj i hi
theorem lowR_times {n : Nat} {A B : List (List (Int × Int))} (hA : A.length = n) (wA : ∀ qs ∈ A, qs.length = n) (lA : LowR A) (hB : B.length = n) (wB : ∀ qs ∈ B, qs.length = n) (lB : LowR B) : LowR (timesQ n A B) := by
  have L := lowT_of hA wA lA
  have M := lowT_of hB wB lB
  rw [tab_rep hA wA, tab_rep hB wB, times_tab]
  exact lowR_tab (low_times L M)
theorem lowR_less {n : Nat} {A B : List (List (Int × Int))} (hA : A.length = n) (wA : ∀ qs ∈ A, qs.length = n) (lA : LowR A) (hB : B.length = n) (wB : ∀ qs ∈ B, qs.length = n) (lB : LowR B) : LowR (lessL A B) := by
  have L := lowT_of hA wA lA
  have M := lowT_of hB wB lB
  rw [tab_rep hA wA, tab_rep hB wB, zip_tab]
  exact lowR_tab (low_lessT L M)
theorem lowR_idle {n : Nat} : LowR (idleQ n) := lowR_tab low_idle
theorem idle_times {n : Nat} {A : List (List (Int × Int))} (hA : A.length = n) (wA : ∀ qs ∈ A, qs.length = n) (lA : LowR A) : timesQ n (idleQ n) A = A := by
  obtain ⟨c1, c2⟩ := cols_shape hA
  have e := times_idle c1 c2 (lowR_cols hA wA lA)
  have e2 := cols_times (n := n) c1 c2 idle_shape.1 idle_shape.2
  rw [e, cols_cols hA wA, idle_tabT] at e2
  exact e2.symm
theorem times_assocT {n : Nat} {f g h : Nat → Nat → Int × Int} (L : LowT n f) (M : LowT n g) (N : LowT n h) : timesQ n (timesQ n (tabQ n f) (tabQ n g)) (tabQ n h) = timesQ n (tabQ n f) (timesQ n (tabQ n g) (tabQ n h)) := by
  rw [times_tab, times_tab, times_tab, times_tab]
  have LM := low_times L M
  have MN := low_times M N
  refine tabQ_ext fun i hi j hj => ?_
  obtain ⟨a1, a2⟩ := val_dot (n := n) (f := fun k => sumQ ((List.range n).map fun l => mulQ (f i l) (g l k))) (g := fun k => h k j) (fun k hk => LM i hi k hk) fun k hk => N k hk j hj
  obtain ⟨b1, b2⟩ := val_dot (n := n) (f := fun l => f i l) (g := fun l => sumQ ((List.range n).map fun k => mulQ (g l k) (h k j))) (fun k hk => L i hi k hk) fun k hk => MN k hk j hj
  refine low_ext a1 b1 ?_
  rw [a2, b2]
  rw [show ((List.range n).map fun k => valQ (sumQ ((List.range n).map fun l => mulQ (f i l) (g l k))) * valQ (h k j)) = (List.range n).map fun k => ((List.range n).map fun l => valQ (f i l) * valQ (g l k)).sum * valQ (h k j) from List.map_congr_left fun k hk => by
    rw [(val_dot (n := n) (f := fun l => f i l) (g := fun l => g l k) (fun l hl => L i hi l hl) fun l hl => M l hl k (List.mem_range.mp hk)).2]]
  rw [show ((List.range n).map fun l => valQ (f i l) * valQ (sumQ ((List.range n).map fun k => mulQ (g l k) (h k j)))) = (List.range n).map fun l => valQ (f i l) * ((List.range n).map fun k => valQ (g l k) * valQ (h k j)).sum from List.map_congr_left fun l hl => by
    rw [(val_dot (n := n) (f := fun k => g l k) (g := fun k => h k j) (fun k hk => M l (List.mem_range.mp hl) k hk) fun k hk => N k hk j hj).2]]
  exact dot_assoc (fun l => valQ (f i l)) (fun l k => valQ (g l k)) (fun k => valQ (h k j)) (List.range n) (List.range n)
theorem times_assoc {n : Nat} {A B C : List (List (Int × Int))} (hA : A.length = n) (wA : ∀ qs ∈ A, qs.length = n) (lA : LowR A) (hB : B.length = n) (wB : ∀ qs ∈ B, qs.length = n) (lB : LowR B) (hC : C.length = n) (wC : ∀ qs ∈ C, qs.length = n) (lC : LowR C) :
    timesQ n (timesQ n A B) C = timesQ n A (timesQ n B C) := by
  have e := times_assocT (lowT_of hA wA lA) (lowT_of hB wB lB) (lowT_of hC wC lC)
  rw [← tab_rep hA wA, ← tab_rep hB wB, ← tab_rep hC wC] at e
  exact e
theorem times_lessT {n : Nat} {f g h : Nat → Nat → Int × Int} (L : LowT n f) (M : LowT n g) (N : LowT n h) : timesQ n (lessL (tabQ n f) (tabQ n g)) (tabQ n h) = lessL (timesQ n (tabQ n f) (tabQ n h)) (timesQ n (tabQ n g) (tabQ n h)) := by
  rw [zip_tab, times_tab, times_tab, times_tab, zip_tab]
  refine tabQ_ext fun i hi j hj => ?_
  obtain ⟨a1, a2⟩ := val_dot (n := n) (f := fun k => subQ (f i k) (g i k)) (g := fun k => h k j) (fun k hk => low_sub (L i hi k hk) (M i hi k hk)) fun k hk => N k hk j hj
  obtain ⟨b1, b2⟩ := val_dot (n := n) (f := fun k => f i k) (g := fun k => h k j) (fun k hk => L i hi k hk) fun k hk => N k hk j hj
  obtain ⟨c1, c2⟩ := val_dot (n := n) (f := fun k => g i k) (g := fun k => h k j) (fun k hk => M i hi k hk) fun k hk => N k hk j hj
  refine low_ext a1 (low_sub b1 c1) ?_
  rw [a2, val_sub b1.ne c1.ne, b2, c2, ← sum_subR]
  congr 1
  refine List.map_congr_left fun k hk => ?_
  have hk := List.mem_range.mp hk
  rw [val_sub (L i hi k hk).ne (M i hi k hk).ne, Rat.sub_eq_add_neg, Rat.add_mul, Rat.neg_mul, ← Rat.sub_eq_add_neg]
theorem times_less {n : Nat} {A B C : List (List (Int × Int))} (hA : A.length = n) (wA : ∀ qs ∈ A, qs.length = n) (lA : LowR A) (hB : B.length = n) (wB : ∀ qs ∈ B, qs.length = n) (lB : LowR B) (hC : C.length = n) (wC : ∀ qs ∈ C, qs.length = n) (lC : LowR C) :
    timesQ n (lessL A B) C = lessL (timesQ n A C) (timesQ n B C) := by
  have e := times_lessT (lowT_of hA wA lA) (lowT_of hB wB lB) (lowT_of hC wC lC)
  rw [← tab_rep hA wA, ← tab_rep hB wB, ← tab_rep hC wC] at e
  exact e
theorem less_three {n : Nat} {A B : List (List (Int × Int))} (hA : A.length = n) (wA : ∀ qs ∈ A, qs.length = n) (lA : LowR A) (hB : B.length = n) (wB : ∀ qs ∈ B, qs.length = n) (lB : LowR B) : lessL (lessL A B) A = lessL (lessL B B) B := by
  have L := lowT_of hA wA lA
  have M := lowT_of hB wB lB
  rw [tab_rep hA wA, tab_rep hB wB, zip_tab, zip_tab, zip_tab, zip_tab]
  refine tabQ_ext fun i hi j hj => ?_
  have l := L i hi j hj
  have m := M i hi j hj
  refine low_ext (low_sub (low_sub l m) l) (low_sub (low_sub m m) m) ?_
  rw [val_sub (low_sub l m).ne l.ne, val_sub l.ne m.ne, val_sub (low_sub m m).ne m.ne, val_sub m.ne m.ne]
  generalize valQ _ = x
  generalize valQ _ = y
  rw [Rat.sub_self, Rat.sub_eq_add_neg, Rat.sub_eq_add_neg, Rat.sub_eq_add_neg, Rat.zero_add, Rat.add_comm x, Rat.add_assoc, ← Rat.sub_eq_add_neg x x, Rat.sub_self, Rat.add_zero]
/-! how long the numbers get -/
structure Bd (k : Nat) (q : Int × Int) : Prop where
  low : LowQ q
  top : q.1.natAbs < 2 ^ k
  bot : q.2.natAbs < 2 ^ k
theorem bd_le {k l : Nat} {q : Int × Int} (h : Bd k q) (e : k ≤ l) : Bd l q := ⟨h.low, Nat.lt_of_lt_of_le h.top (Nat.pow_le_pow_right (by decide) e), Nat.lt_of_lt_of_le h.bot (Nat.pow_le_pow_right (by decide) e)⟩
theorem bd_small {k : Nat} {q : Int × Int} (h : Bd k q) (e : k ≤ 3999) : Small q := by
  have h' := bd_le h (l := 4000) (by omega)
  exact ⟨h.low.pos, log_of h'.bot (by decide), Nat.lt_of_lt_of_le (log_of h'.top (by decide)) (by decide)⟩
theorem bd_mul {k l : Nat} {x y : Int × Int} (hx : Bd k x) (hy : Bd l y) : Bd (k + l) (mulQ x y) := by
  have g := low_ok (t := x.1 * y.1) (Int.mul_ne_zero hx.low.ne hy.low.ne)
  refine ⟨low_mul hx.low hy.low, Nat.lt_of_le_of_lt g.top ?_, Nat.lt_of_le_of_lt g.bot ?_⟩
  · rw [Int.natAbs_mul, Nat.pow_add]; exact Nat.mul_lt_mul'' hx.top hy.top
  · rw [Int.natAbs_mul, Nat.pow_add]; exact Nat.mul_lt_mul'' hx.bot hy.bot
theorem bd_num {k l : Nat} {x y : Int × Int} (hx : Bd k x) (hy : Bd l y) : (x.1 * y.2).natAbs + (y.1 * x.2).natAbs < 2 ^ (k + l + 1) ∧ (x.2 * y.2).natAbs < 2 ^ (k + l + 1) := by
  have h1 : (x.1 * y.2).natAbs < 2 ^ (k + l) := by rw [Int.natAbs_mul, Nat.pow_add]; exact Nat.mul_lt_mul'' hx.top hy.bot
  have h2 : (y.1 * x.2).natAbs < 2 ^ (k + l) := by rw [Int.natAbs_mul, Nat.pow_add, Nat.mul_comm]; exact Nat.mul_lt_mul'' hx.bot hy.top
  have h3 : (x.2 * y.2).natAbs < 2 ^ (k + l) := by rw [Int.natAbs_mul, Nat.pow_add]; exact Nat.mul_lt_mul'' hx.bot hy.bot
  have e : 2 ^ (k + l + 1) = 2 ^ (k + l) + 2 ^ (k + l) := by rw [Nat.pow_succ]; omega
  rw [e]
  exact ⟨by omega, by omega⟩
theorem bd_add {k l : Nat} {x y : Int × Int} (hx : Bd k x) (hy : Bd l y) : Bd (k + l + 1) (addQ x y) := by
  obtain ⟨h1, h2⟩ := bd_num hx hy
  have g := low_ok (t := x.1 * y.2 + y.1 * x.2) (Int.mul_ne_zero hx.low.ne hy.low.ne)
  exact ⟨low_add hx.low hy.low, Nat.lt_of_le_of_lt g.top (Nat.lt_of_le_of_lt (Int.natAbs_add_le _ _) h1), Nat.lt_of_le_of_lt g.bot h2⟩
theorem bd_sub {k l : Nat} {x y : Int × Int} (hx : Bd k x) (hy : Bd l y) : Bd (k + l + 1) (subQ x y) := by
  obtain ⟨h1, h2⟩ := bd_num hx hy
  have g := low_ok (t := x.1 * y.2 - y.1 * x.2) (Int.mul_ne_zero hx.low.ne hy.low.ne)
  exact ⟨low_sub hx.low hy.low, Nat.lt_of_le_of_lt g.top (Nat.lt_of_le_of_lt (Int.natAbs_sub_le _ _) h1), Nat.lt_of_le_of_lt g.bot h2⟩
theorem bd_fold {k : Nat} : ∀ {qs : List (Int × Int)} {l : Nat} {z : Int × Int}, Bd l z → (∀ q ∈ qs, Bd k q) → Bd (l + qs.length * (k + 1)) (qs.foldl addQ z)
  | [], l, z, hz, _ => bd_le hz (by omega)
  | q :: qs, l, z, hz, h => by
    have := bd_fold (qs := qs) (bd_add hz (h q (by simp))) fun r hr => h r (by simp [hr])
    refine bd_le this ?_
    rw [List.length_cons, Nat.succ_mul]
    omega
theorem bd_sum {k : Nat} {qs : List (Int × Int)} (h : ∀ q ∈ qs, Bd k q) : Bd (1 + qs.length * (k + 1)) (sumQ qs) := bd_fold (z := (0, 1)) ⟨⟨by decide, by decide⟩, by decide, by decide⟩ h
def BdR (k : Nat) (A : List (List (Int × Int))) : Prop := ∀ qs ∈ A, ∀ q ∈ qs, Bd k q
theorem bdR_low {k : Nat} {A : List (List (Int × Int))} (h : BdR k A) : LowR A := fun qs h1 q h2 => (h qs h1 q h2).low
theorem bdR_small {k : Nat} {A : List (List (Int × Int))} (h : BdR k A) (e : k ≤ 3999) : ∀ qs ∈ A, ∀ q ∈ qs, Small q := fun qs h1 q h2 => bd_small (h qs h1 q h2) e
theorem bdR_cols {k n : Nat} {A : List (List (Int × Int))} (hA : A.length = n) (wA : ∀ qs ∈ A, qs.length = n) (h : BdR k A) : BdR k (colsQ n A) := by
  intro cs hcs q hq
  unfold colsQ at hcs
  obtain ⟨j, hj, rfl⟩ := List.mem_map.mp hcs
  obtain ⟨qs, hqs, rfl⟩ := List.mem_map.mp hq
  have hj := List.mem_range.mp hj
  have h2 : j < qs.length := by rw [wA _ hqs]; exact hj
  rw [List.getElem?_eq_getElem h2, Option.getD_some]
  exact h _ hqs _ (List.getElem_mem h2)
theorem bd_prods {k l : Nat} {qs rs : List (Int × Int)} (hq : ∀ q ∈ qs, Bd k q) (hr : ∀ q ∈ rs, Bd l q) : ∀ z ∈ prodsQ qs rs, Bd (k + l) z := by
  intro z hz
  unfold prodsQ at hz
  rw [← List.map_uncurry_zip_eq_zipWith] at hz
  obtain ⟨⟨a, b⟩, hab, rfl⟩ := List.mem_map.mp hz
  exact bd_mul (hq a (List.of_mem_zip hab).1) (hr b (List.of_mem_zip hab).2)
theorem bd_sums {k l : Nat} {qs rs : List (Int × Int)} (hq : ∀ q ∈ qs, Bd k q) (hr : ∀ q ∈ rs, Bd l q) (few : qs.length ≤ 6) (e : 1 + 6 * (k + l + 1) ≤ 3999) : Sums qs rs := by
  have hp := bd_prods hq hr
  refine ⟨fun z hz => bd_small (hp z hz) (by omega), fun i hi => ?_⟩
  refine bd_small (bd_sum fun q hq => hp q (List.mem_of_mem_take hq)) (Nat.le_trans ?_ e)
  have : ((prodsQ qs rs).take i).length ≤ 6 := by
    rw [List.length_take]
    have : (prodsQ qs rs).length ≤ qs.length := by unfold prodsQ; rw [List.length_zipWith]; omega
    omega
  have := Nat.mul_le_mul_right (k + l + 1) this
  omega
theorem bdR_times {k l n : Nat} {A B : List (List (Int × Int))} (n6 : n ≤ 6) (hA : A.length = n) (wA : ∀ qs ∈ A, qs.length = n) (bA : BdR k A) (hB : B.length = n) (wB : ∀ qs ∈ B, qs.length = n) (bB : BdR l B) : BdR (1 + n * (k + l + 1)) (timesQ n A B) := by
  intro qs hqs q hq
  unfold timesQ at hqs
  obtain ⟨rs, hrs, rfl⟩ := List.mem_map.mp hqs
  obtain ⟨cs, hcs, rfl⟩ := List.mem_map.mp hq
  refine bd_le (bd_sum (bd_prods (bA rs hrs) (bdR_cols hB wB bB cs hcs))) ?_
  have : (prodsQ rs cs).length ≤ n := by unfold prodsQ; rw [List.length_zipWith, wA rs hrs]; omega
  have := Nat.mul_le_mul_right (k + l + 1) this
  omega
theorem bdR_less {k l n : Nat} {A B : List (List (Int × Int))} (hA : A.length = n) (wA : ∀ qs ∈ A, qs.length = n) (bA : BdR k A) (hB : B.length = n) (wB : ∀ qs ∈ B, qs.length = n) (bB : BdR l B) : BdR (k + l + 1) (lessL A B) := by
  intro qs hqs q hq
  unfold lessL at hqs
  rw [← List.map_uncurry_zip_eq_zipWith] at hqs
  obtain ⟨⟨a, b⟩, hab, rfl⟩ := List.mem_map.mp hqs
  rw [show Function.uncurry (List.zipWith subQ) (a, b) = List.zipWith subQ a b from rfl, ← List.map_uncurry_zip_eq_zipWith] at hq
  obtain ⟨⟨x, y⟩, hxy, rfl⟩ := List.mem_map.mp hq
  exact bd_sub (bA a (List.of_mem_zip hab).1 x (List.of_mem_zip hxy).1) (bB b (List.of_mem_zip hab).2 y (List.of_mem_zip hxy).2)
theorem bdR_idle {n : Nat} : BdR 1 (idleQ n) := by
  intro qs hqs q hq
  unfold idleQ tabQ at hqs
  obtain ⟨i, _, rfl⟩ := List.mem_map.mp hqs
  obtain ⟨j, _, rfl⟩ := List.mem_map.mp hq
  by_cases c : i = j
  · simp only [if_pos c]; exact ⟨⟨by decide, by decide⟩, by decide, by decide⟩
  · simp only [if_neg c]; exact ⟨⟨by decide, by decide⟩, by decide, by decide⟩
end Tk

namespace Tk
open PySem PySem.Spec PyProof.Rows L2 ClX
abbrev sOne13 : Stmt := top 58
/-! ## one_right: products, differences, tables turned about -/
def KwR2 (fd : FuncData) (ks ps : List Str) : Prop := ∀ (s : Shared) (ws : List Value), ws.length = ks.length → BindsTo s fd ⟨[], ks.zip ws⟩ (ps.zip ws.reverse)
structure Calls13 (P : Program) (w : World) (K : PySem.W.Frag) (mg : Str → Option Value) (base : Heap) (C : Addr) : Prop where
  table : ∃ f fd, Df K mg "_law_table" sTableR ["_law_pot_here", "_law_size"] f fd ∧ FnOk P w K mg base CX0 6 f fd ["_law_pot_here", "_law_size"] (spTableR K)
  given : ∃ f fd, Df K mg "_law_given" sGivR ["_law_pot_here", "_law_rows_here"] f fd ∧ FnOk P w K mg base CX0 6 f fd ["_law_pot_here", "_law_rows_here"] (spGivR K C)
  times : ∃ f fd, Df K mg "times" sTimesT ["table", "other"] f fd ∧ FnOk P w K mg base CX0 8 f fd ["table", "other"] (spTimesT K C) ∧ KwR2 fd ["other", "table"] ["table", "other"]
  less : ∃ f fd, Df K mg "less" sLessT ["table", "other"] f fd ∧ FnOk P w K mg base CX0 7 f fd ["table", "other"] (spLessT K C) ∧ KwR2 fd ["other", "table"] ["table", "other"]
  about : ∃ f fd, Df K mg "about" sAboutT ["table"] f fd ∧ FnOk P w K mg base CX0 7 f fd ["table"] (spAboutT K C) ∧ KwR2 fd ["table"] ["table"]
  idle : ∃ f fd, Df K mg "idle" sIdleT ["size"] f fd ∧ FnOk P w K mg base CX0 6 f fd ["size"] (spIdleT C) ∧ KwR2 fd ["size"] ["size"]
  ltimes : ∃ f fd, Df K mg "_law_times" sTimR ["_law_table_here", "_law_other"] f fd ∧ FnOk P w K mg base CX0 6 f fd ["_law_table_here", "_law_other"] (spTimR K)
  lless : ∃ f fd, Df K mg "_law_less" sLessR ["_law_one", "_law_other"] f fd ∧ FnOk P w K mg base CX0 3 f fd ["_law_one", "_law_other"] (spTwoR K subQ)
  rows : ∃ f fd, Df K mg "_law_rows" sRowsR ["_law_value"] f fd ∧ FnOk P w K mg base CX0 5 f fd ["_law_value"] (spRowsN K C)
  eq : ∃ f fd, PySem.W.findIn K (.ref C) "__eq__" = some (some (.ref f)) ∧ PySem.W.isFn K (.ref f) = true ∧ FnOk P w K mg base CX0 1 f fd ["self", "other"] (spREq C) ∧ Binds K fd ["self", "other"] []
  rep : ∃ f fd, PySem.W.findIn K (.ref C) "__repr__" = some (some (.ref f)) ∧ PySem.W.isFn K (.ref f) = true ∧ FnOk P w K mg base CX0 1 f fd ["self"] (spRShow C rpQ) ∧ Binds K fd ["self"] []
/-! equal tables of Ratios -/
theorem eq_rats {C : Addr} {H : Hp} : ∀ {xs ys : List V} {qs : List (Int × Int)}, RatsP C H xs qs → RatsP C H ys qs → Eq2A (LikeQ C) H xs ys true 0
  | [], [], [], _, _ => .nil
  | x :: xs, y :: ys, q :: qs, ⟨⟨p, e1, h1⟩, h⟩, ⟨⟨r, e2, g1⟩, g⟩ => by
    subst e1 e2
    exact Eq2A.cons (c := true) (d := true) (m := 0) (n := 0) (.own ⟨q, q, h1, g1, (decide_eq_true rfl).symm⟩) (eq_rats h g)
  | [], _ :: _, [], _, h => h.elim
  | [], _, _ :: _, h, _ => h.elim
  | _ :: _, _, [], h, _ => h.elim
  | _ :: _, [], _ :: _, _, h => h.elim
theorem eq_rows {C L M : Addr} {H : Hp} : ∀ {xs ys : List V} {qs : List (List (Int × Int))}, RtRows L C H xs qs → RtRows M C H ys qs → ∃ n, n ≤ 1 ∧ Eq2A (LikeQ C) H xs ys true n
  | [], [], [], _, _ => ⟨0, by omega, .nil⟩
  | x :: xs, y :: ys, q :: qs, ⟨⟨a, us, e1, _, h2, h3⟩, h⟩, ⟨⟨b, vs, e2, _, g2, g3⟩, g⟩ => by
    subst e1 e2
    obtain ⟨n, hn, he⟩ := eq_rows h g
    exact ⟨max 1 n, by omega, Eq2A.cons (c := true) (d := true) (m := 1) (.lst h2 g2 (eq_rats h3 g3)) he⟩
  | [], _ :: _, [], _, h => h.elim
  | [], _, _ :: _, h, _ => h.elim
  | _ :: _, _, [], h, _ => h.elim
  | _ :: _, [], _ :: _, _, h => h.elim
theorem ne_tabs {C r u : Addr} {H : Hp} {qss : List (List (Int × Int))} {Q : VK} (h : RtTab C H r qss) (g : RtTab C H u qss) (q : ∀ H', Same H H' → Q (.bl false) H') : rNeT (LikeQ C) 2 (.ref r) (.ref u) H Q := by
  obtain ⟨xs, h1, h2⟩ := h
  obtain ⟨ys, g1, g2⟩ := g
  obtain ⟨n, hn, he⟩ := eq_rows h2 g2
  exact ⟨r, u, xs, ys, true, n + 1, rfl, rfl, h1, g1, .lst h1 g1 he, by omega, q⟩
theorem eq_tabs {C r u : Addr} {H : Hp} {qss : List (List (Int × Int))} {Q : VK} (h : RtTab C H r qss) (g : RtTab C H u qss) (q : ∀ H', Same H H' → Q (.bl true) H') : rEqT (LikeQ C) 2 (.ref r) (.ref u) H Q := by
  obtain ⟨xs, h1, h2⟩ := h
  obtain ⟨ys, g1, g2⟩ := g
  obtain ⟨n, hn, he⟩ := eq_rows h2 g2
  exact ⟨r, u, true, n + 1, rfl, rfl, .lst h1 g1 he, by omega, q⟩
theorem plainP : ∀ ps : List (Int × Int), PyData.canLayAll0 (ps.map dP) = true
  | [] => rfl
  | p :: ps => by
    show (PyData.canLay0 (dP p) && PyData.canLayAll0 (ps.map dP)) = true
    rw [plainP ps]; rfl
theorem depthP : ∀ ps : List (Int × Int), PyData.depthAll (ps.map dP) ≤ 3
  | [] => by simp [PyData.depthAll]
  | p :: ps => by
    have h := depthP ps
    have h2 : PyData.depth (dP p) ≤ 3 := by simp [dP, PyData.depth, PyData.depthAll]
    simp only [List.map_cons, PyData.depthAll]
    omega
theorem plainPP : ∀ ps : List (List (Int × Int)), PyData.canLayAll0 (ps.map fun qs => .list (qs.map dP)) = true
  | [] => rfl
  | p :: ps => by
    show (PyData.canLay0 (.list (p.map dP)) && PyData.canLayAll0 (ps.map fun qs => .list (qs.map dP))) = true
    rw [plainPP ps, PyData.canLay0, plainP]; rfl
theorem depthPP : ∀ ps : List (List (Int × Int)), PyData.depthAll (ps.map fun qs => .list (qs.map dP)) ≤ 5
  | [] => by simp [PyData.depthAll]
  | p :: ps => by
    have h := depthPP ps
    have h2 := depthP p
    simp only [List.map_cons, PyData.depthAll, PyData.depth]
    omega
theorem shaped_tab (qss : List (List (Int × Int))) : SeqAt.shaped (tabD qss) = true := by
  unfold SeqAt.shaped tabD
  rw [Bool.and_eq_true_iff]
  refine ⟨by rw [PyData.canLay0]; exact plainPP qss, decide_eq_true ?_⟩
  have := depthPP qss
  rw [PyData.depth]
  omega
theorem ne_lts {K : PySem.W.Frag} {r u : Addr} {H : Hp} {qss : List (List (Int × Int))} {Q : VK} (h : LTab K H r qss) (g : LTab K H u qss) (q : Q (.bl false) H) : rNeD K (.ref r) (.ref u) H Q := by
  refine ⟨tabD qss, tabD qss, lt_dp h, lt_dp g, shaped_tab _, shaped_tab _, ?_⟩
  rw [eqv_tab, decide_eq_true rfl]
  exact q
theorem eq_lts {K : PySem.W.Frag} {r u : Addr} {H : Hp} {qss : List (List (Int × Int))} {Q : VK} (h : LTab K H r qss) (g : LTab K H u qss) (q : Q (.bl true) H) : rEqD K (.ref r) (.ref u) H Q := by
  refine ⟨tabD qss, tabD qss, lt_dp h, lt_dp g, shaped_tab _, shaped_tab _, ?_⟩
  rw [eqv_tab, decide_eq_true rfl]
  exact q
theorem mergeT {A : Addr → Hp → Prop} {R : Prop} (S : Addr → Hp → Prop) (rest : ∀ r G, S r G → A r G) (use : (∀ r G, S r G → A r G) → R) : R := use rest
/-- what times asks of bounded tables -/
theorem times_asks {k l n : Nat} {A B : List (List (Int × Int))} (n6 : n ≤ 6) (hA : A.length = n) (wA : ∀ qs ∈ A, qs.length = n) (bA : BdR k A) (hB : B.length = n) (wB : ∀ qs ∈ B, qs.length = n) (bB : BdR l B) (e : 1 + 6 * (k + l + 1) ≤ 3999) :
    (∀ qs ∈ A, ∀ q ∈ qs, Small q) ∧ (∀ cs ∈ colsQ n B, ∀ q ∈ cs, Small q) ∧ ∀ qs ∈ A, ∀ cs ∈ colsQ n B, (∀ z ∈ prodsQ qs cs, Small z) ∧ ∀ i, i ≤ (prodsQ qs cs).length → Small (sumQ ((prodsQ qs cs).take i)) :=
  ⟨bdR_small bA (by omega), bdR_small (bdR_cols hB wB bB) (by omega), fun qs hq cs hc => bd_sums (bA qs hq) (bdR_cols hB wB bB cs hc) (by rw [wA qs hq]; exact n6) e⟩
theorem ent_bd {q : Int × Int} (h : EntQ q) : Bd 5 q := by
  have h1 := h.top
  have h2 := h.bot
  have h3 := h.low.pos
  exact ⟨h.low, by omega, by omega⟩
theorem ent_tiny {q : Int × Int} (h : EntQ q) : Tiny q := by
  have h1 := h.top
  have h2 := h.bot
  have h3 := h.low.pos
  exact ⟨Nat.lt_of_le_of_lt h1 (by decide), Nat.lt_of_le_of_lt (show q.2.natAbs ≤ 9 by omega) (by decide)⟩
/-- what one_right holds of the told product and the law's own -/
structure St13 (K : PySem.W.Frag) (C : Addr) (H5 : Hp) (T : List (List (Int × Int))) (r7 r8 : Addr) (G H6 H7 H8 : Hp) : Prop where
  a : Same H5 H6
  n7 : H6 r7 = none
  b : Same H6 H7
  R7 : RtTab C H7 r7 T
  I7 : NewIn H6 H7 r7
  c : Same H7 H8
  n8 : H7 r8 = none
  R8 : LTab K H8 r8 T
  I8 : NewIn H7 H8 r8
  d : Same H8 G
theorem St13.more {K : PySem.W.Frag} {C : Addr} {H5 : Hp} {T : List (List (Int × Int))} {r7 r8 : Addr} {G G' H6 H7 H8 : Hp} (S : St13 K C H5 T r7 r8 G H6 H7 H8) (e : Same G G') : St13 K C H5 T r7 r8 G' H6 H7 H8 := { S with d := S.d.trans e }
theorem St13.g {K : PySem.W.Frag} {C : Addr} {H5 : Hp} {T : List (List (Int × Int))} {r7 r8 : Addr} {G H6 H7 H8 : Hp} (S : St13 K C H5 T r7 r8 G H6 H7 H8) : Same H5 G := ((S.a.trans S.b).trans S.c).trans S.d
def spOne13 : Sp := fun vs H Q _ => ∃ (a : Addr) (n : Nat), vs = [.ref a, .int n] ∧ Pot H a ∧ n ≤ 6 ∧ ∀ H', SmX a H H' → Pot H' a → Q (.bl true) H'
section
variable {P : Program} {w : World} {K : PySem.W.Frag} {mg : Str → Option Value} {base : Heap}
abbrev nOne13 : List Str := ["_law_pot_here", "_law_size", "_law_one", "_law_other", "_law_near", "_law_far", "_law_stay", "_law_told", "_law_due", "_law_fewer", "_law_turned", "_law_here", "_law_there", "_law_row_here", "_law_line", "_law_at"]
theorem sc_one13 : FnScope nOne13 ["_law_pot_here", "_law_size"] (defScope sOne13) := ⟨rfl, rfl, rfl, by decide +kernel, rfl, by decide +kernel, by decide +kernel⟩
abbrev teLs13 (K : PySem.W.Frag) : TE := tCall (spTwoR K subQ) [] E0 (tCons (tVar 11) (tCons (tVar 12) tNil))
theorem ok_one13 {f C : Addr} {fd : FuncData} (F : Fun K "_law_one_right" "_law_one_right" sOne13 f fd) (Z : Calls13 P w K mg base C) (B : Bl mg) : FnG P w K mg base 9 f fd ["_law_pot_here", "_law_size"] spOne13 := by
  obtain ⟨fT, dT, DT, GT⟩ := Z.table
  obtain ⟨fG, dG, DG, GG⟩ := Z.given
  obtain ⟨fX, dX, DX, GX, kX⟩ := Z.times
  obtain ⟨fL, dL, DL, GL, kL⟩ := Z.less
  obtain ⟨fA, dA, DA, GA, kA⟩ := Z.about
  obtain ⟨fI, dI, DI, GI, kI⟩ := Z.idle
  obtain ⟨fM, dM, DM, GM⟩ := Z.ltimes
  obtain ⟨fS, dS, DS, GS⟩ := Z.lless
  obtain ⟨fR, dR, DR, GR⟩ := Z.rows
  obtain ⟨fE, dE, e1, e2, GE, bE⟩ := Z.eq
  obtain ⟨fP, dP', p1, p2, GP, bP⟩ := Z.rep
  refine okG F sc_one13 (fun vs H Q E h => ?_) (fun cdv A outer s H vs Q E hgd hr h => ?_)
  · obtain ⟨a, n, rfl, _⟩ := h
    rfl
  · obtain ⟨a, n, rfl, pot, n6, q⟩ := h
    have hr3 : Room 3 _ := hr.mono (by decide)
    have hr5 : Room 5 _ := hr.mono (by decide)
    have hr6 : Room 6 _ := hr.mono (by decide)
    have hr7 : Room 7 _ := hr.mono (by decide)
    have hu := hr.units
    have OE : OwnEq (cxOf CX0 P w K mg base nOne13 "_law_one_right" (defScope sOne13) f cdv A outer s H E).nox C (LikeQ C) (spREq C) 1 fE dE ["self", "other"] := likeQ e1 e2 GE bE
    have OR : OwnRep (cxOf CX0 P w K mg base nOne13 "_law_one_right" (defScope sOne13) f cdv A outer s H E).nox C (ShowQ C) (spRShow C rpQ) 1 fP dP' ["self"] := ⟨showQ, p1, p2, GP, bP⟩
    refine ⟨_, pss_cons (ps_asg (pe_tup (pa_cons (pe_call GT hr6 rfl DT.g DT.F.kp DT.b .nil pass0 (pa_cons (pv 0) (pa_cons (pv 1) pa_nil))) (pa_cons (pe_call GT hr6 rfl DT.g DT.F.kp DT.b .nil pass0 (pa_cons (pv 0) (pa_cons (pv 1) pa_nil))) pa_nil)))
          (pg_tup rfl (pgs_cons (pg_name (i := 2) sc_one13.nd rfl (Or.inr rfl)) (pgs_cons (pg_name (i := 3) sc_one13.nd rfl (Or.inl rfl)) pgs_nil))))
      (pss_cons (ps_par (i := 4) (j := 5) rfl sc_one13.nd rfl rfl (by decide) rfl rfl (pa_cons (pe_call GG hr6 rfl DG.g DG.F.kp DG.b .nil pass0 (pa_cons (pv 0) (pa_cons (pv 2) pa_nil))) (pa_cons (pe_call GG hr6 rfl DG.g DG.F.kp DG.b .nil pass0 (pa_cons (pv 0) (pa_cons (pv 3) pa_nil))) pa_nil)) (by rfl))
      (pss_cons (ps_par3 (i := 6) (j := 7) (l := 8) rfl sc_one13.nd rfl rfl rfl (by decide) (by decide) (by decide) rfl rfl rfl (pa_cons (pe_callB (call_reprT (N := 2) OR hgd hr5) (by rfl) B.repr PyProof.Rows.boot_repr (pa_cons (pe_lst (pa_cons (pv 4) (pa_cons (pv 5) pa_nil))) pa_nil))
          (pa_cons (pe_call GX hr rfl DX.g DX.F.kp DX.b .nil pass0 (pa_cons (pv 4) (pa_cons (pv 5) pa_nil)))
          (pa_cons (pe_ifExp (pt_cmpR op_gt (pv 1) pe_int (nomark _)) (pe_call GM hr6 rfl DM.g DM.F.kp DM.b .nil pass0 (pa_cons (pv 2) (pa_cons (pv 3) pa_nil))) (pe_lst pa_nil)) pa_nil))) (by rfl))
      (C8.pss_cut (ps_if (PW.pt (pw_or (pt_cmpR (op_neD hu) (pe_call GR hr5 rfl DR.g DR.F.kp DR.b .nil pass0 (pa_cons (pv 7) pa_nil)) (pv 8) (nomark _))
          (pw_or1 (pt_cmpR (op_neT OE (N := 2) hr3) (pe_kwR GX hr rfl DX.g DX.F.kp kX (pk_cons (pv 5) (pk_cons (pv 4) pk_nil))) (pv 7) (nomark _))))) (pss_one (ps_ret pe_bl)) pss_nil)
      (pss_cons (ps_setLc (i := 9) (own := [("_law_row_here", 13), ("_law_line", 14)]) (g := g2 K 13 14) (tt := tYes) (te := tLc (ZmX.iZipB K (tCons (tVar 13) (tCons (tVar 14) tNil))) (g2 K 11 12) tYes (teLs13 K) [11, 12]) rfl sc_one13.nd rfl rfl (sw_true rfl rfl rfl (by decide +kernel))
          (ZmX.pi_zipB (by rfl) B.zip (pa_cons (pv 2) (pa_cons (pv 3) pa_nil))) (blkOk_by (N := nOne13) (sc := defScope sOne13) (by decide +kernel))
          (fun _ _ _ _ _ => pg_tup rfl (pgs_cons (pg_name (i := 13) sc_one13.nd rfl (Or.inl rfl)) (pgs_cons (pg_name (i := 14) sc_one13.nd rfl (Or.inl rfl)) pgs_nil))) (fun _ _ _ _ _ => pts_nil)
          (fun _ _ _ _ _ => pe_lc (own := [("_law_here", 11), ("_law_there", 12)]) (g := g2 K 11 12) (tt := tYes) (te := teLs13 K) rfl sc_one13.nd (ZmX.pi_zipB (by rfl) B.zip (pa_cons (pv 13) (pa_cons (pv 14) pa_nil)))
            (blkOk_by (N := nOne13) (sc := { kind := .function, names := [(".0", .local), ("_law_row_here", .local), ("_law_line", .local), ("zip", .globalImplicit)], isGenerator := false, isCoroutine := false }) (by decide +kernel))
            (fun _ _ _ _ _ => pg_tup rfl (pgs_cons (pg_name (i := 11) sc_one13.nd rfl (Or.inl rfl)) (pgs_cons (pg_name (i := 12) sc_one13.nd rfl (Or.inl rfl)) pgs_nil))) (fun _ _ _ _ _ => pts_nil)
            (fun _ _ _ _ _ => pe_call GS hr3 rfl DS.g DS.F.kp DS.b .nil pass0 (pa_cons (pv 11) (pa_cons (pv 12) pa_nil)))))
      (C8.pss_cut (ps_if (PW.pt (pw_or (pt_cmpR (op_neD hu) (pe_call GR hr5 rfl DR.g DR.F.kp DR.b .nil pass0 (pa_cons (pe_call GL hr7 rfl DL.g DL.F.kp DL.b .nil pass0 (pa_cons (pv 4) (pa_cons (pv 5) pa_nil))) pa_nil)) (pv 9) (nomark _))
          (pw_or1 (pt_cmpR (op_neD hu) (pe_call GR hr5 rfl DR.g DR.F.kp DR.b .nil pass0 (pa_cons (pe_kwR GL hr7 rfl DL.g DL.F.kp kL (pk_cons (pv 5) (pk_cons (pv 4) pk_nil))) pa_nil)) (pv 9) (nomark _))))) (pss_one (ps_ret pe_bl)) pss_nil)
      (pss_cons (ps_setLc (i := 10) (own := [("_law_at", 15)]) (g := gName 15) (tt := tYes) (te := tLc (iList K (tVar 2)) (gName 13) tYes (tOp (rIxL K) (tVar 13) (tVar 15)) [13]) rfl sc_one13.nd rfl rfl (sw_true rfl rfl rfl (by decide +kernel))
          (pi_range1 rfl B.range (pa_cons (pv 1) pa_nil)) (blkOk_by (N := nOne13) (sc := defScope sOne13) (by decide +kernel)) (fun _ _ _ _ _ => pg_name (i := 15) sc_one13.nd rfl (Or.inr rfl)) (fun _ _ _ _ _ => pts_nil)
          (fun _ _ _ _ _ => pe_lc (own := [("_law_row_here", 13)]) (g := gName 13) (tt := tYes) (te := tOp (rIxL K) (tVar 13) (tVar 15)) rfl sc_one13.nd (pi_list (pv 2))
            (blkOk_by (N := nOne13) (sc := { kind := .function, names := [(".0", .local), ("_law_at", .cell), ("_law_one", .cell)], isGenerator := false, isCoroutine := false }) (by decide +kernel))
            (fun _ _ _ _ _ => pg_name (i := 13) sc_one13.nd rfl (Or.inl rfl)) (fun _ _ _ _ _ => pts_nil) (fun _ _ _ _ _ => pe_ix ix_list (pv 13) (pv 15) (fun _ _ => rfl))))
      (C8.pss_cut (ps_if (PW.pt (pw_or (pt_cmpR (op_neD hu) (pe_call GR hr5 rfl DR.g DR.F.kp DR.b .nil pass0 (pa_cons (pe_call GA hr7 rfl DA.g DA.F.kp DA.b .nil pass0 (pa_cons (pv 4) pa_nil)) pa_nil)) (pv 10) (nomark _))
          (pw_or (pt_cmpR (op_neT OE (N := 2) hr3) (pe_kwR GA hr7 rfl DA.g DA.F.kp kA (pk_cons (pe_call GA hr7 rfl DA.g DA.F.kp DA.b .nil pass0 (pa_cons (pv 4) pa_nil)) pk_nil)) (pe_call GX hr rfl DX.g DX.F.kp DX.b .nil pass0 (pa_cons (pv 4) (pa_cons (pe_call GI hr6 rfl DI.g DI.F.kp DI.b .nil pass0 (pa_cons (pv 1) pa_nil)) pa_nil))) (nomark _))
          (pw_or1 (pt_cmpR op_ne (pe_callB (call_reprT (N := 2) OR hgd hr5) (by rfl) B.repr PyProof.Rows.boot_repr (pa_cons (pe_lst (pa_cons (pv 4) (pa_cons (pv 5) pa_nil))) pa_nil)) (pv 6) (nomark _)))))) (pss_one (ps_ret pe_bl)) pss_nil)
      (pss_cons (ps_if (PW.pt (pw_or (pt_cmpR (op_neT OE (N := 2) hr3) (pe_call GA hr7 rfl DA.g DA.F.kp DA.b .nil pass0 (pa_cons (pv 7) pa_nil)) (pe_call GX hr rfl DX.g DX.F.kp DX.b .nil pass0 (pa_cons (pe_call GA hr7 rfl DA.g DA.F.kp DA.b .nil pass0 (pa_cons (pv 5) pa_nil)) (pa_cons (pe_call GA hr7 rfl DA.g DA.F.kp DA.b .nil pass0 (pa_cons (pv 4) pa_nil)) pa_nil))) (nomark _))
          (pw_or1 (pt_cmpR (op_neT OE (N := 2) hr3) (pe_call GX hr rfl DX.g DX.F.kp DX.b .nil pass0 (pa_cons (pe_kwR GI hr6 rfl DI.g DI.F.kp kI (pk_cons (pv 1) pk_nil)) (pa_cons (pv 4) pa_nil))) (pe_call GX hr rfl DX.g DX.F.kp DX.b .nil pass0 (pa_cons (pv 4) (pa_cons (pe_call GI hr6 rfl DI.g DI.F.kp DI.b .nil pass0 (pa_cons (pv 1) pa_nil)) pa_nil))) (nomark _))))) (pss_one (ps_ret pe_bl)) pss_nil)
      (pss_cons (ps_expr (pe_bm PySem.F.plainAttrs_list PySem.F.slot_list_append PySem.F.type_list_append mt_append (pv 7) (pa_cons pe_non pa_nil)))
      (C8.pss_cut (ps_if (pt_cmpR op_gt (pv 1) pe_int (nomark _)) (pss_one (ps_expr (pe_bm PySem.F.plainAttrs_list PySem.F.slot_list_append PySem.F.type_list_append mt_append (pe_ix ix_list (pv 7) pe_int (fun _ _ => rfl)) (pa_cons pe_non pa_nil)))) pss_nil)
      (pss_one (ps_ret (pe_cmpR (op_eqD hu) (pe_call GR hr5 rfl DR.g DR.F.kp DR.b .nil pass0 (pa_cons (pe_call GX hr rfl DX.g DX.F.kp DX.b .nil pass0 (pa_cons (pv 4) (pa_cons (pv 5) pa_nil))) pa_nil)) (pv 8) (nomark _)))))))))))))), ?_⟩
    -- two tables
    refine ⟨_, rfl, _, rfl, a, n, rfl, pot, by omega, fun H1 r1 A1 x1 p1 h1 T1 l1 E1 => ?_⟩
    refine ⟨_, rfl, _, rfl, a, n, rfl, p1, by omega, fun H2 r2 A2 x2 p2 h2 T2 l2 E2 => ⟨szle (by show 2 ≤ 100000; decide), fun t ht => ?_⟩⟩
    have st := same_new (o := .tup [V.ref r1, V.ref r2]) ht
    refine ⟨t, _, rfl, st_of upd_same, rfl, _, _, rfl, _, _, rfl, rfl, ?_⟩
    have T1' := lt_s T1 ((xr_x x2).trans (xr_s st))
    have T2' := lt_s T2 (xr_s st)
    have x3 := (x1.trans x2).trans (smx_of st)
    have p3 := potS p2 st
    generalize upd H2 t (.tup [V.ref r1, V.ref r2]) = H3 at T1' T2' x3 p3
    clear T1 T2 st ht x1 x2 p1 p2 h1 h2
    have w1 : ∀ qs ∈ A1, qs.length = n := fun qs h => (E1 qs h).1
    have w2 : ∀ qs ∈ A2, qs.length = n := fun qs h => (E2 qs h).1
    have b1 : BdR 5 A1 := fun qs h q hq => ent_bd ((E1 qs h).2 q hq)
    have b2 : BdR 5 A2 := fun qs h q hq => ent_bd ((E2 qs h).2 q hq)
    -- as they are passed
    refine ⟨_, rfl, _, rfl, a, r1, n, A1, rfl, p3, T1', n6, l1, fun qs h => ⟨w1 qs h, fun q hq => ent_good ((E1 qs h).2 q hq)⟩, fun H4 v1 x4 p4 _ N1 => ?_⟩
    refine ⟨_, rfl, _, rfl, a, r2, n, A2, rfl, p4, lt_s T2' (xr_x x4), n6, l2, fun qs h => ⟨w2 qs h, fun q hq => ent_good ((E2 qs h).2 q hq)⟩, fun H5 v2 x5 p5 _ N2 => ?_⟩
    have x6 := (x3.trans x4).trans x5
    have T1h := lt_s T1' (((xr_x x4).trans (xr_x x5)).trans xr_le)
    have T2h := lt_s T2' (((xr_x x4).trans (xr_x x5)).trans xr_le)
    have N1h := tabX_s N1 ((xr_x x5).trans xr_le)
    have N2h := tabX_s N2 xr_le
    clear T1' T2' N1 N2 x3 x4 x5 p3 p4
    obtain ⟨t1, m1, tx1, lm1, lt1⟩ := tx_tabX N1h fun qs h q hq => ent_tiny ((E1 qs h).2 q hq)
    obtain ⟨t2, m2, tx2, lm2, lt2⟩ := tx_tabX N2h fun qs h q hq => ent_tiny ((E2 qs h).2 q hq)
    have lz : (listText [t1, t2]).length ≤ sizeLine := by
      refine szle ?_
      have := listText_len_le [t1, t2]
      simp only [List.map_cons, List.map_nil, List.sum_cons, List.sum_nil, List.length_cons, List.length_nil] at this
      omega
    have txa : ∀ {G : Hp}, Same H5 G → TxA (ShowQ C) G [.ref v1, .ref v2] [t1, t2] (max m1 (max m2 0)) := fun sG => .cons (tx_s showQ sG _ _ _ tx1) (.cons (tx_s showQ sG _ _ _ tx2) .nil)
    have lm : max m1 (max m2 0) ≤ 2 := by omega
    have as12 := times_asks n6 l1 w1 b1 l2 w2 b2 (by decide)
    -- text, product, the law's own
    refine ⟨_, _, rfl, _, rfl, _, rfl, szle (by show 2 ≤ 100000; decide), fun u hu => ?_⟩
    have su := same_new (o := .lst [V.ref v1, V.ref v2]) hu
    refine ⟨u, _, _, _, _, rfl, upd_same, (by show 2 ≤ 1000; decide), txa su, lm, lz, fun H6 s6 => ?_⟩
    have s56 := su.trans s6
    clear su s6 hu
    refine ⟨_, rfl, _, rfl, .ref v1, .ref v2, n, A1, A2, rfl, tabX_tab (tabX_s N1h s56), tabX_tab (tabX_s N2h s56), as12.1, as12.2.1, as12.2.2, fun H7 r7 s7 hr7 R7 I7 => ?_⟩
    have s57 := s56.trans s7
    refine' mergeT (fun (r : Addr) (G : Hp) => Same H7 G ∧ H7 r = none ∧ LTab K G r (timesQ n A1 A2) ∧ NewIn H7 G r) ?rest (fun rest => ?use)
    case use =>
      refine ⟨_, rfl, _, _, rfl, rfl, _, rfl, ?_⟩
      refine ite2 (fun c => ?_) (fun c => ?_)
      · have n0 : 0 < n := by have := of_decide_eq_true c; omega
        refine ⟨_, rfl, _, rfl, r1, r2, n, A1, A2, rfl, lt_s T1h s57, lt_s T2h s57, l1, l2, w1, w2, n0, by omega, fun qs hq => ⟨as12.1 qs hq, fun cs hc => ⟨as12.2.1 cs hc, as12.2.2 qs hq cs hc⟩⟩, fun H8 r8 s8 h8 R8 I8 => ?_⟩
        exact rest r8 H8 ⟨s8, h8, R8, I8⟩
      · have n0 : n = 0 := by
          cases n with
          | zero => rfl
          | succ n => exact absurd (decide_eq_true (show (0 : Int) < ((n + 1 : Nat) : Int) by omega)) c
        refine ⟨szle (by show 0 ≤ 100000; decide), fun u hu => ?_⟩
        refine rest u _ ⟨same_new hu, hu, ⟨[], upd_same, ?_⟩, [], upd_same, newl_nil⟩
        have e : A1 = [] := List.length_eq_zero_iff.mp (by omega)
        rw [e]
        exact trivial
    case rest =>
      rintro r8 H8 ⟨s8, h8, R8, I8⟩
      have s58 := s57.trans s8
      have sh := times_shape (n := n) (A := A1) (B := A2) l1
      have few : (timesQ n A1 A2).length ≤ 60 := by rw [sh.1]; omega
      have few2 : ∀ qs ∈ timesQ n A1 A2, qs.length ≤ 60 := fun qs h => by rw [sh.2 qs h]; omega
      refine ⟨_, _, _, rfl, ?_⟩
      have S8 : St13 K C H5 (timesQ n A1 A2) r7 r8 H8 H6 H7 H8 := ⟨s56, hr7, s7, R7, I7, s8, h8, R8, I8, fun _ _ h => h⟩
      refine ⟨fun σ G => σ = [some (V.ref a), some (V.int n), some (V.ref r1), some (V.ref r2), some (V.ref v1), some (V.ref v2), some (V.str (listText [t1, t2])), some (V.ref r7), some (V.ref r8), none, none, none, none, none, none, none] ∧ St13 K C H5 (timesQ n A1 A2) r7 r8 G H6 H7 H8, ?_, ?_⟩
      · -- both ways
        refine ⟨_, rfl, r7, timesQ n A1 A2, rfl, rtt_s R7 s8, few, few2, fun H9 r9 s9 _ L9 _ => ?_⟩
        refine ⟨_, rfl, ne_lts L9 (lt_s R8 s9) ⟨false, rfl, iteF ?_⟩⟩
        have e5 := s58.trans s9
        refine ⟨_, rfl, _, rfl, rfl, .ref v1, .ref v2, n, A1, A2, rfl, tabX_tab (tabX_s N1h e5), tabX_tab (tabX_s N2h e5), as12.1, as12.2.1, as12.2.2, fun H10 r10 s10 _ R10 _ => ?_⟩
        refine ⟨_, rfl, ne_tabs R10 (rtt_s R7 (s8.trans (s9.trans s10))) fun H11 s11 => ⟨false, rfl, iteF ⟨rfl, S8.more ((s9.trans s10).trans s11)⟩⟩⟩
      clear S8
      rintro σ H11 ⟨rfl, S11⟩
      -- differences
      obtain ⟨xs1, hx1, P1⟩ := lt_s T1h S11.g
      obtain ⟨xs2, hx2, P2⟩ := lt_s T2h S11.g
      have lx1 := pt_len P1
      have lx2 := pt_len P2
      have lsh := less_shape l1 w1 l2 w2
      refine ⟨_, rfl, _, rfl, false, false, r1, r2, xs1, xs2, rfl, sl_of hx1, sl_of hx2, fun D hD => ?_⟩
      refine ZmX.lc_zipB (t := false) (u := false) (H0 := H11) (by omega) (sl_of hx1) (sl_of hx2) (fun k G => Same H11 G ∧ ∃ acc, G D = some (.lst acc) ∧ PtRows K G acc ((lessL A1 A2).take k) ∧ ∀ x ∈ acc, x ≠ .ref D) ⟨same_new hD, [], upd_same, by simp [PtRows], fun x h => nomatch h⟩ (fun k G _ p => p.1) ?_ ?_
      · rintro k x y T G hx hy ⟨sG, acc, hacc, hQ, hne⟩ hT
        have sT := same_new (o := .tup [x, y]) hT
        obtain ⟨q1, c1, us, f1, rfl, f3, f4⟩ := pt_at P1 k x hx
        obtain ⟨q2, c2, vs', g1, rfl, g3, g4⟩ := pt_at P2 k y hy
        have m1' := List.mem_of_getElem? f1
        have m2' := List.mem_of_getElem? g1
        have lu := (prs_at f4).1
        have lv := (prs_at g4).1
        have lq1 := w1 q1 m1'
        have lq2 := w2 q2 m2'
        have sGT := sG.trans sT
        have hacc' := sT _ _ hacc
        have hQ' := pt_s sT hQ
        have fewk := pt_len hQ
        have : ((lessL A1 A2).take k).length ≤ 60 := by rw [List.length_take, lsh.1]; omega
        refine ⟨T, _, rfl, st_of upd_same, rfl, _, _, rfl, _, _, rfl, rfl, rfl, ?_⟩
        generalize upd G T (.tup [V.ref c1, V.ref c2]) = G1 at sGT hacc' hQ'
        clear sT hT
        have hrw : (lessL A1 A2)[k]? = some (List.zipWith subQ q1 q2) := by unfold lessL; rw [List.getElem?_zipWith, f1, g1]
        have lw : (List.zipWith subQ q1 q2).length = n := by rw [List.length_zipWith]; omega
        refine ⟨_, rfl, _, rfl, false, false, c1, c2, us, vs', rfl, sl_of (sGT _ _ f3), sl_of (sGT _ _ g3), fun D2 hD2 => ?_⟩
        have nDD : D2 ≠ D := fun e => by rw [e, hacc'] at hD2; cases hD2
        refine ZmX.lc_zipB (t := false) (u := false) (H0 := G1) (by omega) (sl_of (sGT _ _ f3)) (sl_of (sGT _ _ g3)) (fun j G2 => Same G1 G2 ∧ ∃ ac, G2 D2 = some (.lst ac) ∧ PrsP K G2 ac ((List.zipWith subQ q1 q2).take j)) ⟨same_new hD2, [], upd_same, by simp [PrsP]⟩ (fun j G2 _ p => p.1) ?_ ?_
        · rintro j x2 y2 T2 G2 hx2 hy2 ⟨s2', ac, hac, hR⟩ hT2
          have sT2 := same_new (o := .tup [x2, y2]) hT2
          obtain ⟨z1, o1, hz1, rfl, ho1⟩ := (prs_at f4).2 j x2 hx2
          obtain ⟨z2, o2, hz2, rfl, ho2⟩ := (prs_at g4).2 j y2 hy2
          have hpr : (List.zipWith subQ q1 q2)[j]? = some (subQ z1 z2) := by rw [List.getElem?_zipWith, hz1, hz2]
          have fewj := (prs_at hR).1
          have : ((List.zipWith subQ q1 q2).take j).length ≤ 60 := by rw [List.length_take]; omega
          have ss := sGT.trans (s2'.trans sT2)
          refine ⟨T2, _, rfl, st_of upd_same, rfl, _, _, rfl, _, _, rfl, rfl, rfl, ?_⟩
          refine ⟨_, rfl, _, rfl, o1, o2, z1, z2, rfl, pair_sR ho1 ss, pair_sR ho2 ss, bd_small (b1 q1 m1' z1 (List.mem_of_getElem? hz1)) (by decide), bd_small (b2 q2 m2' z2 (List.mem_of_getElem? hz2)) (by decide), fun G4 p s4 _ hp => ?_⟩
          refine ⟨ac, s4 _ _ (sT2 _ _ hac), szlt (by omega), same_mut ((s2'.trans sT2).trans s4) hD2, ac ++ [.ref p], upd_same, ?_⟩
          rw [take_at hpr]
          exact prs_butR (s4 _ _ (sT2 _ _ hac)) smx_upd (prs_appR (prs_sR (sT2.trans s4) hR) ⟨⟨p, rfl, hp⟩, trivial⟩)
        · rintro G2 ⟨s2', ac, hac, hR⟩
          rw [show (List.zipWith subQ q1 q2).take us.length = List.zipWith subQ q1 q2 from List.take_of_length_le (by omega)] at hR
          refine ⟨acc, s2' _ _ hacc', szlt (by omega), same_mut (sGT.trans s2') hD, acc ++ [.ref D2], upd_same, ?_, fun x hx => ?_⟩
          · rw [take_at hrw]
            exact pt_app (pt_but (s2' _ _ hacc') hne (pt_s s2' hQ')) ⟨⟨D2, ac, rfl, by rw [upd_ne nDD]; exact hac, prs_butR (s2' _ _ hacc') smx_upd hR⟩, trivial⟩
          · rcases List.mem_append.mp hx with z | z
            · exact hne x z
            · rw [List.mem_singleton.mp z]
              intro e
              injection e with e
              exact nDD e
      rintro H12 ⟨s12, acc, hacc, hQ, _⟩
      rw [show (lessL A1 A2).take xs1.length = lessL A1 A2 from List.take_of_length_le (by rw [lsh.1]; omega)] at hQ
      have L12 : LTab K H12 D (lessL A1 A2) := ⟨acc, hacc, hQ⟩
      have S12 := S11.more s12
      clear hQ hacc hD P1 P2 hx1 hx2 lx1 lx2
      have lfew : (lessL A1 A2).length ≤ 60 := by rw [lsh.1]; omega
      have lfew2 : ∀ qs ∈ lessL A1 A2, qs.length ≤ 60 := fun qs h => by rw [lsh.2 qs h]; omega
      have sm1 := bdR_small b1 (by decide)
      have sm2 := bdR_small b2 (by decide)
      refine ⟨fun σ G => σ = [some (V.ref a), some (V.int n), some (V.ref r1), some (V.ref r2), some (V.ref v1), some (V.ref v2), some (V.str (listText [t1, t2])), some (V.ref r7), some (V.ref r8), some (V.ref D), none, none, none, none, none, none] ∧ St13 K C H5 (timesQ n A1 A2) r7 r8 G H6 H7 H8, ?_, ?_⟩
      · have e12 := S12.g
        refine ⟨_, rfl, _, rfl, .ref v1, .ref v2, n, A1, A2, rfl, tabX_tab (tabX_s N1h e12), tabX_tab (tabX_s N2h e12), sm1, sm2, fun H13 r13 s13 _ R13 _ => ?_⟩
        refine ⟨r13, _, rfl, R13, lfew, lfew2, fun H14 r14 s14 _ L14 _ => ?_⟩
        refine ⟨_, rfl, ne_lts L14 (lt_s L12 (s13.trans s14)) ⟨false, rfl, iteF ?_⟩⟩
        have e14 := e12.trans (s13.trans s14)
        refine ⟨_, rfl, _, rfl, rfl, .ref v1, .ref v2, n, A1, A2, rfl, tabX_tab (tabX_s N1h e14), tabX_tab (tabX_s N2h e14), sm1, sm2, fun H15 r15 s15 _ R15 _ => ?_⟩
        refine ⟨r15, _, rfl, R15, lfew, lfew2, fun H16 r16 s16 _ L16 _ => ?_⟩
        exact ⟨_, rfl, ne_lts L16 (lt_s L12 ((s13.trans s14).trans (s15.trans s16))) ⟨false, rfl, iteF ⟨rfl, S12.more ((s13.trans s14).trans (s15.trans s16))⟩⟩⟩
      clear S12 L12 S11 s12
      rintro σ G16 ⟨rfl, S16⟩
      -- turned about
      obtain ⟨xs1, hx1, P1⟩ := lt_s T1h S16.g
      have lx1 := pt_len P1
      have csh := cols_shape (n := n) l1
      refine ⟨_, rfl, n, rfl, by omega, by omega, fun D2 hD2 => ?_⟩
      rw [Int.toNat_natCast]
      refine lc_range (lo := 0) (n := n) (fun k G => Same G16 G ∧ ∃ acc, G D2 = some (.lst acc) ∧ PtRows K G acc ((colsQ n A1).take k) ∧ ∀ x ∈ acc, x ≠ .ref D2) ⟨same_new hD2, [], upd_same, by simp [PtRows], fun x h => nomatch h⟩ ?_ ?_
      · rintro k G hk ⟨sG, acc, hacc, hQ, hne⟩
        refine ⟨rfl, _, rfl, r1, rfl, ⟨xs1, sl_of (sG _ _ hx1)⟩, fun D3 hD3 => ?_⟩
        have nDD : D3 ≠ D2 := fun e => by rw [e, hacc] at hD3; cases hD3
        have hcol : (colsQ n A1)[k]? = some (A1.map fun qs => qs[k]?.getD (0, 1)) := by unfold colsQ; simp [hk]
        have fewk := pt_len hQ
        have : ((colsQ n A1).take k).length ≤ 60 := by rw [List.length_take, csh.1]; omega
        refine lc_list (xs := xs1) (fun j G2 => Same G G2 ∧ ∃ ac, G2 D3 = some (.lst ac) ∧ PrsP K G2 ac ((A1.map fun qs => qs[k]?.getD (0, 1)).take j)) ⟨same_new hD3, [], upd_same, by simp [PrsP]⟩ (fun j G2 _ p => sl_of ((sG.trans p.1) _ _ hx1)) ?_ ?_
        · rintro j y G2 hy ⟨s2, ac, hac, hQ2⟩
          obtain ⟨q1, b, zs, f1, rfl, f3, f4⟩ := pt_at (pt_s (sG.trans s2) P1) j y hy
          have lz := (prs_at f4).1
          have lq := w1 q1 (List.mem_of_getElem? f1)
          obtain ⟨w', hw⟩ : ∃ w', zs[k]? = some w' := ⟨_, List.getElem?_eq_getElem (by omega)⟩
          obtain ⟨z, p, hz, rfl, hp⟩ := (prs_at f4).2 k w' hw
          have fewj := (prs_at hQ2).1
          have hj := lt_of_at hy
          have : ((A1.map fun qs => qs[k]?.getD ((0 : Int), (1 : Int))).take j).length ≤ 60 := by rw [List.length_take, List.length_map]; omega
          refine ⟨rfl, _, rfl, _, rfl, b, zs, _, _, rfl, rfl, sl_of f3, place_ix (n := 0) hw, ?_⟩
          refine ⟨ac, hac, szlt (by omega), same_mut s2 hD3, ac ++ [.ref p], upd_same, ?_⟩
          rw [take_at (x := z) (by rw [List.getElem?_map, f1]; show some (q1[k]?.getD (0, 1)) = _; rw [hz]; rfl)]
          exact prs_butR hac smx_upd (prs_appR hQ2 ⟨⟨p, rfl, hp⟩, trivial⟩)
        · rintro G2 ⟨s2, ac, hac, hQ2⟩
          rw [show (A1.map fun qs => qs[k]?.getD ((0 : Int), (1 : Int))).take xs1.length = A1.map fun qs => qs[k]?.getD (0, 1) from List.take_of_length_le (by rw [List.length_map]; omega)] at hQ2
          refine ⟨acc, s2 _ _ hacc, szlt (by omega), same_mut (sG.trans s2) hD2, acc ++ [.ref D3], upd_same, ?_, fun x hx => ?_⟩
          · rw [take_at hcol]
            refine pt_app (pt_but (s2 _ _ hacc) hne (pt_s s2 hQ)) ⟨⟨D3, ac, rfl, by rw [upd_ne nDD]; exact hac, prs_butR (s2 _ _ hacc) smx_upd hQ2⟩, trivial⟩
          · rcases List.mem_append.mp hx with z | z
            · exact hne x z
            · rw [List.mem_singleton.mp z]
              intro e
              injection e with e
              exact nDD e
      rintro G17 ⟨s17, acc, hacc, hQ, _⟩
      rw [show (colsQ n A1).take n = colsQ n A1 from List.take_of_length_le (by rw [csh.1]; omega)] at hQ
      have L17 : LTab K G17 D2 (colsQ n A1) := ⟨acc, hacc, hQ⟩
      have S17 := S16.more s17
      clear hQ hacc hD2 P1 hx1 lx1 S16 s17
      refine ⟨fun σ G => σ = [some (V.ref a), some (V.int n), some (V.ref r1), some (V.ref r2), some (V.ref v1), some (V.ref v2), some (V.str (listText [t1, t2])), some (V.ref r7), some (V.ref r8), some (V.ref D), some (V.ref D2), none, none, none, none, none] ∧ St13 K C H5 (timesQ n A1 A2) r7 r8 G H6 H7 H8, ?_, ?_⟩
      · have e17 := S17.g
        have cfew : (colsQ n A1).length ≤ 60 := by rw [csh.1]; omega
        have cfew2 : ∀ qs ∈ colsQ n A1, qs.length ≤ 60 := fun qs h => by rw [csh.2 qs h]; omega
        refine ⟨_, rfl, .ref v1, n, A1, rfl, tabX_tab (tabX_s N1h e17), fun H18 r18 s18 _ R18 _ => ?_⟩
        refine ⟨r18, _, rfl, R18, cfew, cfew2, fun H19 r19 s19 _ L19 _ => ?_⟩
        refine ⟨_, rfl, ne_lts L19 (lt_s L17 (s18.trans s19)) ⟨false, rfl, iteF ?_⟩⟩
        have e19 := e17.trans (s18.trans s19)
        refine ⟨_, rfl, .ref v1, n, A1, rfl, tabX_tab (tabX_s N1h e19), fun H20 r20 s20 _ R20 _ => ?_⟩
        refine ⟨rfl, .ref r20, n, colsQ n A1, rfl, tab_of R20 n6 csh.1 csh.2, fun H21 r21 s21 _ R21 _ => ?_⟩
        have e21 := e19.trans (s20.trans s21)
        refine ⟨_, rfl, _, rfl, n, rfl, n6, fun H22 r22 s22 _ R22 _ => ?_⟩
        have asI := times_asks n6 l1 w1 b1 (idle_shape (n := n)).1 (idle_shape (n := n)).2 (bdR_idle (n := n)) (by decide)
        refine ⟨.ref v1, .ref r22, n, A1, idleQ n, rfl, tabX_tab (tabX_s N1h (e21.trans s22)), tab_of R22 n6 idle_shape.1 idle_shape.2, asI.1, asI.2.1, asI.2.2, fun H23 r23 s23 _ R23 _ => ?_⟩
        rw [times_idle l1 w1 (bdR_low b1)] at R23
        rw [cols_cols l1 w1] at R21
        refine ne_tabs (rtt_s R21 (s22.trans s23)) R23 fun H24 s24 => ⟨false, rfl, iteF ?_⟩
        have e24 := e21.trans ((s22.trans s23).trans s24)
        refine ⟨_, rfl, _, rfl, szle (by show 2 ≤ 100000; decide), fun u2 hu2 => ?_⟩
        have su2 := same_new (o := .lst [V.ref v1, V.ref v2]) hu2
        refine ⟨u2, _, _, _, _, rfl, upd_same, (by show 2 ≤ 1000; decide), txa (e24.trans su2), lm, lz, fun H25 s25 => ?_⟩
        refine ⟨_, rfl, rfl, false, by simp, iteF ⟨rfl, S17.more ((s18.trans s19).trans ((s20.trans s21).trans ((s22.trans s23).trans (s24.trans (su2.trans s25)))))⟩⟩
      clear S17 L17
      rintro σ G26 ⟨rfl, S26⟩
      -- both turned about
      have csh1 := cols_shape (n := n) l1
      have csh2 := cols_shape (n := n) l2
      have e26 := S26.g
      have asI := times_asks n6 l1 w1 b1 (idle_shape (n := n)).1 (idle_shape (n := n)).2 (bdR_idle (n := n)) (by decide)
      have asJ := times_asks n6 (idle_shape (n := n)).1 (idle_shape (n := n)).2 (bdR_idle (n := n)) l1 w1 b1 (by decide)
      have asC := times_asks n6 csh2.1 csh2.2 (bdR_cols l2 w2 b2) csh1.1 csh1.2 (bdR_cols l1 w1 b1) (by decide)
      refine ⟨_, rfl, .ref r7, n, _, rfl, tab_of (rtt_s S26.R7 (S26.c.trans S26.d)) n6 sh.1 sh.2, fun Ha ra sa _ Ra _ => ?_⟩
      refine ⟨_, rfl, .ref v2, n, A2, rfl, tabX_tab (tabX_s N2h (e26.trans sa)), fun Hb rb sb _ Rb _ => ?_⟩
      refine ⟨_, rfl, .ref v1, n, A1, rfl, tabX_tab (tabX_s N1h (e26.trans (sa.trans sb))), fun Hc rc sc _ Rc _ => ?_⟩
      refine ⟨.ref rb, .ref rc, n, colsQ n A2, colsQ n A1, rfl, tab_of (rtt_s Rb sc) n6 csh2.1 csh2.2, tab_of Rc n6 csh1.1 csh1.2, asC.1, asC.2.1, asC.2.2, fun Hd rd sd _ Rd _ => ?_⟩
      rw [cols_times l1 w1 l2 w2] at Ra
      refine ne_tabs (rtt_s Ra (sb.trans (sc.trans sd))) Rd fun He se => ⟨false, rfl, iteF ?_⟩
      have sE := (sa.trans sb).trans ((sc.trans sd).trans se)
      have eE := e26.trans sE
      refine ⟨_, rfl, rfl, n, rfl, n6, fun Hf rf sf _ Rf _ => ?_⟩
      refine ⟨_, rfl, .ref rf, .ref v1, n, idleQ n, A1, rfl, tab_of Rf n6 idle_shape.1 idle_shape.2, tabX_tab (tabX_s N1h (eE.trans sf)), asJ.1, asJ.2.1, asJ.2.2, fun Hg rg sg _ Rg _ => ?_⟩
      refine ⟨_, rfl, _, rfl, n, rfl, n6, fun Hh rh sh' _ Rh _ => ?_⟩
      refine ⟨.ref v1, .ref rh, n, A1, idleQ n, rfl, tabX_tab (tabX_s N1h (eE.trans (sf.trans (sg.trans sh')))), tab_of Rh n6 idle_shape.1 idle_shape.2, asI.1, asI.2.1, asI.2.2, fun Hi ri si _ Ri _ => ?_⟩
      rw [idle_times l1 w1 (bdR_low b1)] at Rg
      rw [times_idle l1 w1 (bdR_low b1)] at Ri
      refine ne_tabs (rtt_s Rg (sh'.trans si)) Ri fun Hj sj => ⟨false, rfl, iteF ?_⟩
      have S27 := S26.more (sE.trans ((sf.trans sg).trans ((sh'.trans si).trans sj)))
      clear S26 Ra Rb Rc Rd Rf Rg Rh Ri sa sb sc sd se sf sg sh' si sj sE eE e26 asI asJ asC csh1 csh2
      -- what was told changes
      obtain ⟨xs7, hx7, P7⟩ := S27.R7
      obtain ⟨ys7, hy7, N7⟩ := S27.I7
      rw [hx7] at hy7
      cases hy7
      obtain ⟨xs8, hx8, P8⟩ := S27.R8
      obtain ⟨ys8, hy8, N8⟩ := S27.I8
      rw [hx8] at hy8
      cases hy8
      have s7j := S27.c.trans S27.d
      have lx7 := rt_len P7
      have hx7j := s7j _ _ hx7
      have n87 : r8 ≠ r7 := fun e => by have := S27.n8; rw [e, hx7] at this; cases this
      have n8r : ∀ {L : Addr} {o : HO}, H7 L = some o → ∀ x ∈ xs8, x ≠ .ref L := fun {L o} hL x hx e => by
        obtain ⟨b, eb, hb⟩ := N8 x hx
        rw [eb] at e
        injection e with e
        rw [e, hL] at hb
        cases hb
      refine ⟨_, rfl, .inl ⟨rfl, _, sl_of hx7j⟩, r7, xs7, _, rfl, rfl, hx7j, szlt (by rw [lx7, sh.1]; omega), ?_⟩
      have m1 : Same H6 (upd Hj r7 (.lst (xs7 ++ [.non]))) := same_mut (S27.b.trans s7j) S27.n7
      have q8 : PtRows K (upd Hj r7 (.lst (xs7 ++ [.non]))) xs8 (timesQ n A1 A2) := pt_but hx7j (n8r hx7) (pt_s S27.d P8)
      have h8 : (upd Hj r7 (.lst (xs7 ++ [.non]))) r8 = some (.lst xs8) := by rw [upd_ne n87]; exact S27.d _ _ hx8
      have h7 : (upd Hj r7 (.lst (xs7 ++ [.non]))) r7 = some (.lst (xs7 ++ [.non])) := upd_same
      have P7j := rt_s s7j P7
      refine ⟨fun σ G => σ = [some (V.ref a), some (V.int n), some (V.ref r1), some (V.ref r2), some (V.ref v1), some (V.ref v2), some (V.str (listText [t1, t2])), some (V.ref r7), some (V.ref r8), some (V.ref D), some (V.ref D2), none, none, none, none, none] ∧ Same H6 G ∧ LTab K G r8 (timesQ n A1 A2), ?_, ?_⟩
      · refine ⟨_, rfl, _, _, rfl, rfl, _, rfl, ?_⟩
        refine ite2 (fun c => ?_) (fun c => ?_)
        · have n0 : 0 < xs7.length := by rw [lx7, sh.1]; have := of_decide_eq_true c; omega
          obtain ⟨z0, a0, ys0, f1, f2, f3, f4, f5⟩ := rt_at P7j 0 _ (List.getElem?_eq_getElem n0)
          have f4' : (upd Hj r7 (.lst (xs7 ++ [.non]))) a0 = some (.lst ys0) := by rw [upd_ne f3]; exact f4
          have l0 := (rats_at f5).1
          have lz0 := sh.2 z0 (List.mem_of_getElem? f1)
          have at0 : (xs7 ++ [V.non])[0]? = some (.ref a0) := by rw [List.getElem?_append_left n0, List.getElem?_eq_getElem n0, f2]
          obtain ⟨b0, eb0, hb0⟩ := N7 _ (List.getElem_mem n0)
          rw [f2] at eb0
          injection eb0 with eb0
          subst eb0
          obtain ⟨_, a0', ys0', _, f2', _, f4'', _⟩ := rt_at P7 0 _ (List.getElem?_eq_getElem n0)
          rw [f2] at f2'
          injection f2' with f2'
          subst f2'
          have n8a : r8 ≠ a0 := fun e => by have := S27.n8; rw [e, f4''] at this; cases this
          refine ⟨_, rfl, r7, _, 0, _, rfl, rfl, sl_of h7, atI_nat (j := 0) at0, .inl ⟨rfl, _, sl_of f4'⟩, a0, ys0, _, rfl, rfl, f4', szlt (by omega), ?_⟩
          refine ⟨rfl, same_mut m1 hb0, xs8, by rw [upd_ne n8a]; exact h8, pt_but f4' (n8r f4'') q8⟩
        · exact ⟨rfl, m1, xs8, h8, q8⟩
      · rintro σ G ⟨rfl, sG, L8⟩
        have e5 := S27.a.trans sG
        refine ⟨_, rfl, _, rfl, .ref v1, .ref v2, n, A1, A2, rfl, tabX_tab (tabX_s N1h e5), tabX_tab (tabX_s N2h e5), as12.1, as12.2.1, as12.2.2, fun Hk rk sk _ Rk _ => ?_⟩
        refine ⟨rk, _, rfl, Rk, few, few2, fun Hl rl sl _ Ll _ => ?_⟩
        refine ⟨_, rfl, eq_lts Ll (lt_s L8 (sk.trans sl)) ?_⟩
        have e6 := e5.trans (sk.trans sl)
        exact q _ (x6.trans (smx_of e6)) (potS p5 e6)
end
end Tk

namespace Tk
open PySem PySem.Spec PyProof.Rows L2 ClX
abbrev sRul13 : Stmt := top 59
theorem bdR_le {k l : Nat} {A : List (List (Int × Int))} (h : BdR k A) (e : k ≤ l) : BdR l A := fun qs h1 q h2 => bd_le (h qs h1 q h2) e
/-- a table of Ratios or as it was passed, with its bounds -/
structure Tb (K : PySem.W.Frag) (C : Addr) (H : Hp) (v : V) (n k : Nat) (A : List (List (Int × Int))) : Prop where
  at_ : TabAt K C H v n A
  bd : BdR k A
theorem Tb.s {K : PySem.W.Frag} {C : Addr} {H H' : Hp} {v : V} {n k : Nat} {A : List (List (Int × Int))} (h : Tb K C H v n k A) (e : Same H H') : Tb K C H' v n k A := ⟨tab_s h.at_ e, h.bd⟩
theorem Tb.l {K : PySem.W.Frag} {C : Addr} {H : Hp} {v : V} {n k : Nat} {A : List (List (Int × Int))} (h : Tb K C H v n k A) : A.length = n := h.at_.2.1
theorem Tb.w {K : PySem.W.Frag} {C : Addr} {H : Hp} {v : V} {n k : Nat} {A : List (List (Int × Int))} (h : Tb K C H v n k A) : ∀ qs ∈ A, qs.length = n := h.at_.2.2.1
/-- times of two such -/
theorem tb_times {K : PySem.W.Frag} {C : Addr} {H : Hp} {v u : V} {n k l : Nat} {A B : List (List (Int × Int))} {Q : VK} {E : XK} (h : Tb K C H v n k A) (g : Tb K C H u n l B) (e : 1 + 6 * (k + l + 1) ≤ 3999)
    (q : ∀ (H' : Hp) (r : Addr), Same H H' → RtTab C H' r (timesQ n A B) → Tb K C H' (.ref r) n (1 + 6 * (k + l + 1)) (timesQ n A B) → Q (.ref r) H') : spTimesT K C [v, u] H Q E := by
  have n6 := h.at_.1
  have as_ := times_asks n6 h.l h.w h.bd g.l g.w g.bd e
  refine ⟨v, u, n, A, B, rfl, h.at_, g.at_, as_.1, as_.2.1, as_.2.2, fun H' r s' _ R _ => q H' r s' R ⟨?_, ?_⟩⟩
  · have sh := times_shape (n := n) (A := A) (B := B) h.l
    exact tab_of R n6 sh.1 sh.2
  · refine bdR_le (bdR_times n6 h.l h.w h.bd g.l g.w g.bd) ?_
    have := Nat.mul_le_mul_right (k + l + 1) n6
    omega
theorem tb_less {K : PySem.W.Frag} {C : Addr} {H : Hp} {v u : V} {n k l : Nat} {A B : List (List (Int × Int))} {Q : VK} {E : XK} (h : Tb K C H v n k A) (g : Tb K C H u n l B) (e : k + l ≤ 3000)
    (q : ∀ (H' : Hp) (r : Addr), Same H H' → RtTab C H' r (lessL A B) → Tb K C H' (.ref r) n (k + l + 1) (lessL A B) → Q (.ref r) H') : spLessT K C [v, u] H Q E := by
  have n6 := h.at_.1
  refine ⟨v, u, n, A, B, rfl, h.at_, g.at_, bdR_small h.bd (by omega), bdR_small g.bd (by omega), fun H' r s' _ R _ => q H' r s' R ⟨?_, bdR_less h.l h.w h.bd g.l g.w g.bd⟩⟩
  have sh := less_shape h.l h.w g.l g.w
  exact tab_of R n6 sh.1 sh.2
def spRul13 : Sp := fun vs H Q _ => ∃ (a : Addr) (n : Nat), vs = [.ref a, .int n] ∧ Pot H a ∧ n ≤ 6 ∧ ∀ H', SmX a H H' → Pot H' a → Q (.bl true) H'
section
variable {P : Program} {w : World} {K : PySem.W.Frag} {mg : Str → Option Value} {base : Heap}
abbrev nRul13 : List Str := ["_law_pot_here", "_law_size", "_law_one", "_law_other", "_law_third"]
theorem sc_rul13 : FnScope nRul13 ["_law_pot_here", "_law_size"] (defScope sRul13) := ⟨rfl, rfl, rfl, by decide +kernel, rfl, by decide +kernel, by decide +kernel⟩
theorem ok_rul13 {f C : Addr} {fd : FuncData} (F : Fun K "_law_rules_right" "_law_rules_right" sRul13 f fd) (Z : Calls13 P w K mg base C) (B : Bl mg) : FnOk P w K mg base CX0 9 f fd ["_law_pot_here", "_law_size"] spRul13 := by
  obtain ⟨fT, dT, DT, GT⟩ := Z.table
  obtain ⟨fG, dG, DG, GG⟩ := Z.given
  obtain ⟨fX, dX, DX, GX, kX⟩ := Z.times
  obtain ⟨fL, dL, DL, GL, kL⟩ := Z.less
  obtain ⟨fE, dE, e1, e2, GE, bE⟩ := Z.eq
  refine F.ok sc_rul13 (fun vs H Q E h => ?_) (fun cdv A outer s H vs Q E hr h => ?_)
  · obtain ⟨a, n, rfl, _⟩ := h
    rfl
  · obtain ⟨a, n, rfl, pot, n6, q⟩ := h
    have hr3 : Room 3 _ := hr.mono (by decide)
    have hr6 : Room 6 _ := hr.mono (by decide)
    have hr7 : Room 7 _ := hr.mono (by decide)
    have OE : OwnEq (cxOf CX0 P w K mg base nRul13 "_law_rules_right" (defScope sRul13) f cdv A outer s H E).nox C (LikeQ C) (spREq C) 1 fE dE ["self", "other"] := likeQ e1 e2 GE bE
    refine ⟨_, pss_cons (ps_par3 (i := 2) (j := 3) (l := 4) rfl sc_rul13.nd rfl rfl rfl (by decide) (by decide) (by decide) rfl rfl rfl
        (pa_cons (pe_call GG hr6 rfl DG.g DG.F.kp DG.b .nil pass0 (pa_cons (pv 0) (pa_cons (pe_call GT hr6 rfl DT.g DT.F.kp DT.b .nil pass0 (pa_cons (pv 0) (pa_cons (pv 1) pa_nil))) pa_nil)))
        (pa_cons (pe_call GG hr6 rfl DG.g DG.F.kp DG.b .nil pass0 (pa_cons (pv 0) (pa_cons (pe_call GT hr6 rfl DT.g DT.F.kp DT.b .nil pass0 (pa_cons (pv 0) (pa_cons (pv 1) pa_nil))) pa_nil)))
        (pa_cons (pe_call GG hr6 rfl DG.g DG.F.kp DG.b .nil pass0 (pa_cons (pv 0) (pa_cons (pe_call GT hr6 rfl DT.g DT.F.kp DT.b .nil pass0 (pa_cons (pv 0) (pa_cons (pv 1) pa_nil))) pa_nil))) pa_nil))) (by rfl))
      (pss_cons (ps_if (pt_cmpR (op_neT OE (N := 2) hr3) (pe_call GX hr rfl DX.g DX.F.kp DX.b .nil pass0 (pa_cons (pe_call GX hr rfl DX.g DX.F.kp DX.b .nil pass0 (pa_cons (pv 2) (pa_cons (pv 3) pa_nil))) (pa_cons (pv 4) pa_nil)))
          (pe_call GX hr rfl DX.g DX.F.kp DX.b .nil pass0 (pa_cons (pv 2) (pa_cons (pe_call GX hr rfl DX.g DX.F.kp DX.b .nil pass0 (pa_cons (pv 3) (pa_cons (pv 4) pa_nil))) pa_nil))) (nomark _)) (pss_one (ps_ret pe_bl)) pss_nil)
      (pss_cons (ps_if (pt_cmpR (op_neT OE (N := 2) hr3) (pe_call GX hr rfl DX.g DX.F.kp DX.b .nil pass0 (pa_cons (pe_call GL hr7 rfl DL.g DL.F.kp DL.b .nil pass0 (pa_cons (pv 2) (pa_cons (pv 3) pa_nil))) (pa_cons (pv 4) pa_nil)))
          (pe_call GL hr7 rfl DL.g DL.F.kp DL.b .nil pass0 (pa_cons (pe_call GX hr rfl DX.g DX.F.kp DX.b .nil pass0 (pa_cons (pv 2) (pa_cons (pv 4) pa_nil))) (pa_cons (pe_call GX hr rfl DX.g DX.F.kp DX.b .nil pass0 (pa_cons (pv 3) (pa_cons (pv 4) pa_nil))) pa_nil))) (nomark _)) (pss_one (ps_ret pe_bl)) pss_nil)
      (pss_one (ps_ret (pe_cmpR (op_eqT OE (N := 2) hr3) (pe_call GL hr7 rfl DL.g DL.F.kp DL.b .nil pass0 (pa_cons (pe_call GL hr7 rfl DL.g DL.F.kp DL.b .nil pass0 (pa_cons (pv 2) (pa_cons (pv 3) pa_nil))) (pa_cons (pv 2) pa_nil)))
          (pe_call GL hr7 rfl DL.g DL.F.kp DL.b .nil pass0 (pa_cons (pe_call GL hr7 rfl DL.g DL.F.kp DL.b .nil pass0 (pa_cons (pv 3) (pa_cons (pv 3) pa_nil))) (pa_cons (pv 3) pa_nil))) (nomark _)))))), ?_⟩
    refine ⟨_, rfl, _, rfl, _, rfl, a, n, rfl, pot, by omega, fun J1 r1 A1 y1 o1 _ T1 l1 E1 => ?_⟩
    refine ⟨a, r1, n, A1, rfl, o1, T1, n6, l1, fun qs h => ⟨(E1 qs h).1, fun q hq => ent_good ((E1 qs h).2 q hq)⟩, fun G1 v1 z1 p1 _ N1 => ?_⟩
    have b1 : BdR 5 A1 := fun qs h q hq => ent_bd ((E1 qs h).2 q hq)
    have x1 := y1.trans z1
    refine ⟨_, rfl, _, rfl, _, rfl, a, n, rfl, p1, by omega, fun J2 r2 A2 y2 o2 _ T2 l2 E2 => ?_⟩
    refine ⟨a, r2, n, A2, rfl, o2, T2, n6, l2, fun qs h => ⟨(E2 qs h).1, fun q hq => ent_good ((E2 qs h).2 q hq)⟩, fun G2 v2 z2 p2 _ N2 => ?_⟩
    have b2 : BdR 5 A2 := fun qs h q hq => ent_bd ((E2 qs h).2 q hq)
    have x2 := y2.trans z2
    refine ⟨_, rfl, _, rfl, _, rfl, a, n, rfl, p2, by omega, fun J3 r3 A3 y3 o3 _ T3 l3 E3 => ?_⟩
    refine ⟨a, r3, n, A3, rfl, o3, T3, n6, l3, fun qs h => ⟨(E3 qs h).1, fun q hq => ent_good ((E3 qs h).2 q hq)⟩, fun G3 v3 z3 p3 _ N3 => ?_⟩
    have b3 : BdR 5 A3 := fun qs h q hq => ent_bd ((E3 qs h).2 q hq)
    have x3 := y3.trans z3
    have t1 : Tb K C G3 (.ref v1) n 5 A1 := ⟨tabX_tab (tabX_s N1 ((xr_x (x2.trans x3)).trans xr_le)), b1⟩
    have t2 : Tb K C G3 (.ref v2) n 5 A2 := ⟨tabX_tab (tabX_s N2 ((xr_x x3).trans xr_le)), b2⟩
    have t3 : Tb K C G3 (.ref v3) n 5 A3 := ⟨tabX_tab (tabX_s N3 xr_le), b3⟩
    have xA := (x1.trans x2).trans x3
    clear x1 x2 x3 p1 p2 N1 N2 N3 T1 T2 T3 y1 y2 y3 z1 z2 z3 o1 o2 o3
    refine ⟨_, _, _, rfl, ?_⟩
    refine ⟨_, rfl, _, rfl, tb_times (E := E0) t1 t2 (by decide) fun H1 r1 s1 _ u1 => ?_⟩
    refine ⟨_, rfl, tb_times (E := E0) u1 (t3.s s1) (by decide) fun H2 r2 s2 R2 _ => ?_⟩
    refine ⟨_, rfl, _, rfl, _, rfl, tb_times (E := E0) (t2.s (s1.trans s2)) (t3.s (s1.trans s2)) (by decide) fun H3 r3 s3 _ u3 => ?_⟩
    refine tb_times (E := E0) (t1.s ((s1.trans s2).trans s3)) u3 (by decide) fun H4 r4 s4 R4 _ => ?_
    rw [times_assoc t1.l t1.w (bdR_low b1) t2.l t2.w (bdR_low b2) t3.l t3.w (bdR_low b3)] at R2
    refine ne_tabs (rtt_s R2 (s3.trans s4)) R4 fun H5 s5 => ⟨false, rfl, iteF ?_⟩
    have e5 := ((s1.trans s2).trans (s3.trans s4)).trans s5
    clear R2 R4 u1 u3
    refine ⟨_, rfl, _, rfl, tb_less (E := E0) (t1.s e5) (t2.s e5) (by decide) fun H6 r6 s6 _ u6 => ?_⟩
    refine ⟨_, rfl, tb_times (E := E0) u6 (t3.s (e5.trans s6)) (by decide) fun H7 r7 s7 R7 _ => ?_⟩
    have e7 := (e5.trans s6).trans s7
    refine ⟨_, rfl, _, rfl, tb_times (E := E0) (t1.s e7) (t3.s e7) (by decide) fun H8 r8 s8 _ u8 => ?_⟩
    refine ⟨_, rfl, _, rfl, tb_times (E := E0) (t2.s (e7.trans s8)) (t3.s (e7.trans s8)) (by decide) fun H9 r9 s9 _ u9 => ?_⟩
    refine tb_less (E := E0) (u8.s s9) u9 (by decide) fun HA rA sA RA _ => ?_
    rw [times_less t1.l t1.w (bdR_low b1) t2.l t2.w (bdR_low b2) t3.l t3.w (bdR_low b3)] at R7
    refine ne_tabs (rtt_s R7 ((s8.trans s9).trans sA)) RA fun HB sB => ⟨false, rfl, iteF ?_⟩
    have eB := (e7.trans (s8.trans s9)).trans (sA.trans sB)
    clear R7 RA u6 u8 u9
    refine ⟨_, rfl, _, rfl, tb_less (E := E0) (t1.s eB) (t2.s eB) (by decide) fun HC rC sC _ uC => ?_⟩
    refine ⟨_, rfl, tb_less (E := E0) uC (t1.s (eB.trans sC)) (by decide) fun HD rD sD RD _ => ?_⟩
    have eD := (eB.trans sC).trans sD
    refine ⟨_, rfl, _, rfl, tb_less (E := E0) (t2.s eD) (t2.s eD) (by decide) fun HE rE sE _ uE => ?_⟩
    refine ⟨_, rfl, tb_less (E := E0) uE (t2.s (eD.trans sE)) (by decide) fun HF rF sF RF _ => ?_⟩
    rw [less_three t1.l t1.w (bdR_low b1) t2.l t2.w (bdR_low b2)] at RD
    refine eq_tabs (rtt_s RD (sE.trans sF)) RF fun HG sG => ?_
    have eG := (eD.trans (sE.trans sF)).trans sG
    exact q _ (xA.trans (smx_of eG)) (potS p3 eG)
end
end Tk

namespace Tk
open PySem PySem.Spec PyProof.Rows L2 ClX
/-! ## right, law -/
structure Calls13b (P : Program) (w : World) (K : PySem.W.Frag) (mg : Str → Option Value) (base : Heap) (C : Addr) : Prop where
  one : ∃ f fd, Df K mg "_law_one_right" sOne13 ["_law_pot_here", "_law_size"] f fd ∧ FnG P w K mg base 9 f fd ["_law_pot_here", "_law_size"] spOne13
  rules : ∃ f fd, Df K mg "_law_rules_right" sRul13 ["_law_pot_here", "_law_size"] f fd ∧ FnOk P w K mg base CX0 9 f fd ["_law_pot_here", "_law_size"] spRul13
  draw : ∃ f fd, Df K mg "_law_draw" sDraw ["_law_pot_here", "_law_room"] f fd ∧ FnOk P w K mg base CX0 1 f fd ["_law_pot_here", "_law_room"] spDraw
  lidle : ∃ f fd, Df K mg "_law_idle" sIdleR ["_law_size"] f fd ∧ FnOk P w K mg base CX0 1 f fd ["_law_size"] (spIdleR K)
  make : ∃ fI dI, RtM K mg C fI dI ∧ FnOk P w K mg base CX0 2 fI dI ["self", "top", "bottom"] (spRInit C)
  str : ∃ f fd, PySem.W.findIn K (.ref C) "__str__" = some (some (.ref f)) ∧ PySem.W.isFn K (.ref f) = true ∧ FnOk P w K mg base CX0 1 f fd ["self"] (spRShow C shQ) ∧ Binds K fd ["self"] []
  ms : mg "str" = none
/-! tables of texts -/
def SRows (H : Hp) : List V → List (List Str) → Prop
  | [], [] => True
  | x :: xs, s :: ss => (∃ a, x = .ref a ∧ H a = some (.lst (s.map V.str))) ∧ SRows H xs ss
  | _, _ => False
theorem sr_s {H H' : Hp} (e : Same H H') : ∀ {xs : List V} {ss : List (List Str)}, SRows H xs ss → SRows H' xs ss
  | [], [], _ => trivial
  | _ :: _, _ :: _, ⟨⟨a, h1, h2⟩, h⟩ => ⟨⟨a, h1, e _ _ h2⟩, sr_s e h⟩
  | [], _ :: _, h => h.elim
  | _ :: _, [], h => h.elim
theorem sr_app {H : Hp} : ∀ {xs ys : List V} {qs rs : List (List Str)}, SRows H xs qs → SRows H ys rs → SRows H (xs ++ ys) (qs ++ rs)
  | [], _, [], _, _, h => h
  | _ :: _, _, _ :: _, _, ⟨h1, h2⟩, h => ⟨h1, sr_app h2 h⟩
  | [], _, _ :: _, _, h, _ => h.elim
  | _ :: _, _, [], _, h, _ => h.elim
theorem sr_len {H : Hp} : ∀ {xs : List V} {qs : List (List Str)}, SRows H xs qs → xs.length = qs.length
  | [], [], _ => rfl
  | _ :: _, _ :: _, ⟨_, h⟩ => by rw [List.length_cons, List.length_cons, sr_len h]
  | [], _ :: _, h => h.elim
  | _ :: _, [], h => h.elim
def STabs (H : Hp) : List V → List (List (List Str)) → Prop
  | [], [] => True
  | x :: xs, s :: ss => (∃ a ys, x = .ref a ∧ H a = some (.lst ys) ∧ SRows H ys s) ∧ STabs H xs ss
  | _, _ => False
theorem stb_s {H H' : Hp} (e : Same H H') : ∀ {xs : List V} {ss : List (List (List Str))}, STabs H xs ss → STabs H' xs ss
  | [], [], _ => trivial
  | _ :: _, _ :: _, ⟨⟨a, ys, h1, h2, h3⟩, h⟩ => ⟨⟨a, ys, h1, e _ _ h2, sr_s e h3⟩, stb_s e h⟩
  | [], _ :: _, h => h.elim
  | _ :: _, [], h => h.elim
theorem stb_app {H : Hp} : ∀ {xs ys : List V} {qs rs : List (List (List Str))}, STabs H xs qs → STabs H ys rs → STabs H (xs ++ ys) (qs ++ rs)
  | [], _, [], _, _, h => h
  | _ :: _, _, _ :: _, _, ⟨h1, h2⟩, h => ⟨h1, stb_app h2 h⟩
  | [], _, _ :: _, _, h, _ => h.elim
  | _ :: _, _, [], _, h, _ => h.elim
theorem stb_len {H : Hp} : ∀ {xs : List V} {qs : List (List (List Str))}, STabs H xs qs → xs.length = qs.length
  | [], [], _ => rfl
  | _ :: _, _ :: _, ⟨_, h⟩ => by rw [List.length_cons, List.length_cons, stb_len h]
  | [], _ :: _, h => h.elim
  | _ :: _, [], h => h.elim
theorem dps_strs {K : PySem.W.Frag} {H : Hp} : ∀ (ss : List Str), DpAll K H (ss.map V.str) (ss.map PyData.str)
  | [] => .nil
  | s :: ss => .cons (.str s) (dps_strs ss)
theorem sr_dps {K : PySem.W.Frag} {H : Hp} : ∀ {xs : List V} {ss : List (List Str)}, SRows H xs ss → DpAll K H xs (ss.map fun s => .list (s.map .str))
  | [], [], _ => .nil
  | x :: xs, s :: ss, ⟨⟨a, h1, h2⟩, h⟩ => by
    rw [h1]
    exact .cons (.lst (sl_of h2) (dps_strs s)) (sr_dps h)
  | [], _ :: _, h => h.elim
  | _ :: _, [], h => h.elim
theorem stb_dps {K : PySem.W.Frag} {H : Hp} : ∀ {xs : List V} {ss : List (List (List Str))}, STabs H xs ss → DpAll K H xs (ss.map fun t => .list (t.map fun s => .list (s.map .str)))
  | [], [], _ => .nil
  | x :: xs, s :: ss, ⟨⟨a, ys, h1, h2, h3⟩, h⟩ => by
    rw [h1]
    exact .cons (.lst (sl_of h2) (sr_dps h3)) (stb_dps h)
  | [], _ :: _, h => h.elim
  | _ :: _, [], h => h.elim
/-- told tables in a list -/
def RTabs (C : Addr) (H : Hp) : List V → List (List (List (Int × Int))) → Prop
  | [], [] => True
  | x :: xs, q :: qs => (∃ r, x = .ref r ∧ RtTab C H r q) ∧ RTabs C H xs qs
  | _, _ => False
theorem rtabs_at {C : Addr} {H : Hp} : ∀ {xs : List V} {qs : List (List (List (Int × Int)))}, RTabs C H xs qs → xs.length = qs.length ∧ ∀ (i : Nat) (x : V), xs[i]? = some x → ∃ q r, qs[i]? = some q ∧ x = .ref r ∧ RtTab C H r q
  | [], [], _ => ⟨rfl, fun i x h => by simp at h⟩
  | x :: xs, q :: qs, ⟨⟨r, h1, h2⟩, h⟩ => by
    obtain ⟨l, g⟩ := rtabs_at h
    refine ⟨by simp [l], fun i y hy => ?_⟩
    cases i with
    | zero =>
      simp at hy
      subst hy
      exact ⟨q, r, rfl, h1, h2⟩
    | succ i => exact g i y (by simpa using hy)
  | [], _ :: _, h => h.elim
  | _ :: _, [], h => h.elim
theorem rtabs_s {C : Addr} {H H' : Hp} (e : Same H H') : ∀ {xs : List V} {qs : List (List (List (Int × Int)))}, RTabs C H xs qs → RTabs C H' xs qs
  | [], [], _ => trivial
  | _ :: _, _ :: _, ⟨⟨r, h1, h2⟩, h⟩ => ⟨⟨r, h1, rtt_s h2 e⟩, rtabs_s e h⟩
  | [], _ :: _, h => h.elim
  | _ :: _, [], h => h.elim
/-- a table of small ints, written out -/
theorem tb_int {K : PySem.W.Frag} {C p a1 a2 : Addr} {H : Hp} {x y z u : Int} (hp : H p = some (.lst [.ref a1, .ref a2])) (h1 : H a1 = some (.lst [.int x, .int y])) (h2 : H a2 = some (.lst [.int z, .int u])) (b : x.natAbs < 32 ∧ y.natAbs < 32 ∧ z.natAbs < 32 ∧ u.natAbs < 32) :
    Tb K C H (.ref p) 2 5 [[(x, 1), (y, 1)], [(z, 1), (u, 1)]] := by
  have one : ∀ i : Int, i.natAbs < 32 → Bd 5 (i, 1) := fun i h => ⟨⟨by show (0 : Int) < 1; decide, by show Nat.gcd i.natAbs 1 = 1; simp⟩, h, by show (1 : Nat) < 2 ^ 5; decide⟩
  refine ⟨⟨by decide, rfl, fun qs h => ?_, p, _, rfl, .inl (sl_of hp), ⟨a1, _, rfl, .inl (sl_of h1), .inr ⟨x, rfl, rfl⟩, .inr ⟨y, rfl, rfl⟩, trivial⟩, ⟨a2, _, rfl, .inl (sl_of h2), .inr ⟨z, rfl, rfl⟩, .inr ⟨u, rfl, rfl⟩, trivial⟩, trivial⟩, fun qs h q hq => ?_⟩
  · simp only [List.mem_cons, List.not_mem_nil, or_false] at h
    rcases h with rfl | rfl <;> rfl
  · simp only [List.mem_cons, List.not_mem_nil, or_false] at h
    rcases h with rfl | rfl <;> simp only [List.mem_cons, List.not_mem_nil, or_false] at hq <;> rcases hq with rfl | rfl
    · exact one _ b.1
    · exact one _ b.2.1
    · exact one _ b.2.2.1
    · exact one _ b.2.2.2
theorem bd_tiny {k : Nat} {q : Int × Int} (h : Bd k q) (e : k ≤ 200) : Tiny q := ⟨(bd_le h e).top, (bd_le h e).bot⟩
abbrev shT (t : List (List (Int × Int))) : List (List Str) := t.map fun r => r.map shQ
abbrev tabs13 : List (List (List (Int × Int))) := [timesQ 2 [[(1, 1), (2, 1)], [(0, 1), (3, 1)]] [[(0, 1), (1, 1)], [(1, 1), (0, 1)]], colsQ 2 [[(1, 1), (2, 1)], [(0, 1), (3, 1)]], lessL [[(1, 1), (2, 1)], [(0, 1), (3, 1)]] (idleQ 2)]
abbrev due13 : List (List (List Str)) := [[["2", "1"], ["3", "0"]], [["1", "0"], ["2", "3"]], [["0", "2"], ["0", "2"]]]
abbrev dTabs (ss : List (List (List Str))) : PyData := .list (ss.map fun t => .list (t.map fun s => .list (s.map .str)))
theorem due_13 : tabs13.map shT = due13 := by decide +kernel
theorem tiny_13 : ∀ t ∈ tabs13, t.length ≤ 6 ∧ ∀ r ∈ t, r.length ≤ 6 ∧ ∀ q ∈ r, q.1.natAbs < 2 ^ 200 ∧ q.2.natAbs < 2 ^ 200 := by decide +kernel
theorem shaped_13 : SeqAt.shaped (dTabs due13) = true := by decide +kernel
theorem eqv_13 : PyData.eqv (dTabs due13) (dTabs due13) = true := by decide +kernel
def spRight13 : Sp := fun vs H Q _ => ∃ a : Addr, vs = [.ref a] ∧ Pot H a ∧ ∀ H', Q (.bl true) H'
def spLawR (K : PySem.W.Frag) : Sp := fun vs H Q _ => ∃ (a : Addr) (ns : List Int), vs = [.ref a] ∧ SqL K H a (ns.map V.int) ∧ ∀ H', Q (.bl true) H'
section
variable {P : Program} {w : World} {K : PySem.W.Frag} {mg : Str → Option Value} {base : Heap}
abbrev nRt13 : List Str := ["_law_pot_here", "_law_table_here", "_law_told", "_law_due", "_law_one", "_law_row_here", "_law_number"]
theorem sc_rt13 : FnScope nRt13 ["_law_pot_here"] (defScope sRight) := ⟨rfl, rfl, rfl, by decide +kernel, rfl, by decide +kernel, by decide +kernel⟩
abbrev teStr (C : Addr) : TE := tCB (NeO.rReprI C (spRShow C shQ)) (tCons (tVar 6) tNil)
abbrev teRow13 (K : PySem.W.Frag) (C : Addr) : TE := tLc (iList K (tVar 5)) (gName 6) tYes (teStr C) [6]
theorem ok_rt13 {f C : Addr} {fd : FuncData} (F : Fun K "_law_right" "_law_right" sRight f fd) (Z : Calls13 P w K mg base C) (Y : Calls13b P w K mg base C) (B : Bl mg) : FnG P w K mg base 10 f fd ["_law_pot_here"] spRight13 := by
  obtain ⟨fO, dO, DO, GO⟩ := Y.one
  obtain ⟨fU, dU, DU, GU⟩ := Y.rules
  obtain ⟨fD, dD, DD, GD⟩ := Y.draw
  obtain ⟨fJ, dJ, DJ, GJ⟩ := Y.lidle
  obtain ⟨fQ, dQ, M, GQ⟩ := Y.make
  obtain ⟨fS, dS, s1, s2, GS, bS⟩ := Y.str
  obtain ⟨fX, dX, DX, GX, kX⟩ := Z.times
  obtain ⟨fL, dL, DL, GL, kL⟩ := Z.less
  obtain ⟨fA, dA, DA, GA, kA⟩ := Z.about
  obtain ⟨fI, dI, DI, GI, kI⟩ := Z.idle
  obtain ⟨fR, dR, DR, GR⟩ := Z.rows
  obtain ⟨fE, dE, e1, e2, GE, bE⟩ := Z.eq
  obtain ⟨tk, b1⟩ := M.bI1
  refine okG F sc_rt13 (fun vs H Q E h => ?_) (fun cdv A outer s H vs Q E hgd hr h => ?_)
  · obtain ⟨a, rfl, _⟩ := h
    rfl
  · obtain ⟨a, rfl, pot, q⟩ := h
    have hr1 : Room 1 _ := hr.mono (by decide)
    have hr3 : Room 3 _ := hr.mono (by decide)
    have hr5 : Room 5 _ := hr.mono (by decide)
    have hr6 : Room 6 _ := hr.mono (by decide)
    have hr7 : Room 7 _ := hr.mono (by decide)
    have hr8 : Room 8 _ := hr.mono (by decide)
    have hu := hr.units
    have OE : OwnEq (cxOf CX0 P w K mg base nRt13 "_law_right" (defScope sRight) f cdv A outer s H E).nox C (LikeQ C) (spREq C) 1 fE dE ["self", "other"] := likeQ e1 e2 GE bE
    refine ⟨_, C8.pss_cut (ps_if (PW.pt (pw_or (pt_not (pt_val (pe_callG GO hgd hr rfl DO.g DO.F.kp DO.b (pa_cons (pv 0) (pa_cons (pe_call GD hr1 rfl DD.g DD.F.kp DD.b .nil pass0 (pa_cons (pv 0) (pa_cons pe_int pa_nil))) pa_nil)))))
          (pw_or (pt_not (pt_val (pe_callG GO hgd hr rfl DO.g DO.F.kp DO.b (pa_cons (pv 0) (pa_cons (pe_call GD hr1 rfl DD.g DD.F.kp DD.b .nil pass0 (pa_cons (pv 0) (pa_cons pe_int pa_nil))) pa_nil)))))
          (pw_or1 (pt_not (pt_val (pe_call GU hr rfl DU.g DU.F.kp DU.b .nil pass0 (pa_cons (pv 0) (pa_cons (pe_op op_add pe_int (pe_call GD hr1 rfl DD.g DD.F.kp DD.b .nil pass0 (pa_cons (pv 0) (pa_cons pe_int pa_nil)))) pa_nil))))))))) (pss_one (ps_ret pe_bl)) pss_nil)
      (C8.pss_cut (ps_if (PW.pt (pw_or (pt_cmpR (op_neD hu) (pe_call GR hr5 rfl DR.g DR.F.kp DR.b .nil pass0 (pa_cons (pe_call GI hr6 rfl DI.g DI.F.kp DI.b .nil pass0 (pa_cons pe_int pa_nil)) pa_nil)) (pe_call GJ hr1 rfl DJ.g DJ.F.kp DJ.b .nil pass0 (pa_cons pe_int pa_nil)) (nomark _))
          (pw_or (pt_cmpR (op_neT OE (N := 2) hr3) (pe_call GI hr6 rfl DI.g DI.F.kp DI.b .nil pass0 (pa_cons pe_int pa_nil)) (pe_lst (pa_cons (pe_lst (pa_cons (pe_make M.mkr GQ hr3 rfl M.c.mgC b1 (dvs := [V.int 1]) (.cons ⟨tk, rfl⟩ .nil) pass0 (pa_cons pe_int pa_nil)) pa_nil)) pa_nil)) (nomark _))
          (pw_or1 (pt_cmpR (op_neT OE (N := 2) hr3) (pe_call GI hr6 rfl DI.g DI.F.kp DI.b .nil pass0 (pa_cons pe_int pa_nil)) (pe_lst pa_nil) (nomark _)))))) (pss_one (ps_ret pe_bl)) pss_nil)
      (pss_cons (ps_set (i := 1) sc_rt13.nd rfl (Or.inl rfl) (pe_lst (pa_cons (pe_lst (pa_cons pe_int (pa_cons pe_int pa_nil))) (pa_cons (pe_lst (pa_cons pe_int (pa_cons pe_int pa_nil))) pa_nil))))
      (C8.pss_cut (ps_set (i := 2) sc_rt13.nd rfl (Or.inl rfl) (pe_lst (pa_cons (pe_call GX hr8 rfl DX.g DX.F.kp DX.b .nil pass0 (pa_cons (pv 1) (pa_cons (pe_lst (pa_cons (pe_lst (pa_cons pe_int (pa_cons pe_int pa_nil))) (pa_cons (pe_lst (pa_cons pe_int (pa_cons pe_int pa_nil))) pa_nil))) pa_nil)))
          (pa_cons (pe_call GA hr7 rfl DA.g DA.F.kp DA.b .nil pass0 (pa_cons (pv 1) pa_nil)) (pa_cons (pe_call GL hr7 rfl DL.g DL.F.kp DL.b .nil pass0 (pa_cons (pv 1) (pa_cons (pe_call GI hr6 rfl DI.g DI.F.kp DI.b .nil pass0 (pa_cons pe_int pa_nil)) pa_nil))) pa_nil)))))
      (C8.pss_cut (ps_set (i := 3) sc_rt13.nd rfl (Or.inl rfl) (pe_lst (pa_cons (pe_lst (pa_cons (pe_lst (pa_cons pe_str (pa_cons pe_str pa_nil))) (pa_cons (pe_lst (pa_cons pe_str (pa_cons pe_str pa_nil))) pa_nil)))
          (pa_cons (pe_lst (pa_cons (pe_lst (pa_cons pe_str (pa_cons pe_str pa_nil))) (pa_cons (pe_lst (pa_cons pe_str (pa_cons pe_str pa_nil))) pa_nil)))
          (pa_cons (pe_lst (pa_cons (pe_lst (pa_cons pe_str (pa_cons pe_str pa_nil))) (pa_cons (pe_lst (pa_cons pe_str (pa_cons pe_str pa_nil))) pa_nil))) pa_nil)))))
      (pss_one (ps_ret (pe_cmpR (op_eqD hu) (pe_lc (own := [("_law_one", 4)]) (g := gName 4) (tt := tYes) (te := tLc (iList K (tVar 4)) (gName 5) tYes (teRow13 K C) [5]) rfl sc_rt13.nd (pi_list (pv 2)) (blkOk_by (N := nRt13) (sc := defScope sRight) (by decide +kernel)) (fun _ _ _ _ _ => pg_name (i := 4) sc_rt13.nd rfl (Or.inl rfl)) (fun _ _ _ _ _ => pts_nil)
          (fun _ _ _ _ _ => pe_lc (own := [("_law_row_here", 5)]) (g := gName 5) (tt := tYes) (te := teRow13 K C) rfl sc_rt13.nd (pi_list (pv 4)) (blkOk_by (N := nRt13) (sc := { kind := .function, names := [(".0", .local), ("_law_one", .local)], isGenerator := false, isCoroutine := false }) (by decide +kernel)) (fun _ _ _ _ _ => pg_name (i := 5) sc_rt13.nd rfl (Or.inl rfl)) (fun _ _ _ _ _ => pts_nil)
            (fun _ _ _ _ _ => pe_lc (own := [("_law_number", 6)]) (g := gName 6) (tt := tYes) (te := teStr C) rfl sc_rt13.nd (pi_list (pv 5)) (blkOk_by (N := nRt13) (sc := { kind := .function, names := [(".0", .local), ("_law_row_here", .local)], isGenerator := false, isCoroutine := false }) (by decide +kernel)) (fun _ _ _ _ _ => pg_name (i := 6) sc_rt13.nd rfl (Or.inl rfl)) (fun _ _ _ _ _ => pts_nil)
              (fun _ _ _ _ _ => pe_callTy (NeO.call_strI s1 s2 GS hr3 bS) (by rfl) Y.ms PySem.Pv.boot_str (pa_cons (pv 6) pa_nil))))) (pv 3) (nomark _)))))))), ?_⟩
    refine ⟨fun σ G => σ = [some (V.ref a), none, none, none, none, none, none], ?_, ?_⟩
    · refine ⟨_, rfl, _, rfl, a, 7, rfl, pot, by decide, by decide, fun H1 d x1 p1 d0 d1 => ?_⟩
      obtain ⟨n1, rfl⟩ : ∃ n : Nat, d = (n : Int) := ⟨d.toNat, by omega⟩
      refine ⟨a, n1, rfl, p1, by omega, fun H2 x2 p2 => ⟨true, rfl, iteF ?_⟩⟩
      refine ⟨_, rfl, _, rfl, a, 4, rfl, p2, by decide, by decide, fun H3 d x3 p3 d0 d1 => ?_⟩
      obtain ⟨n2, rfl⟩ : ∃ n : Nat, d = (n : Int) := ⟨d.toNat, by omega⟩
      refine ⟨a, n2, rfl, p3, by omega, fun H4 x4 p4 => ⟨true, rfl, iteF ?_⟩⟩
      refine ⟨_, rfl, _, rfl, a, 3, rfl, p4, by decide, by decide, fun H5 d x5 p5 d0 d1 => ?_⟩
      obtain ⟨n3, rfl⟩ : ∃ n : Nat, d = (n : Int) := ⟨d.toNat, by omega⟩
      refine ⟨_, _, rfl, rfl, a, 1 + n3, by rw [Int.natCast_add]; rfl, p5, by omega, fun H6 x6 p6 => ⟨true, rfl, iteF rfl⟩⟩
    rintro σ G rfl
    refine ⟨fun σ G => σ = [some (V.ref a), none, none, none, none, none, none], ?_, ?_⟩
    · have i6 := idle_shape (n := 6)
      refine ⟨6, rfl, by decide, fun H1 r1 z1 _ R1 _ => ?_⟩
      refine ⟨r1, idleQ 6, rfl, R1, by rw [i6.1]; decide, fun qs h => by rw [i6.2 qs h]; decide, fun H2 r2 z2 _ L2 _ => ?_⟩
      refine ⟨6, rfl, by decide, fun H3 r3 z3 _ L3 _ => ne_lts (lt_s L2 z3) L3 ⟨false, rfl, iteF ?_⟩⟩
      refine ⟨1, rfl, by decide, fun H4 r4 z4 _ R4 _ => ?_⟩
      refine fun x dx nx ndx nex => ?_
      refine mk_ratio (by decide) (by decide) nx ndx fun H5 z5 hx => ⟨rfl, ?_⟩
      rw [low_one] at hx
      refine ⟨szle (by show 1 ≤ 100000; decide), fun u1 hu1 => ⟨szle (by show 1 ≤ 100000; decide), fun u2 hu2 => ?_⟩⟩
      have y1 := same_new (o := .lst [V.ref x]) hu1
      have y2 := same_new (o := .lst [V.ref u1]) hu2
      have n12 : u1 ≠ u2 := fun e => by rw [← e, upd_same] at hu2; cases hu2
      refine ne_tabs (qss := [[(1, 1)]]) (rtt_s R4 ((z5.trans y1).trans y2)) ⟨[.ref u1], upd_same, ⟨u1, [.ref x], rfl, n12, y2 _ _ upd_same, ⟨x, rfl, rat_s hx (y1.trans y2)⟩, trivial⟩, trivial⟩ fun H6 z6 => ⟨false, rfl, iteF ?_⟩
      refine ⟨0, rfl, by decide, fun H7 r7 z7 _ R7 _ => ?_⟩
      refine ⟨szle (by show 0 ≤ 100000; decide), fun u3 hu3 => ?_⟩
      exact ne_tabs (qss := []) (rtt_s R7 (same_new hu3)) ⟨[], upd_same, trivial⟩ fun H8 z8 => ⟨false, rfl, iteF rfl⟩
    rintro σ G rfl
    refine ⟨szle (by show 2 ≤ 100000; decide), fun a1 h1 => ⟨szle (by show 2 ≤ 100000; decide), fun a2 h2 => ⟨szle (by show 2 ≤ 100000; decide), fun a3 h3 => ?_⟩⟩⟩
    have z1 := same_new (o := .lst [V.int 1, V.int 2]) h1
    have z2 := same_new (o := .lst [V.int 0, V.int 3]) h2
    have z3 := same_new (o := .lst [V.ref a1, V.ref a2]) h3
    have tb : Tb K C _ (.ref a3) 2 5 [[(1, 1), (2, 1)], [(0, 1), (3, 1)]] := tb_int (K := K) (C := C) (upd_same (H := (upd (upd G a1 (.lst [V.int 1, V.int 2])) a2 (.lst [V.int 0, V.int 3])))) ((z2.trans z3) _ _ upd_same) (z3 _ _ upd_same) (by decide)
    generalize upd (upd (upd G a1 (.lst [V.int 1, V.int 2])) a2 (.lst [V.int 0, V.int 3])) a3 (.lst [V.ref a1, V.ref a2]) = G1 at tb
    clear z1 z2 z3 h1 h2 h3
    refine ⟨fun σ G => ∃ (r : Addr) (xs : List V), σ = [some (V.ref a), some (V.ref a3), some (V.ref r), none, none, none, none] ∧ G r = some (.lst xs) ∧ RTabs C G xs tabs13, ?_, ?_⟩
    · refine ⟨_, rfl, ?_⟩
      refine ⟨szle (by show 2 ≤ 100000; decide), fun c1 h1 => ⟨szle (by show 2 ≤ 100000; decide), fun c2 h2 => ⟨szle (by show 2 ≤ 100000; decide), fun c3 h3 => ?_⟩⟩⟩
      have z1 := same_new (o := .lst [V.int 0, V.int 1]) h1
      have z2 := same_new (o := .lst [V.int 1, V.int 0]) h2
      have z3 := same_new (o := .lst [V.ref c1, V.ref c2]) h3
      have tc : Tb K C _ (.ref c3) 2 5 [[(0, 1), (1, 1)], [(1, 1), (0, 1)]] := tb_int (K := K) (C := C) (upd_same (H := (upd (upd G1 c1 (.lst [V.int 0, V.int 1])) c2 (.lst [V.int 1, V.int 0])))) ((z2.trans z3) _ _ upd_same) (z3 _ _ upd_same) (by decide)
      have tb2 := tb.s ((z1.trans z2).trans z3)
      refine tb_times (E := E0) tb2 tc (by decide) fun G2 r2 s2 R2 _ => ?_
      have tb3 := tb2.s s2
      refine ⟨_, rfl, .ref a3, 2, _, rfl, tb3.at_, fun G3 r3 s3 _ R3 _ => ?_⟩
      have tb4 := tb3.s s3
      refine ⟨_, rfl, 2, rfl, by decide, fun G4 r4 s4 _ R4 _ => ?_⟩
      have ti : Tb K C G4 (.ref r4) 2 1 (idleQ 2) := ⟨tab_of R4 (by decide) idle_shape.1 idle_shape.2, bdR_idle⟩
      refine tb_less (E := E0) (tb4.s s4) ti (by decide) fun G5 r5 s5 R5 _ => ?_
      refine ⟨szle (by show 3 ≤ 100000; decide), fun r6 h6 => ?_⟩
      have s6 := same_new (o := .lst [V.ref r2, V.ref r3, V.ref r5]) h6
      exact ⟨r6, _, rfl, upd_same, ⟨r2, rfl, rtt_s R2 (((s3.trans s4).trans s5).trans s6)⟩, ⟨r3, rfl, rtt_s R3 ((s4.trans s5).trans s6)⟩, ⟨r5, rfl, rtt_s R5 s6⟩, trivial⟩
    rintro σ G2 ⟨r, xs, rfl, hx, hT⟩
    clear tb
    refine ⟨fun σ G => ∃ (u : Addr) (ys : List V), σ = [some (V.ref a), some (V.ref a3), some (V.ref r), some (V.ref u), none, none, none] ∧ G r = some (.lst xs) ∧ RTabs C G xs tabs13 ∧ G u = some (.lst ys) ∧ STabs G ys due13, ?_, ?_⟩
    · refine ⟨szle (by show 2 ≤ 100000; decide), fun c1 h1 => ⟨szle (by show 2 ≤ 100000; decide), fun c2 h2 => ⟨szle (by show 2 ≤ 100000; decide), fun c3 h3 => ?_⟩⟩⟩
      refine ⟨szle (by show 2 ≤ 100000; decide), fun c4 h4 => ⟨szle (by show 2 ≤ 100000; decide), fun c5 h5 => ⟨szle (by show 2 ≤ 100000; decide), fun c6 h6 => ?_⟩⟩⟩
      refine ⟨szle (by show 2 ≤ 100000; decide), fun c7 h7 => ⟨szle (by show 2 ≤ 100000; decide), fun c8 h8 => ⟨szle (by show 2 ≤ 100000; decide), fun c9 h9 => ⟨szle (by show 3 ≤ 100000; decide), fun u hu => ?_⟩⟩⟩⟩
      have y1 := same_new (o := .lst [V.str "2", V.str "1"]) h1
      have y2 := same_new (o := .lst [V.str "3", V.str "0"]) h2
      have y3 := same_new (o := .lst [V.ref c1, V.ref c2]) h3
      have y4 := same_new (o := .lst [V.str "1", V.str "0"]) h4
      have y5 := same_new (o := .lst [V.str "2", V.str "3"]) h5
      have y6 := same_new (o := .lst [V.ref c4, V.ref c5]) h6
      have y7 := same_new (o := .lst [V.str "0", V.str "2"]) h7
      have y8 := same_new (o := .lst [V.str "0", V.str "2"]) h8
      have y9 := same_new (o := .lst [V.ref c7, V.ref c8]) h9
      have yu := same_new (o := .lst [V.ref c3, V.ref c6, V.ref c9]) hu
      have w9 := y9.trans yu
      have w8 := y8.trans w9
      have w7 := y7.trans w8
      have w6 := y6.trans w7
      have w5 := y5.trans w6
      have w4 := y4.trans w5
      have w3 := y3.trans w4
      have w2 := y2.trans w3
      have w1 := y1.trans w2
      exact ⟨u, _, rfl, w1 _ _ hx, rtabs_s w1 hT, upd_same, ⟨c3, _, rfl, w4 _ _ upd_same, ⟨c1, rfl, w2 _ _ upd_same⟩, ⟨c2, rfl, w3 _ _ upd_same⟩, trivial⟩, ⟨c6, _, rfl, w7 _ _ upd_same, ⟨c4, rfl, w5 _ _ upd_same⟩, ⟨c5, rfl, w6 _ _ upd_same⟩, trivial⟩,
        ⟨c9, _, rfl, yu _ _ upd_same, ⟨c7, rfl, w8 _ _ upd_same⟩, ⟨c8, rfl, w9 _ _ upd_same⟩, trivial⟩, trivial⟩
    rintro σ G3 ⟨u, ys, rfl, hx3, hT3, hu3, hS3⟩
    clear hx hT
    obtain ⟨lx, hat⟩ := rtabs_at hT3
    have l3 : xs.length = 3 := lx
    refine ⟨_, rfl, r, rfl, ⟨xs, sl_of hx3⟩, fun D hD => ?_⟩
    refine lc_list (xs := xs) (fun k G => Same G3 G ∧ ∃ acc, G D = some (.lst acc) ∧ STabs (xr D D G) acc ((tabs13.map shT).take k)) ⟨same_new hD, [], upd_same, by simp [STabs]⟩ (fun k G _ z => sl_of (z.1 _ _ hx3)) ?_ ?_
    · rintro k x G hx ⟨sG, acc, hacc, hQ⟩
      obtain ⟨t, rk, ht, rfl, rows, hrows, hR⟩ := hat k x hx
      obtain ⟨lt, et⟩ := tiny_13 t (List.mem_of_getElem? ht)
      have lr := rt_len hR
      have fewk := stb_len hQ
      have : ((tabs13.map shT).take k).length ≤ 3 := by rw [List.length_take]; exact Nat.le_trans (Nat.min_le_right _ _) (by decide)
      refine ⟨rfl, _, rfl, rk, rfl, ⟨rows, sl_of (sG _ _ hrows)⟩, fun D2 hD2 => ?_⟩
      have nDD : D2 ≠ D := fun e => by rw [e, hacc] at hD2; cases hD2
      refine lc_list (xs := rows) (fun j G2 => Same G G2 ∧ ∃ ac, G2 D2 = some (.lst ac) ∧ SRows (xr D D2 G2) ac ((shT t).take j)) ⟨same_new hD2, [], upd_same, by simp [SRows]⟩ (fun j G2 _ z => sl_of ((sG.trans z.1) _ _ hrows)) ?_ ?_
      · rintro j y G2 hy ⟨s2', ac, hac, hQ2⟩
        obtain ⟨z, b, us, hz, rfl, _, hus, hU⟩ := rt_at hR j y hy
        obtain ⟨lz, ez⟩ := et z (List.mem_of_getElem? hz)
        obtain ⟨lu, hatU⟩ := rats_at hU
        have fewj := sr_len hQ2
        have : ((shT t).take j).length ≤ 6 := by rw [List.length_take, List.length_map]; omega
        have sA := sG.trans s2'
        refine ⟨rfl, _, rfl, b, rfl, ⟨us, sl_of (sA _ _ hus)⟩, fun D3 hD3 => ?_⟩
        have n3D : D3 ≠ D := fun e => by rw [e, s2' _ _ hacc] at hD3; cases hD3
        have n32 : D3 ≠ D2 := fun e => by rw [e, hac] at hD3; cases hD3
        refine lc_list (xs := us) (LcP G2 D3 fun i => ((z.map shQ).take i).map V.str) (lcp_0 hD3 rfl) (fun i G4 _ p => sl_of ((sA.trans p.1) _ _ hus)) ?_ ?_
        · intro i v G4 hv p
          have hi := lt_of_at hv
          obtain ⟨q', hq'⟩ : ∃ q', z[i]? = some q' := ⟨_, List.getElem?_eq_getElem (by omega)⟩
          obtain ⟨pp, rfl, hpp⟩ := hatU i v q' hv hq'
          obtain ⟨dx, hpi⟩ := id (rat_s hpp (sA.trans p.1))
          refine ⟨rfl, _, rfl, pp, dx, _, rfl, hpi, pp, q', rfl, ⟨dx, hpi⟩, ez q' (List.mem_of_getElem? hq'), shQ q', rfl, ?_⟩
          refine lcp_put hD3 p ?_ (by rw [List.length_map, List.length_take, List.length_map]; omega)
          rw [take_at (x := shQ q') (by rw [List.getElem?_map, hq']; rfl), List.map_append]
          rfl
        · intro G4 p
          have h4 := p.2
          dsimp only at h4
          rw [show (z.map shQ).take us.length = z.map shQ from List.take_of_length_le (by rw [List.length_map]; omega)] at h4
          refine ⟨ac, p.1 _ _ hac, szlt (by omega), same_mut (s2'.trans p.1) hD2, ac ++ [.ref D3], upd_same, ?_⟩
          rw [take_at (x := z.map shQ) (by rw [List.getElem?_map, hz]; rfl)]
          exact sr_app (sr_s ((xr_s p.1).trans xr_up) hQ2) ⟨⟨D3, rfl, xr_up _ _ (xr_get n3D n32 h4)⟩, trivial⟩
      · rintro G2 ⟨s2', ac, hac, hQ2⟩
        rw [show (shT t).take rows.length = shT t from List.take_of_length_le (by rw [List.length_map]; omega)] at hQ2
        refine ⟨acc, s2' _ _ hacc, szlt (by omega), same_mut (sG.trans s2') hD, acc ++ [.ref D2], upd_same, ?_⟩
        rw [take_at (x := shT t) (by rw [List.getElem?_map, ht]; rfl)]
        exact stb_app (stb_s ((xr_s s2').trans xr_up) hQ) ⟨⟨D2, ac, rfl, xr_up _ _ (xr_get nDD nDD hac), sr_s (xr_sub.trans xr_up) hQ2⟩, trivial⟩
    · rintro G ⟨sG, acc, hacc, hQ⟩
      rw [show (tabs13.map shT).take xs.length = tabs13.map shT from List.take_of_length_le (by rw [List.length_map]; omega), due_13] at hQ
      refine ⟨_, rfl, dTabs due13, dTabs due13, .lst (sl_of hacc) (stb_dps (stb_s xr_le hQ)), .lst (sl_of (sG _ _ hu3)) (dps_s (stb_dps hS3) sG), shaped_13, shaped_13, ?_⟩
      rw [eqv_13]
      exact q _
theorem sc_lawR : FnScope ["_law_script"] ["_law_script"] (defScope sLaw) := ⟨rfl, rfl, rfl, by decide +kernel, rfl, by decide +kernel, by decide +kernel⟩
theorem ok_lawR {f f1 f2 : Addr} {fd fd1 fd2 : FuncData} (F : Fun K "law" "law" sLaw f fd) (D1 : Df K mg "_law_pot" sPot ["_law_script", "_law_k"] f1 fd1) (D2 : Df K mg "_law_right" sRight ["_law_pot_here"] f2 fd2)
    (G2 : FnG P w K mg base 10 f2 fd2 ["_law_pot_here"] spRight13) (B : Bl mg) : FnG P w K mg base 11 f fd ["_law_script"] (spLawR K) := by
  have G1 : FnOk P w K mg base CX0 1 f1 fd1 ["_law_script", "_law_k"] (spPot K) := ok_pot D1.F B
  refine okG F sc_lawR (fun vs H Q E h => ?_) (fun cdv A outer s H vs Q E hgd hr h => ?_)
  · obtain ⟨a, ns, rfl, _⟩ := h
    rfl
  · obtain ⟨a, ns, rfl, ha, q⟩ := h
    refine ⟨_, pss_one (ps_ret (pe_callG G2 hgd hr rfl D2.g D2.F.kp D2.b (pa_cons (pe_call G1 (hr.mono (by decide)) rfl D1.g D1.F.kp D1.b .nil pass0 (pa_cons (pv 0) (pa_cons pe_int pa_nil))) pa_nil))), ?_⟩
    exact ⟨_, rfl, a, ns, rfl, ha, fun H1 p s1 hp pot => ⟨p, rfl, pot, q⟩⟩
end
end Tk

namespace Tk
open PySem PySem.Spec PyProof.Rows L2
theorem kit_self {K : PySem.W.Frag} {C : Addr} : PySem.W.kitOne K (.ref C) (.ref C) = some true := by
  unfold PySem.W.kitOne
  rw [if_pos (by simp)]
theorem kit_no {K : PySem.W.Frag} {S : Addr} {t : Value} (h2 : PySem.W.isClsIn K S = true) (h3 : PySem.W.typeIn K (.ref S) = some (.type "type")) (h4 : PySem.W.subIn K t (.ref S) = some false) (ne : (t == .ref S) = false) :
    PySem.W.kitOne K t (.ref S) = some false := by
  have h2' : (PySem.W.clsIn K S).isSome = true := h2
  have e2 : ((PySem.W.clsIn K S).isSome && PySem.W.typeIn K (.ref S) == some (.type "type")) = true := by rw [h2', h3]; rfl
  show (if (t == .ref S) = true then some true else (if ((PySem.W.clsIn K S).isSome && PySem.W.typeIn K (.ref S) == some (.type "type")) = true then PySem.W.subIn K t (.ref S) else none)) = some false
  rw [ne, if_neg (by simp), if_pos e2]
  exact h4
theorem all_mk {P : Program} {w : World} {K : PySem.W.Frag} {h : Heap} {mg : Str → Option Value} {fa C T1 pM p0 p1 p2 f0 f1 f2 f3 f4 f5 f6 f7 f8 f9 f10 f11 f12 f13 f14 f15 f16 f17 f18 f19 f20 f21 f22 f23 f24 f25 f26 f27 f28 f29 f30 f31 f32 f33 f34 f35 f36 f37 f38 f39 f40 f41 f42 f43 f44 f45 f46 f47 f48 f49 f50 f51 f52 f53 f54 f55 f56 f57 f58 f59 f60 : Addr} {restM rest0 rest1 rest2 : List Value} {tkT tkC0 : Tok} {oT : Value} {dT : Option Addr} {nT : Nat} {sT : Array (Option Value)} {fo_add ro_add fo_sub ro_sub fo_mul ro_mul : Option Value} (X : K.In h) (G : h.Ns mainGlobals mg) (hfa : mg "law" = some (.ref fa))
    {od0 an0 od1 an1 od2 an2 od3 an3 od4 an4 od5 an5 od6 an6 od7 an7 od8 an8 od9 an9 od10 an10 od11 an11 od12 an12 od13 an13 od14 an14 od15 an15 od16 an16 od17 an17 od18 an18 od19 an19 od20 an20 od21 an21 od22 an22 od23 an23 od24 an24 od25 an25 od26 an26 od27 an27 od28 an28 od29 an29 od30 an30 od31 an31 od32 an32 od33 an33 od34 an34 od35 an35 od36 an36 od37 an37 od38 an38 od39 an39 od40 an40 od41 an41 od42 an42 od43 an43 od44 an44 od45 an45 od46 an46 od47 an47 od48 an48 od49 an49 od50 an50 od51 an51 od52 an52 od53 an53 od54 an54 od55 an55 od56 an56 od57 an57 od58 an58 od59 an59 od60 an60 : Option Addr} {sl0 sl1 sl2 sl3 sl4 sl5 sl6 sl7 sl8 sl9 sl10 sl11 sl12 sl13 sl14 sl15 sl16 sl17 sl18 sl19 sl20 sl21 sl22 sl23 sl24 sl25 sl26 sl27 sl28 sl29 sl30 sl31 sl32 sl33 sl34 sl35 sl36 sl37 sl38 sl39 sl40 sl41 sl42 sl43 sl44 sl45 sl46 sl47 sl48 sl49 sl50 sl51 sl52 sl53 sl54 sl55 sl56 sl57 sl58 sl59 sl60 : Array (Option Value)}
    {oc0 kV0 dc0 pm0 cd0 ct0 oc1 kV1 dc1 pm1 cd1 ct1 oc2 kV2 dc2 pm2 cd2 ct2 oc3 kV3 dc3 pm3 cd3 ct3 oc4 kV4 dc4 pm4 cd4 ct4 oc5 kV5 dc5 pm5 cd5 ct5 oc6 kV6 dc6 pm6 cd6 ct6 oc7 kV7 dc7 pm7 cd7 ct7 oc8 kV8 dc8 pm8 cd8 ct8 oc9 kV9 dc9 pm9 cd9 ct9 oc10 kV10 dc10 pm10 cd10 ct10 oc11 kV11 dc11 pm11 cd11 ct11 oc12 kV12 dc12 pm12 cd12 ct12 oc13 kV13 dc13 pm13 cd13 ct13 oc14 kV14 dc14 pm14 cd14 ct14 oc15 kV15 dc15 pm15 cd15 ct15 oc16 kV16 dc16 pm16 cd16 ct16 oc17 kV17 dc17 pm17 cd17 ct17 oc18 kV18 dc18 pm18 cd18 ct18 oc19 kV19 dc19 pm19 cd19 ct19 oc20 kV20 dc20 pm20 cd20 ct20 oc21 kV21 dc21 pm21 cd21 ct21 oc22 kV22 dc22 pm22 cd22 ct22 oc23 kV23 dc23 pm23 cd23 ct23 oc24 kV24 dc24 pm24 cd24 ct24 oc25 kV25 dc25 pm25 cd25 ct25 oc26 kV26 dc26 pm26 cd26 ct26 oc27 kV27 dc27 pm27 cd27 ct27 oc28 kV28 dc28 pm28 cd28 ct28 oc29 kV29 dc29 pm29 cd29 ct29 oc30 kV30 dc30 pm30 cd30 ct30 oc31 kV31 dc31 pm31 cd31 ct31 oc32 kV32 dc32 pm32 cd32 ct32 oc33 kV33 dc33 pm33 cd33 ct33 oc34 kV34 dc34 pm34 cd34 ct34 oc35 kV35 dc35 pm35 cd35 ct35 oc36 kV36 dc36 pm36 cd36 ct36 oc37 kV37 dc37 pm37 cd37 ct37 oc38 kV38 dc38 pm38 cd38 ct38 oc39 kV39 dc39 pm39 cd39 ct39 oc40 kV40 dc40 pm40 cd40 ct40 oc41 kV41 dc41 pm41 cd41 ct41 oc42 kV42 dc42 pm42 cd42 ct42 oc43 kV43 dc43 pm43 cd43 ct43 oc44 kV44 dc44 pm44 cd44 ct44 oc45 kV45 dc45 pm45 cd45 ct45 oc46 kV46 dc46 pm46 cd46 ct46 oc47 kV47 dc47 pm47 cd47 ct47 oc48 kV48 dc48 pm48 cd48 ct48 oc49 kV49 dc49 pm49 cd49 ct49 oc50 kV50 dc50 pm50 cd50 ct50 oc51 kV51 dc51 pm51 cd51 ct51 oc52 kV52 dc52 pm52 cd52 ct52 oc53 kV53 dc53 pm53 cd53 ct53 oc54 kV54 dc54 pm54 cd54 ct54 oc55 kV55 dc55 pm55 cd55 ct55 oc56 kV56 dc56 pm56 cd56 ct56 oc57 kV57 dc57 pm57 cd57 ct57 oc58 kV58 dc58 pm58 cd58 ct58 oc59 kV59 dc59 pm59 cd59 ct59 oc60 kV60 dc60 pm60 cd60 ct60 : Value}
    (aC : PySem.W.nsIn K mainGlobals "Ratio" = some (some (.ref C)))
    (aG : PySem.W.nsIn K mainGlobals "gcd" = some (some (.builtin "math.gcd")))
    (a0 : PySem.W.nsIn K mainGlobals "is_integer" = some (some (.ref f0)))
    (l0 : K.lookup f0 = some ⟨oc0, od0, .func (PySem.W.fnOf "is_integer" "is_integer" (defArgs sIsInt) (defBody sIsInt) (defScope sIsInt) .none kV0 dc0 pm0 an0 cd0 ct0), sl0⟩)
    (c0 : PySem.W.codeIn K cd0 "is_integer" = true)
    (k0 : PySem.W.keepIn K (.ref f0) = true)
    (a1 : PySem.W.nsIn K mainGlobals "is_count" = some (some (.ref f1)))
    (l1 : K.lookup f1 = some ⟨oc1, od1, .func (PySem.W.fnOf "is_count" "is_count" (defArgs sIsCnt) (defBody sIsCnt) (defScope sIsCnt) .none kV1 dc1 pm1 an1 cd1 ct1), sl1⟩)
    (c1 : PySem.W.codeIn K cd1 "is_count" = true)
    (k1 : PySem.W.keepIn K (.ref f1) = true)
    (a2 : PySem.W.nsIn K mainGlobals "is_list" = some (some (.ref f2)))
    (l2 : K.lookup f2 = some ⟨oc2, od2, .func (PySem.W.fnOf "is_list" "is_list" (defArgs sIsLst) (defBody sIsLst) (defScope sIsLst) .none kV2 dc2 pm2 an2 cd2 ct2), sl2⟩)
    (c2 : PySem.W.codeIn K cd2 "is_list" = true)
    (k2 : PySem.W.keepIn K (.ref f2) = true)
    (a3 : PySem.W.nsIn K mainGlobals "is_number" = some (some (.ref f3)))
    (l3 : K.lookup f3 = some ⟨oc3, od3, .func (PySem.W.fnOf "is_number" "is_number" (defArgs sIsNum) (defBody sIsNum) (defScope sIsNum) .none kV3 dc3 pm3 an3 cd3 ct3), sl3⟩)
    (c3 : PySem.W.codeIn K cd3 "is_number" = true)
    (k3 : PySem.W.keepIn K (.ref f3) = true)
    (a4 : PySem.W.nsIn K mainGlobals "as_ratio" = some (some (.ref f4)))
    (l4 : K.lookup f4 = some ⟨oc4, od4, .func (PySem.W.fnOf "as_ratio" "as_ratio" (defArgs sAsRat) (defBody sAsRat) (defScope sAsRat) .none kV4 dc4 pm4 an4 cd4 ct4), sl4⟩)
    (c4 : PySem.W.codeIn K cd4 "as_ratio" = true)
    (k4 : PySem.W.keepIn K (.ref f4) = true)
    (a5 : PySem.W.nsIn K mainGlobals "are_numbers" = some (some (.ref f5)))
    (l5 : K.lookup f5 = some ⟨oc5, od5, .func (PySem.W.fnOf "are_numbers" "are_numbers" (defArgs sAreNum) (defBody sAreNum) (defScope sAreNum) .none kV5 dc5 pm5 an5 cd5 ct5), sl5⟩)
    (c5 : PySem.W.codeIn K cd5 "are_numbers" = true)
    (k5 : PySem.W.keepIn K (.ref f5) = true)
    (a6 : PySem.W.nsIn K mainGlobals "led" = some (some (.ref f6)))
    (l6 : K.lookup f6 = some ⟨oc6, od6, .func (PySem.W.fnOf "led" "led" (defArgs sLedQ) (defBody sLedQ) (defScope sLedQ) .none kV6 dc6 pm6 an6 cd6 ct6), sl6⟩)
    (c6 : PySem.W.codeIn K cd6 "led" = true)
    (k6 : PySem.W.keepIn K (.ref f6) = true)
    (a7 : PySem.W.nsIn K mainGlobals "told" = some (some (.ref f7)))
    (l7 : K.lookup f7 = some ⟨oc7, od7, .func (PySem.W.fnOf "told" "told" (defArgs sTold0) (defBody sTold0) (defScope sTold0) .none kV7 dc7 pm7 an7 cd7 ct7), sl7⟩)
    (c7 : PySem.W.codeIn K cd7 "told" = true)
    (k7 : PySem.W.keepIn K (.ref f7) = true)
    (a8 : PySem.W.nsIn K mainGlobals "is_size" = some (some (.ref f8)))
    (l8 : K.lookup f8 = some ⟨oc8, od8, .func (PySem.W.fnOf "is_size" "is_size" (defArgs sIsSize) (defBody sIsSize) (defScope sIsSize) .none kV8 dc8 pm8 an8 cd8 ct8), sl8⟩)
    (c8 : PySem.W.codeIn K cd8 "is_size" = true)
    (k8 : PySem.W.keepIn K (.ref f8) = true)
    (a9 : PySem.W.nsIn K mainGlobals "check_size" = some (some (.ref f9)))
    (l9 : K.lookup f9 = some ⟨oc9, od9, .func (PySem.W.fnOf "check_size" "check_size" (defArgs sChkSize) (defBody sChkSize) (defScope sChkSize) .none kV9 dc9 pm9 an9 cd9 ct9), sl9⟩)
    (c9 : PySem.W.codeIn K cd9 "check_size" = true)
    (k9 : PySem.W.keepIn K (.ref f9) = true)
    (a10 : PySem.W.nsIn K mainGlobals "is_table" = some (some (.ref f10)))
    (l10 : K.lookup f10 = some ⟨oc10, od10, .func (PySem.W.fnOf "is_table" "is_table" (defArgs sIsTab) (defBody sIsTab) (defScope sIsTab) .none kV10 dc10 pm10 an10 cd10 ct10), sl10⟩)
    (c10 : PySem.W.codeIn K cd10 "is_table" = true)
    (k10 : PySem.W.keepIn K (.ref f10) = true)
    (a11 : PySem.W.nsIn K mainGlobals "check_table" = some (some (.ref f11)))
    (l11 : K.lookup f11 = some ⟨oc11, od11, .func (PySem.W.fnOf "check_table" "check_table" (defArgs sChkTab) (defBody sChkTab) (defScope sChkTab) .none kV11 dc11 pm11 an11 cd11 ct11), sl11⟩)
    (c11 : PySem.W.codeIn K cd11 "check_table" = true)
    (k11 : PySem.W.keepIn K (.ref f11) = true)
    (a12 : PySem.W.nsIn K mainGlobals "check_two" = some (some (.ref f12)))
    (l12 : K.lookup f12 = some ⟨oc12, od12, .func (PySem.W.fnOf "check_two" "check_two" (defArgs sChkTwo) (defBody sChkTwo) (defScope sChkTwo) .none kV12 dc12 pm12 an12 cd12 ct12), sl12⟩)
    (c12 : PySem.W.codeIn K cd12 "check_two" = true)
    (k12 : PySem.W.keepIn K (.ref f12) = true)
    (a13 : PySem.W.nsIn K mainGlobals "table_with" = some (some (.ref f13)))
    (l13 : K.lookup f13 = some ⟨oc13, od13, .func (PySem.W.fnOf "table_with" "table_with" (defArgs sTabWith) (defBody sTabWith) (defScope sTabWith) .none kV13 dc13 pm13 an13 cd13 ct13), sl13⟩)
    (c13 : PySem.W.codeIn K cd13 "table_with" = true)
    (k13 : PySem.W.keepIn K (.ref f13) = true)
    (a14 : PySem.W.nsIn K mainGlobals "idle" = some (some (.ref f14)))
    (l14 : K.lookup f14 = some ⟨oc14, od14, .func (PySem.W.fnOf "idle" "idle" (defArgs sIdleT) (defBody sIdleT) (defScope sIdleT) .none kV14 dc14 pm14 an14 cd14 ct14), sl14⟩)
    (c14 : PySem.W.codeIn K cd14 "idle" = true)
    (k14 : PySem.W.keepIn K (.ref f14) = true)
    (a15 : PySem.W.nsIn K mainGlobals "times" = some (some (.ref f15)))
    (l15 : K.lookup f15 = some ⟨oc15, od15, .func (PySem.W.fnOf "times" "times" (defArgs sTimesT) (defBody sTimesT) (defScope sTimesT) .none kV15 dc15 pm15 an15 cd15 ct15), sl15⟩)
    (c15 : PySem.W.codeIn K cd15 "times" = true)
    (k15 : PySem.W.keepIn K (.ref f15) = true)
    (a16 : PySem.W.nsIn K mainGlobals "less" = some (some (.ref f16)))
    (l16 : K.lookup f16 = some ⟨oc16, od16, .func (PySem.W.fnOf "less" "less" (defArgs sLessT) (defBody sLessT) (defScope sLessT) .none kV16 dc16 pm16 an16 cd16 ct16), sl16⟩)
    (c16 : PySem.W.codeIn K cd16 "less" = true)
    (k16 : PySem.W.keepIn K (.ref f16) = true)
    (a17 : PySem.W.nsIn K mainGlobals "about" = some (some (.ref f17)))
    (l17 : K.lookup f17 = some ⟨oc17, od17, .func (PySem.W.fnOf "about" "about" (defArgs sAboutT) (defBody sAboutT) (defScope sAboutT) .none kV17 dc17 pm17 an17 cd17 ct17), sl17⟩)
    (c17 : PySem.W.codeIn K cd17 "about" = true)
    (k17 : PySem.W.keepIn K (.ref f17) = true)
    (a18 : PySem.W.nsIn K mainGlobals "_law_pot" = some (some (.ref f18)))
    (l18 : K.lookup f18 = some ⟨oc18, od18, .func (PySem.W.fnOf "_law_pot" "_law_pot" (defArgs sPot) (defBody sPot) (defScope sPot) .none kV18 dc18 pm18 an18 cd18 ct18), sl18⟩)
    (c18 : PySem.W.codeIn K cd18 "_law_pot" = true)
    (k18 : PySem.W.keepIn K (.ref f18) = true)
    (a19 : PySem.W.nsIn K mainGlobals "_law_draw" = some (some (.ref f19)))
    (l19 : K.lookup f19 = some ⟨oc19, od19, .func (PySem.W.fnOf "_law_draw" "_law_draw" (defArgs sDraw) (defBody sDraw) (defScope sDraw) .none kV19 dc19 pm19 an19 cd19 ct19), sl19⟩)
    (c19 : PySem.W.codeIn K cd19 "_law_draw" = true)
    (k19 : PySem.W.keepIn K (.ref f19) = true)
    (a20 : PySem.W.nsIn K mainGlobals "_law_pick" = some (some (.ref f20)))
    (l20 : K.lookup f20 = some ⟨oc20, od20, .func (PySem.W.fnOf "_law_pick" "_law_pick" (defArgs sPick) (defBody sPick) (defScope sPick) .none kV20 dc20 pm20 an20 cd20 ct20), sl20⟩)
    (c20 : PySem.W.codeIn K cd20 "_law_pick" = true)
    (k20 : PySem.W.keepIn K (.ref f20) = true)
    (a21 : PySem.W.nsIn K mainGlobals "_law_low" = some (some (.ref f21)))
    (l21 : K.lookup f21 = some ⟨oc21, od21, .func (PySem.W.fnOf "_law_low" "_law_low" (defArgs sLowR) (defBody sLowR) (defScope sLowR) .none kV21 dc21 pm21 an21 cd21 ct21), sl21⟩)
    (c21 : PySem.W.codeIn K cd21 "_law_low" = true)
    (k21 : PySem.W.keepIn K (.ref f21) = true)
    (a22 : PySem.W.nsIn K mainGlobals "_law_sum" = some (some (.ref f22)))
    (l22 : K.lookup f22 = some ⟨oc22, od22, .func (PySem.W.fnOf "_law_sum" "_law_sum" (defArgs sSumR) (defBody sSumR) (defScope sSumR) .none kV22 dc22 pm22 an22 cd22 ct22), sl22⟩)
    (c22 : PySem.W.codeIn K cd22 "_law_sum" = true)
    (k22 : PySem.W.keepIn K (.ref f22) = true)
    (a23 : PySem.W.nsIn K mainGlobals "_law_by" = some (some (.ref f23)))
    (l23 : K.lookup f23 = some ⟨oc23, od23, .func (PySem.W.fnOf "_law_by" "_law_by" (defArgs sByR) (defBody sByR) (defScope sByR) .none kV23 dc23 pm23 an23 cd23 ct23), sl23⟩)
    (c23 : PySem.W.codeIn K cd23 "_law_by" = true)
    (k23 : PySem.W.keepIn K (.ref f23) = true)
    (a24 : PySem.W.nsIn K mainGlobals "_law_less" = some (some (.ref f24)))
    (l24 : K.lookup f24 = some ⟨oc24, od24, .func (PySem.W.fnOf "_law_less" "_law_less" (defArgs sLessR) (defBody sLessR) (defScope sLessR) .none kV24 dc24 pm24 an24 cd24 ct24), sl24⟩)
    (c24 : PySem.W.codeIn K cd24 "_law_less" = true)
    (k24 : PySem.W.keepIn K (.ref f24) = true)
    (a25 : PySem.W.nsIn K mainGlobals "_law_total" = some (some (.ref f25)))
    (l25 : K.lookup f25 = some ⟨oc25, od25, .func (PySem.W.fnOf "_law_total" "_law_total" (defArgs sTotR) (defBody sTotR) (defScope sTotR) .none kV25 dc25 pm25 an25 cd25 ct25), sl25⟩)
    (c25 : PySem.W.codeIn K cd25 "_law_total" = true)
    (k25 : PySem.W.keepIn K (.ref f25) = true)
    (a26 : PySem.W.nsIn K mainGlobals "_law_dot" = some (some (.ref f26)))
    (l26 : K.lookup f26 = some ⟨oc26, od26, .func (PySem.W.fnOf "_law_dot" "_law_dot" (defArgs sDotR) (defBody sDotR) (defScope sDotR) .none kV26 dc26 pm26 an26 cd26 ct26), sl26⟩)
    (c26 : PySem.W.codeIn K cd26 "_law_dot" = true)
    (k26 : PySem.W.keepIn K (.ref f26) = true)
    (a27 : PySem.W.nsIn K mainGlobals "_law_idle" = some (some (.ref f27)))
    (l27 : K.lookup f27 = some ⟨oc27, od27, .func (PySem.W.fnOf "_law_idle" "_law_idle" (defArgs sIdleR) (defBody sIdleR) (defScope sIdleR) .none kV27 dc27 pm27 an27 cd27 ct27), sl27⟩)
    (c27 : PySem.W.codeIn K cd27 "_law_idle" = true)
    (k27 : PySem.W.keepIn K (.ref f27) = true)
    (a28 : PySem.W.nsIn K mainGlobals "_law_columns" = some (some (.ref f28)))
    (l28 : K.lookup f28 = some ⟨oc28, od28, .func (PySem.W.fnOf "_law_columns" "_law_columns" (defArgs sColR) (defBody sColR) (defScope sColR) .none kV28 dc28 pm28 an28 cd28 ct28), sl28⟩)
    (c28 : PySem.W.codeIn K cd28 "_law_columns" = true)
    (k28 : PySem.W.keepIn K (.ref f28) = true)
    (a29 : PySem.W.nsIn K mainGlobals "_law_led" = some (some (.ref f29)))
    (l29 : K.lookup f29 = some ⟨oc29, od29, .func (PySem.W.fnOf "_law_led" "_law_led" (defArgs sLedR) (defBody sLedR) (defScope sLedR) .none kV29 dc29 pm29 an29 cd29 ct29), sl29⟩)
    (c29 : PySem.W.codeIn K cd29 "_law_led" = true)
    (k29 : PySem.W.keepIn K (.ref f29) = true)
    (a30 : PySem.W.nsIn K mainGlobals "_law_times" = some (some (.ref f30)))
    (l30 : K.lookup f30 = some ⟨oc30, od30, .func (PySem.W.fnOf "_law_times" "_law_times" (defArgs sTimR) (defBody sTimR) (defScope sTimR) .none kV30 dc30 pm30 an30 cd30 ct30), sl30⟩)
    (c30 : PySem.W.codeIn K cd30 "_law_times" = true)
    (k30 : PySem.W.keepIn K (.ref f30) = true)
    (a31 : PySem.W.nsIn K mainGlobals "_law_passed" = some (some (.ref f31)))
    (l31 : K.lookup f31 = some ⟨oc31, od31, .func (PySem.W.fnOf "_law_passed" "_law_passed" (defArgs sPasR) (defBody sPasR) (defScope sPasR) .none kV31 dc31 pm31 an31 cd31 ct31), sl31⟩)
    (c31 : PySem.W.codeIn K cd31 "_law_passed" = true)
    (k31 : PySem.W.keepIn K (.ref f31) = true)
    (a32 : PySem.W.nsIn K mainGlobals "_law_given_row" = some (some (.ref f32)))
    (l32 : K.lookup f32 = some ⟨oc32, od32, .func (PySem.W.fnOf "_law_given_row" "_law_given_row" (defArgs sGivRow) (defBody sGivRow) (defScope sGivRow) .none kV32 dc32 pm32 an32 cd32 ct32), sl32⟩)
    (c32 : PySem.W.codeIn K cd32 "_law_given_row" = true)
    (k32 : PySem.W.keepIn K (.ref f32) = true)
    (a33 : PySem.W.nsIn K mainGlobals "_law_given" = some (some (.ref f33)))
    (l33 : K.lookup f33 = some ⟨oc33, od33, .func (PySem.W.fnOf "_law_given" "_law_given" (defArgs sGivR) (defBody sGivR) (defScope sGivR) .none kV33 dc33 pm33 an33 cd33 ct33), sl33⟩)
    (c33 : PySem.W.codeIn K cd33 "_law_given" = true)
    (k33 : PySem.W.keepIn K (.ref f33) = true)
    (a34 : PySem.W.nsIn K mainGlobals "_law_pair" = some (some (.ref f34)))
    (l34 : K.lookup f34 = some ⟨oc34, od34, .func (PySem.W.fnOf "_law_pair" "_law_pair" (defArgs sRtPair) (defBody sRtPair) (defScope sRtPair) .none kV34 dc34 pm34 an34 cd34 ct34), sl34⟩)
    (c34 : PySem.W.codeIn K cd34 "_law_pair" = true)
    (k34 : PySem.W.keepIn K (.ref f34) = true)
    (a35 : PySem.W.nsIn K mainGlobals "_law_pairs" = some (some (.ref f35)))
    (l35 : K.lookup f35 = some ⟨oc35, od35, .func (PySem.W.fnOf "_law_pairs" "_law_pairs" (defArgs sRtPairs) (defBody sRtPairs) (defScope sRtPairs) .none kV35 dc35 pm35 an35 cd35 ct35), sl35⟩)
    (c35 : PySem.W.codeIn K cd35 "_law_pairs" = true)
    (k35 : PySem.W.keepIn K (.ref f35) = true)
    (a36 : PySem.W.nsIn K mainGlobals "_law_rows" = some (some (.ref f36)))
    (l36 : K.lookup f36 = some ⟨oc36, od36, .func (PySem.W.fnOf "_law_rows" "_law_rows" (defArgs sRowsR) (defBody sRowsR) (defScope sRowsR) .none kV36 dc36 pm36 an36 cd36 ct36), sl36⟩)
    (c36 : PySem.W.codeIn K cd36 "_law_rows" = true)
    (k36 : PySem.W.keepIn K (.ref f36) = true)
    (a37 : PySem.W.nsIn K mainGlobals "_law_entry" = some (some (.ref f37)))
    (l37 : K.lookup f37 = some ⟨oc37, od37, .func (PySem.W.fnOf "_law_entry" "_law_entry" (defArgs sEntR) (defBody sEntR) (defScope sEntR) .none kV37 dc37 pm37 an37 cd37 ct37), sl37⟩)
    (c37 : PySem.W.codeIn K cd37 "_law_entry" = true)
    (k37 : PySem.W.keepIn K (.ref f37) = true)
    (a38 : PySem.W.nsIn K mainGlobals "_law_row" = some (some (.ref f38)))
    (l38 : K.lookup f38 = some ⟨oc38, od38, .func (PySem.W.fnOf "_law_row" "_law_row" (defArgs sRowR) (defBody sRowR) (defScope sRowR) .none kV38 dc38 pm38 an38 cd38 ct38), sl38⟩)
    (c38 : PySem.W.codeIn K cd38 "_law_row" = true)
    (k38 : PySem.W.keepIn K (.ref f38) = true)
    (a39 : PySem.W.nsIn K mainGlobals "_law_list" = some (some (.ref f39)))
    (l39 : K.lookup f39 = some ⟨oc39, od39, .func (PySem.W.fnOf "_law_list" "_law_list" (defArgs sListR) (defBody sListR) (defScope sListR) .none kV39 dc39 pm39 an39 cd39 ct39), sl39⟩)
    (c39 : PySem.W.codeIn K cd39 "_law_list" = true)
    (k39 : PySem.W.keepIn K (.ref f39) = true)
    (a40 : PySem.W.nsIn K mainGlobals "_law_table" = some (some (.ref f40)))
    (l40 : K.lookup f40 = some ⟨oc40, od40, .func (PySem.W.fnOf "_law_table" "_law_table" (defArgs sTableR) (defBody sTableR) (defScope sTableR) .none kV40 dc40 pm40 an40 cd40 ct40), sl40⟩)
    (c40 : PySem.W.codeIn K cd40 "_law_table" = true)
    (k40 : PySem.W.keepIn K (.ref f40) = true)
    (a41 : PySem.W.nsIn K mainGlobals "_law_one_right" = some (some (.ref f41)))
    (l41 : K.lookup f41 = some ⟨oc41, od41, .func (PySem.W.fnOf "_law_one_right" "_law_one_right" (defArgs sOne13) (defBody sOne13) (defScope sOne13) .none kV41 dc41 pm41 an41 cd41 ct41), sl41⟩)
    (c41 : PySem.W.codeIn K cd41 "_law_one_right" = true)
    (k41 : PySem.W.keepIn K (.ref f41) = true)
    (a42 : PySem.W.nsIn K mainGlobals "_law_rules_right" = some (some (.ref f42)))
    (l42 : K.lookup f42 = some ⟨oc42, od42, .func (PySem.W.fnOf "_law_rules_right" "_law_rules_right" (defArgs sRul13) (defBody sRul13) (defScope sRul13) .none kV42 dc42 pm42 an42 cd42 ct42), sl42⟩)
    (c42 : PySem.W.codeIn K cd42 "_law_rules_right" = true)
    (k42 : PySem.W.keepIn K (.ref f42) = true)
    (a43 : PySem.W.nsIn K mainGlobals "_law_right" = some (some (.ref f43)))
    (l43 : K.lookup f43 = some ⟨oc43, od43, .func (PySem.W.fnOf "_law_right" "_law_right" (defArgs sRight) (defBody sRight) (defScope sRight) .none kV43 dc43 pm43 an43 cd43 ct43), sl43⟩)
    (c43 : PySem.W.codeIn K cd43 "_law_right" = true)
    (k43 : PySem.W.keepIn K (.ref f43) = true)
    (a44 : PySem.W.nsIn K mainGlobals "law" = some (some (.ref f44)))
    (l44 : K.lookup f44 = some ⟨oc44, od44, .func (PySem.W.fnOf "law" "law" (defArgs sLaw) (defBody sLaw) (defScope sLaw) .none kV44 dc44 pm44 an44 cd44 ct44), sl44⟩)
    (c44 : PySem.W.codeIn K cd44 "law" = true)
    (k44 : PySem.W.keepIn K (.ref f44) = true)
    (a45 : PySem.W.findIn K (.ref C) "__add__" = some (some (.ref f45)))
    (i45 : PySem.W.isFn K (.ref f45) = true)
    (l45 : K.lookup f45 = some ⟨oc45, od45, .func (PySem.W.fnOf "__add__" "Ratio.__add__" (defArgs sRAdd) (defBody sRAdd) (defScope sRAdd) .none kV45 dc45 pm45 an45 cd45 ct45), sl45⟩)
    (c45 : PySem.W.codeIn K cd45 "Ratio.__add__" = true)
    (k45 : PySem.W.keepIn K (.ref f45) = true)
    (a46 : PySem.W.findIn K (.ref C) "__radd__" = some (some (.ref f46)))
    (i46 : PySem.W.isFn K (.ref f46) = true)
    (l46 : K.lookup f46 = some ⟨oc46, od46, .func (PySem.W.fnOf "__radd__" "Ratio.__radd__" (defArgs sRRadd) (defBody sRRadd) (defScope sRRadd) .none kV46 dc46 pm46 an46 cd46 ct46), sl46⟩)
    (c46 : PySem.W.codeIn K cd46 "Ratio.__radd__" = true)
    (k46 : PySem.W.keepIn K (.ref f46) = true)
    (a47 : PySem.W.findIn K (.ref C) "__sub__" = some (some (.ref f47)))
    (i47 : PySem.W.isFn K (.ref f47) = true)
    (l47 : K.lookup f47 = some ⟨oc47, od47, .func (PySem.W.fnOf "__sub__" "Ratio.__sub__" (defArgs sRSub) (defBody sRSub) (defScope sRSub) .none kV47 dc47 pm47 an47 cd47 ct47), sl47⟩)
    (c47 : PySem.W.codeIn K cd47 "Ratio.__sub__" = true)
    (k47 : PySem.W.keepIn K (.ref f47) = true)
    (a48 : PySem.W.findIn K (.ref C) "__rsub__" = some (some (.ref f48)))
    (i48 : PySem.W.isFn K (.ref f48) = true)
    (l48 : K.lookup f48 = some ⟨oc48, od48, .func (PySem.W.fnOf "__rsub__" "Ratio.__rsub__" (defArgs sRRsub) (defBody sRRsub) (defScope sRRsub) .none kV48 dc48 pm48 an48 cd48 ct48), sl48⟩)
    (c48 : PySem.W.codeIn K cd48 "Ratio.__rsub__" = true)
    (k48 : PySem.W.keepIn K (.ref f48) = true)
    (a49 : PySem.W.findIn K (.ref C) "__mul__" = some (some (.ref f49)))
    (i49 : PySem.W.isFn K (.ref f49) = true)
    (l49 : K.lookup f49 = some ⟨oc49, od49, .func (PySem.W.fnOf "__mul__" "Ratio.__mul__" (defArgs sRMul) (defBody sRMul) (defScope sRMul) .none kV49 dc49 pm49 an49 cd49 ct49), sl49⟩)
    (c49 : PySem.W.codeIn K cd49 "Ratio.__mul__" = true)
    (k49 : PySem.W.keepIn K (.ref f49) = true)
    (a50 : PySem.W.findIn K (.ref C) "__rmul__" = some (some (.ref f50)))
    (i50 : PySem.W.isFn K (.ref f50) = true)
    (l50 : K.lookup f50 = some ⟨oc50, od50, .func (PySem.W.fnOf "__rmul__" "Ratio.__rmul__" (defArgs sRRmul) (defBody sRRmul) (defScope sRRmul) .none kV50 dc50 pm50 an50 cd50 ct50), sl50⟩)
    (c50 : PySem.W.codeIn K cd50 "Ratio.__rmul__" = true)
    (k50 : PySem.W.keepIn K (.ref f50) = true)
    (a51 : PySem.W.findIn K (.ref C) "__neg__" = some (some (.ref f51)))
    (i51 : PySem.W.isFn K (.ref f51) = true)
    (l51 : K.lookup f51 = some ⟨oc51, od51, .func (PySem.W.fnOf "__neg__" "Ratio.__neg__" (defArgs sRNeg) (defBody sRNeg) (defScope sRNeg) .none kV51 dc51 pm51 an51 cd51 ct51), sl51⟩)
    (c51 : PySem.W.codeIn K cd51 "Ratio.__neg__" = true)
    (k51 : PySem.W.keepIn K (.ref f51) = true)
    (a52 : PySem.W.findIn K (.ref C) "size" = some (some (.ref f52)))
    (i52 : PySem.W.isFn K (.ref f52) = true)
    (l52 : K.lookup f52 = some ⟨oc52, od52, .func (PySem.W.fnOf "size" "Ratio.size" (defArgs sRSize) (defBody sRSize) (defScope sRSize) .none kV52 dc52 pm52 an52 cd52 ct52), sl52⟩)
    (c52 : PySem.W.codeIn K cd52 "Ratio.size" = true)
    (k52 : PySem.W.keepIn K (.ref f52) = true)
    (a53 : PySem.W.findIn K (.ref C) "__eq__" = some (some (.ref f53)))
    (i53 : PySem.W.isFn K (.ref f53) = true)
    (l53 : K.lookup f53 = some ⟨oc53, od53, .func (PySem.W.fnOf "__eq__" "Ratio.__eq__" (defArgs sREq) (defBody sREq) (defScope sREq) .none kV53 dc53 pm53 an53 cd53 ct53), sl53⟩)
    (c53 : PySem.W.codeIn K cd53 "Ratio.__eq__" = true)
    (k53 : PySem.W.keepIn K (.ref f53) = true)
    (a54 : PySem.W.findIn K (.ref C) "__str__" = some (some (.ref f54)))
    (i54 : PySem.W.isFn K (.ref f54) = true)
    (l54 : K.lookup f54 = some ⟨oc54, od54, .func (PySem.W.fnOf "__str__" "Ratio.__str__" (defArgs sRStr) (defBody sRStr) (defScope sRStr) .none kV54 dc54 pm54 an54 cd54 ct54), sl54⟩)
    (c54 : PySem.W.codeIn K cd54 "Ratio.__str__" = true)
    (k54 : PySem.W.keepIn K (.ref f54) = true)
    (a55 : PySem.W.findIn K (.ref C) "__repr__" = some (some (.ref f55)))
    (i55 : PySem.W.isFn K (.ref f55) = true)
    (l55 : K.lookup f55 = some ⟨oc55, od55, .func (PySem.W.fnOf "__repr__" "Ratio.__repr__" (defArgs sRRepr) (defBody sRRepr) (defScope sRRepr) .none kV55 dc55 pm55 an55 cd55 ct55), sl55⟩)
    (c55 : PySem.W.codeIn K cd55 "Ratio.__repr__" = true)
    (k55 : PySem.W.keepIn K (.ref f55) = true)
    (pa0 : PySem.W.findIn K (.ref C) "top" = some (some (.ref p0)))
    (pg0 : PySem.W.specialIn K (.ref p0) "__get__" = some (some (.builtin "property.__get__")))
    (pt0 : PySem.W.takesIn K (.ref p0) = some true)
    (pr0 : PySem.W.recIn K p0 "property" = some (.ref f56 :: rest0))
    (l56 : K.lookup f56 = some ⟨oc56, od56, .func (PySem.W.fnOf "top" "Ratio.top" (defArgs sRTop) (defBody sRTop) (defScope sRTop) .none kV56 dc56 pm56 an56 cd56 ct56), sl56⟩)
    (c56 : PySem.W.codeIn K cd56 "Ratio.top" = true)
    (k56 : PySem.W.keepIn K (.ref f56) = true)
    (pa1 : PySem.W.findIn K (.ref C) "bottom" = some (some (.ref p1)))
    (pg1 : PySem.W.specialIn K (.ref p1) "__get__" = some (some (.builtin "property.__get__")))
    (pt1 : PySem.W.takesIn K (.ref p1) = some true)
    (pr1 : PySem.W.recIn K p1 "property" = some (.ref f57 :: rest1))
    (l57 : K.lookup f57 = some ⟨oc57, od57, .func (PySem.W.fnOf "bottom" "Ratio.bottom" (defArgs sRBot) (defBody sRBot) (defScope sRBot) .none kV57 dc57 pm57 an57 cd57 ct57), sl57⟩)
    (c57 : PySem.W.codeIn K cd57 "Ratio.bottom" = true)
    (k57 : PySem.W.keepIn K (.ref f57) = true)
    (pa2 : PySem.W.findIn K (.ref C) "sign" = some (some (.ref p2)))
    (pg2 : PySem.W.specialIn K (.ref p2) "__get__" = some (some (.builtin "property.__get__")))
    (pt2 : PySem.W.takesIn K (.ref p2) = some true)
    (pr2 : PySem.W.recIn K p2 "property" = some (.ref f58 :: rest2))
    (l58 : K.lookup f58 = some ⟨oc58, od58, .func (PySem.W.fnOf "sign" "Ratio.sign" (defArgs sRSign) (defBody sRSign) (defScope sRSign) .none kV58 dc58 pm58 an58 cd58 ct58), sl58⟩)
    (c58 : PySem.W.codeIn K cd58 "Ratio.sign" = true)
    (k58 : PySem.W.keepIn K (.ref f58) = true)
    (a59 : PySem.W.findIn K (.ref C) "__init__" = some (some (.ref f59)))
    (i59 : PySem.W.isFn K (.ref f59) = true)
    (l59 : K.lookup f59 = some ⟨oc59, od59, .func (PySem.W.fnOf "__init__" "Ratio.__init__" (defArgs sRInit) (defBody sRInit) (defScope sRInit) (.ref T1) kV59 dc59 pm59 an59 cd59 ct59), sl59⟩)
    (c59 : PySem.W.codeIn K cd59 "Ratio.__init__" = true)
    (k59 : PySem.W.keepIn K (.ref f59) = true)
    (lT : K.lookup T1 = some ⟨oT, dT, .seq #[.int 1 tkT] nT, sT⟩)
    (rd : PySem.W.readsIn K C (.type "type") = true)
    (ga : PySem.W.specialIn K (.ref C) "__getattribute__" = some (some (.builtin "type.__getattribute__")))
    (ca : PySem.W.findCls K (.ref C) (.type "type") "total" = some (.get (.builtin "classmethod.__get__") (.ref pM) .none (.ref C)))
    (cr : PySem.W.recIn K pM "classmethod" = some (.ref f60 :: restM))
    (l60 : K.lookup f60 = some ⟨oc60, od60, .func (PySem.W.fnOf "total" "Ratio.total" (defArgs sRTotal) (defBody sRTotal) (defScope sRTotal) .none kV60 dc60 pm60 an60 cd60 ct60), sl60⟩)
    (c60 : PySem.W.codeIn K cd60 "Ratio.total" = true)
    (k60 : PySem.W.keepIn K (.ref f60) = true)
    (cf : PySem.W.fnIn K f60 = true)
    (sf : PySem.W.selfFirst K C = true)
    (tadd : PySem.W.findIn K (.type "int") "__add__" = some fo_add)
    (radd : PySem.W.findIn K (.type "int") "__radd__" = some ro_add)
    (tsub : PySem.W.findIn K (.type "int") "__sub__" = some fo_sub)
    (rsub : PySem.W.findIn K (.type "int") "__rsub__" = some ro_sub)
    (tmul : PySem.W.findIn K (.type "int") "__mul__" = some fo_mul)
    (rmul : PySem.W.findIn K (.type "int") "__rmul__" = some ro_mul)
    (s1 : PySem.W.subIn K (.type "int") (.ref C) = some false)
    (s2 : PySem.W.subIn K (.ref C) (.type "int") = some false)
    (nf : PySem.W.notFirst K C (.type "int") = true)
    (kc : PySem.W.isClsIn K C = true)
    (kt : PySem.W.typeIn K (.ref C) = some (.type "type"))
    (ks0 : PySem.W.subIn K (.type "bool") (.ref C) = some false)
    (ks1 : PySem.W.subIn K (.type "NoneType") (.ref C) = some false)
    (ks2 : PySem.W.subIn K (.type "str") (.ref C) = some false)
    (ks3 : PySem.W.subIn K (.type "list") (.ref C) = some false)
    (ks4 : PySem.W.subIn K (.type "tuple") (.ref C) = some false)
    (kr : PySem.W.kitOne K (.ref C) (.type "int") = some false)
    (q1 : PySem.W.plainGet K C Str.empty = true)
    (q2 : PySem.W.hasDictIn K C = true)
    (q3 : PySem.W.plainOver K C = true)
    (q4 : PySem.W.findIn K (.ref C) "__setattr__" = some (some (.builtin "object.__setattr__")))
    (q5 : PySem.W.makesIn K C = true)
    (q6 : PySem.W.keepIn K (.ref C) = true)
    (n1 : PySem.W.findIn K (.ref C) "_top" = some none)
    (n2 : PySem.W.findIn K (.ref C) "_bottom" = some none)
    (w1 : PySem.W.findIn K (.ref C) "__class__" = some (some (.builtin "object.__class__")))
    (w2 : PySem.W.specialIn K (.builtin "object.__class__") "__get__" = some (some (.builtin "getset_descriptor.__get__")))
    (w3 : PySem.W.takesIn K (.builtin "object.__class__") = some true)
    (w4 : PySem.W.mroIn K C (.type "object") = some true)
    (ne : PySem.W.findIn K (.ref C) "__ne__" = some (some (.builtin "object.__ne__")))
    (mc0 : PySem.W.nsIn K mainGlobals "MOST_THINGS" = some (some (.int 6 tkC0)))
    (z_isinstance : PySem.W.nsIn K mainGlobals "isinstance" = some none)
    (z_int : PySem.W.nsIn K mainGlobals "int" = some none)
    (z_bool : PySem.W.nsIn K mainGlobals "bool" = some none)
    (z_list : PySem.W.nsIn K mainGlobals "list" = some none)
    (z_tuple : PySem.W.nsIn K mainGlobals "tuple" = some none)
    (z_len : PySem.W.nsIn K mainGlobals "len" = some none)
    (z_all : PySem.W.nsIn K mainGlobals "all" = some none)
    (z_any : PySem.W.nsIn K mainGlobals "any" = some none)
    (z_set : PySem.W.nsIn K mainGlobals "set" = some none)
    (z_range : PySem.W.nsIn K mainGlobals "range" = some none)
    (z_sorted : PySem.W.nsIn K mainGlobals "sorted" = some none)
    (z_sum : PySem.W.nsIn K mainGlobals "sum" = some none)
    (z_abs : PySem.W.nsIn K mainGlobals "abs" = some none)
    (z_max : PySem.W.nsIn K mainGlobals "max" = some none)
    (z_min : PySem.W.nsIn K mainGlobals "min" = some none)
    (z_divmod : PySem.W.nsIn K mainGlobals "divmod" = some none)
    (z_repr : PySem.W.nsIn K mainGlobals "repr" = some none)
    (z_enumerate : PySem.W.nsIn K mainGlobals "enumerate" = some none)
    (z_zip : PySem.W.nsIn K mainGlobals "zip" = some none)
    (z_str : PySem.W.nsIn K mainGlobals "str" = some none) :
    ∃ fd : FuncData, (∀ (s : Shared) (v : Value), BindsTo s fd ⟨[v], []⟩ [("_law_script", v)]) ∧ ∀ base : Heap, K.In base → base.Ns mainGlobals mg → FnG P w K mg base 11 fa fd ["_law_script"] (spLawR K) := by
  have e := hfa.symm.trans (PySem.W.mg_of X G a44)
  cases e
  have B : Bl mg := ⟨PySem.W.mg_none_of X G z_isinstance, PySem.W.mg_none_of X G z_int, PySem.W.mg_none_of X G z_bool, PySem.W.mg_none_of X G z_list, PySem.W.mg_none_of X G z_tuple, PySem.W.mg_none_of X G z_len, PySem.W.mg_none_of X G z_all, PySem.W.mg_none_of X G z_any, PySem.W.mg_none_of X G z_set, PySem.W.mg_none_of X G z_range, PySem.W.mg_none_of X G z_sorted, PySem.W.mg_none_of X G z_sum, PySem.W.mg_none_of X G z_abs, PySem.W.mg_none_of X G z_max, PySem.W.mg_none_of X G z_min, PySem.W.mg_none_of X G z_divmod, PySem.W.mg_none_of X G z_repr, PySem.W.mg_none_of X G z_enumerate, PySem.W.mg_none_of X G z_zip⟩
  have ms : mg "str" = none := PySem.W.mg_none_of X G z_str
  have F0 := fun_mk (st := sIsInt) l0 c0 k0
  have D0 : Df K mg "is_integer" sIsInt ["value"] f0 _ := ⟨F0, PySem.W.mg_of X G a0, F0.binds (ps := ["value"]) fun _ _ _ _ _ _ us hl => match us, hl with | [_], _ => rfl⟩
  have F1 := fun_mk (st := sIsCnt) l1 c1 k1
  have D1 : Df K mg "is_count" sIsCnt ["value"] f1 _ := ⟨F1, PySem.W.mg_of X G a1, F1.binds (ps := ["value"]) fun _ _ _ _ _ _ us hl => match us, hl with | [_], _ => rfl⟩
  have F2 := fun_mk (st := sIsLst) l2 c2 k2
  have D2 : Df K mg "is_list" sIsLst ["value"] f2 _ := ⟨F2, PySem.W.mg_of X G a2, F2.binds (ps := ["value"]) fun _ _ _ _ _ _ us hl => match us, hl with | [_], _ => rfl⟩
  have F3 := fun_mk (st := sIsNum) l3 c3 k3
  have D3 : Df K mg "is_number" sIsNum ["value"] f3 _ := ⟨F3, PySem.W.mg_of X G a3, F3.binds (ps := ["value"]) fun _ _ _ _ _ _ us hl => match us, hl with | [_], _ => rfl⟩
  have F4 := fun_mk (st := sAsRat) l4 c4 k4
  have D4 : Df K mg "as_ratio" sAsRat ["number"] f4 _ := ⟨F4, PySem.W.mg_of X G a4, F4.binds (ps := ["number"]) fun _ _ _ _ _ _ us hl => match us, hl with | [_], _ => rfl⟩
  have F5 := fun_mk (st := sAreNum) l5 c5 k5
  have D5 : Df K mg "are_numbers" sAreNum ["value"] f5 _ := ⟨F5, PySem.W.mg_of X G a5, F5.binds (ps := ["value"]) fun _ _ _ _ _ _ us hl => match us, hl with | [_], _ => rfl⟩
  have F6 := fun_mk (st := sLedQ) l6 c6 k6
  have D6 : Df K mg "led" sLedQ ["numbers", "other"] f6 _ := ⟨F6, PySem.W.mg_of X G a6, F6.binds (ps := ["numbers", "other"]) fun _ _ _ _ _ _ us hl => match us, hl with | [_, _], _ => rfl⟩
  have F7 := fun_mk (st := sTold0) l7 c7 k7
  have D7 : Df K mg "told" sTold0 ["rows"] f7 _ := ⟨F7, PySem.W.mg_of X G a7, F7.binds (ps := ["rows"]) fun _ _ _ _ _ _ us hl => match us, hl with | [_], _ => rfl⟩
  have F8 := fun_mk (st := sIsSize) l8 c8 k8
  have D8 : Df K mg "is_size" sIsSize ["value"] f8 _ := ⟨F8, PySem.W.mg_of X G a8, F8.binds (ps := ["value"]) fun _ _ _ _ _ _ us hl => match us, hl with | [_], _ => rfl⟩
  have F9 := fun_mk (st := sChkSize) l9 c9 k9
  have D9 : Df K mg "check_size" sChkSize ["size"] f9 _ := ⟨F9, PySem.W.mg_of X G a9, F9.binds (ps := ["size"]) fun _ _ _ _ _ _ us hl => match us, hl with | [_], _ => rfl⟩
  have F10 := fun_mk (st := sIsTab) l10 c10 k10
  have D10 : Df K mg "is_table" sIsTab ["value"] f10 _ := ⟨F10, PySem.W.mg_of X G a10, F10.binds (ps := ["value"]) fun _ _ _ _ _ _ us hl => match us, hl with | [_], _ => rfl⟩
  have F11 := fun_mk (st := sChkTab) l11 c11 k11
  have D11 : Df K mg "check_table" sChkTab ["table"] f11 _ := ⟨F11, PySem.W.mg_of X G a11, F11.binds (ps := ["table"]) fun _ _ _ _ _ _ us hl => match us, hl with | [_], _ => rfl⟩
  have F12 := fun_mk (st := sChkTwo) l12 c12 k12
  have D12 : Df K mg "check_two" sChkTwo ["table", "other"] f12 _ := ⟨F12, PySem.W.mg_of X G a12, F12.binds (ps := ["table", "other"]) fun _ _ _ _ _ _ us hl => match us, hl with | [_, _], _ => rfl⟩
  have F13 := fun_mk (st := sTabWith) l13 c13 k13
  have D13 : Df K mg "table_with" sTabWith ["line", "pairs", "number"] f13 _ := ⟨F13, PySem.W.mg_of X G a13, F13.binds (ps := ["line", "pairs", "number"]) fun _ _ _ _ _ _ us hl => match us, hl with | [_, _, _], _ => rfl⟩
  have F14 := fun_mk (st := sIdleT) l14 c14 k14
  have D14 : Df K mg "idle" sIdleT ["size"] f14 _ := ⟨F14, PySem.W.mg_of X G a14, F14.binds (ps := ["size"]) fun _ _ _ _ _ _ us hl => match us, hl with | [_], _ => rfl⟩
  have F15 := fun_mk (st := sTimesT) l15 c15 k15
  have D15 : Df K mg "times" sTimesT ["table", "other"] f15 _ := ⟨F15, PySem.W.mg_of X G a15, F15.binds (ps := ["table", "other"]) fun _ _ _ _ _ _ us hl => match us, hl with | [_, _], _ => rfl⟩
  have F16 := fun_mk (st := sLessT) l16 c16 k16
  have D16 : Df K mg "less" sLessT ["table", "other"] f16 _ := ⟨F16, PySem.W.mg_of X G a16, F16.binds (ps := ["table", "other"]) fun _ _ _ _ _ _ us hl => match us, hl with | [_, _], _ => rfl⟩
  have F17 := fun_mk (st := sAboutT) l17 c17 k17
  have D17 : Df K mg "about" sAboutT ["table"] f17 _ := ⟨F17, PySem.W.mg_of X G a17, F17.binds (ps := ["table"]) fun _ _ _ _ _ _ us hl => match us, hl with | [_], _ => rfl⟩
  have F18 := fun_mk (st := sPot) l18 c18 k18
  have D18 : Df K mg "_law_pot" sPot ["_law_script", "_law_k"] f18 _ := ⟨F18, PySem.W.mg_of X G a18, F18.binds (ps := ["_law_script", "_law_k"]) fun _ _ _ _ _ _ us hl => match us, hl with | [_, _], _ => rfl⟩
  have F19 := fun_mk (st := sDraw) l19 c19 k19
  have D19 : Df K mg "_law_draw" sDraw ["_law_pot_here", "_law_room"] f19 _ := ⟨F19, PySem.W.mg_of X G a19, F19.binds (ps := ["_law_pot_here", "_law_room"]) fun _ _ _ _ _ _ us hl => match us, hl with | [_, _], _ => rfl⟩
  have F20 := fun_mk (st := sPick) l20 c20 k20
  have D20 : Df K mg "_law_pick" sPick ["_law_pot_here", "_law_some"] f20 _ := ⟨F20, PySem.W.mg_of X G a20, F20.binds (ps := ["_law_pot_here", "_law_some"]) fun _ _ _ _ _ _ us hl => match us, hl with | [_, _], _ => rfl⟩
  have F21 := fun_mk (st := sLowR) l21 c21 k21
  have D21 : Df K mg "_law_low" sLowR ["_law_top", "_law_bottom"] f21 _ := ⟨F21, PySem.W.mg_of X G a21, F21.binds (ps := ["_law_top", "_law_bottom"]) fun _ _ _ _ _ _ us hl => match us, hl with | [_, _], _ => rfl⟩
  have F22 := fun_mk (st := sSumR) l22 c22 k22
  have D22 : Df K mg "_law_sum" sSumR ["_law_one", "_law_other"] f22 _ := ⟨F22, PySem.W.mg_of X G a22, F22.binds (ps := ["_law_one", "_law_other"]) fun _ _ _ _ _ _ us hl => match us, hl with | [_, _], _ => rfl⟩
  have F23 := fun_mk (st := sByR) l23 c23 k23
  have D23 : Df K mg "_law_by" sByR ["_law_one", "_law_other"] f23 _ := ⟨F23, PySem.W.mg_of X G a23, F23.binds (ps := ["_law_one", "_law_other"]) fun _ _ _ _ _ _ us hl => match us, hl with | [_, _], _ => rfl⟩
  have F24 := fun_mk (st := sLessR) l24 c24 k24
  have D24 : Df K mg "_law_less" sLessR ["_law_one", "_law_other"] f24 _ := ⟨F24, PySem.W.mg_of X G a24, F24.binds (ps := ["_law_one", "_law_other"]) fun _ _ _ _ _ _ us hl => match us, hl with | [_, _], _ => rfl⟩
  have F25 := fun_mk (st := sTotR) l25 c25 k25
  have D25 : Df K mg "_law_total" sTotR ["_law_some"] f25 _ := ⟨F25, PySem.W.mg_of X G a25, F25.binds (ps := ["_law_some"]) fun _ _ _ _ _ _ us hl => match us, hl with | [_], _ => rfl⟩
  have F26 := fun_mk (st := sDotR) l26 c26 k26
  have D26 : Df K mg "_law_dot" sDotR ["_law_row_here", "_law_other"] f26 _ := ⟨F26, PySem.W.mg_of X G a26, F26.binds (ps := ["_law_row_here", "_law_other"]) fun _ _ _ _ _ _ us hl => match us, hl with | [_, _], _ => rfl⟩
  have F27 := fun_mk (st := sIdleR) l27 c27 k27
  have D27 : Df K mg "_law_idle" sIdleR ["_law_size"] f27 _ := ⟨F27, PySem.W.mg_of X G a27, F27.binds (ps := ["_law_size"]) fun _ _ _ _ _ _ us hl => match us, hl with | [_], _ => rfl⟩
  have F28 := fun_mk (st := sColR) l28 c28 k28
  have D28 : Df K mg "_law_columns" sColR ["_law_table_here"] f28 _ := ⟨F28, PySem.W.mg_of X G a28, F28.binds (ps := ["_law_table_here"]) fun _ _ _ _ _ _ us hl => match us, hl with | [_], _ => rfl⟩
  have F29 := fun_mk (st := sLedR) l29 c29 k29
  have D29 : Df K mg "_law_led" sLedR ["_law_row_here", "_law_table_here"] f29 _ := ⟨F29, PySem.W.mg_of X G a29, F29.binds (ps := ["_law_row_here", "_law_table_here"]) fun _ _ _ _ _ _ us hl => match us, hl with | [_, _], _ => rfl⟩
  have F30 := fun_mk (st := sTimR) l30 c30 k30
  have D30 : Df K mg "_law_times" sTimR ["_law_table_here", "_law_other"] f30 _ := ⟨F30, PySem.W.mg_of X G a30, F30.binds (ps := ["_law_table_here", "_law_other"]) fun _ _ _ _ _ _ us hl => match us, hl with | [_, _], _ => rfl⟩
  have F31 := fun_mk (st := sPasR) l31 c31 k31
  have D31 : Df K mg "_law_passed" sPasR ["_law_pot_here", "_law_pair_here"] f31 _ := ⟨F31, PySem.W.mg_of X G a31, F31.binds (ps := ["_law_pot_here", "_law_pair_here"]) fun _ _ _ _ _ _ us hl => match us, hl with | [_, _], _ => rfl⟩
  have F32 := fun_mk (st := sGivRow) l32 c32 k32
  have D32 : Df K mg "_law_given_row" sGivRow ["_law_pot_here", "_law_row_here"] f32 _ := ⟨F32, PySem.W.mg_of X G a32, F32.binds (ps := ["_law_pot_here", "_law_row_here"]) fun _ _ _ _ _ _ us hl => match us, hl with | [_, _], _ => rfl⟩
  have F33 := fun_mk (st := sGivR) l33 c33 k33
  have D33 : Df K mg "_law_given" sGivR ["_law_pot_here", "_law_rows_here"] f33 _ := ⟨F33, PySem.W.mg_of X G a33, F33.binds (ps := ["_law_pot_here", "_law_rows_here"]) fun _ _ _ _ _ _ us hl => match us, hl with | [_, _], _ => rfl⟩
  have F34 := fun_mk (st := sRtPair) l34 c34 k34
  have D34 : Df K mg "_law_pair" sRtPair ["_law_value"] f34 _ := ⟨F34, PySem.W.mg_of X G a34, F34.binds (ps := ["_law_value"]) fun _ _ _ _ _ _ us hl => match us, hl with | [_], _ => rfl⟩
  have F35 := fun_mk (st := sRtPairs) l35 c35 k35
  have D35 : Df K mg "_law_pairs" sRtPairs ["_law_value"] f35 _ := ⟨F35, PySem.W.mg_of X G a35, F35.binds (ps := ["_law_value"]) fun _ _ _ _ _ _ us hl => match us, hl with | [_], _ => rfl⟩
  have F36 := fun_mk (st := sRowsR) l36 c36 k36
  have D36 : Df K mg "_law_rows" sRowsR ["_law_value"] f36 _ := ⟨F36, PySem.W.mg_of X G a36, F36.binds (ps := ["_law_value"]) fun _ _ _ _ _ _ us hl => match us, hl with | [_], _ => rfl⟩
  have F37 := fun_mk (st := sEntR) l37 c37 k37
  have D37 : Df K mg "_law_entry" sEntR ["_law_pot_here"] f37 _ := ⟨F37, PySem.W.mg_of X G a37, F37.binds (ps := ["_law_pot_here"]) fun _ _ _ _ _ _ us hl => match us, hl with | [_], _ => rfl⟩
  have F38 := fun_mk (st := sRowR) l38 c38 k38
  have D38 : Df K mg "_law_row" sRowR ["_law_pot_here", "_law_wide"] f38 _ := ⟨F38, PySem.W.mg_of X G a38, F38.binds (ps := ["_law_pot_here", "_law_wide"]) fun _ _ _ _ _ _ us hl => match us, hl with | [_, _], _ => rfl⟩
  have F39 := fun_mk (st := sListR) l39 c39 k39
  have D39 : Df K mg "_law_list" sListR ["_law_pot_here", "_law_wide", "_law_many"] f39 _ := ⟨F39, PySem.W.mg_of X G a39, F39.binds (ps := ["_law_pot_here", "_law_wide", "_law_many"]) fun _ _ _ _ _ _ us hl => match us, hl with | [_, _, _], _ => rfl⟩
  have F40 := fun_mk (st := sTableR) l40 c40 k40
  have D40 : Df K mg "_law_table" sTableR ["_law_pot_here", "_law_size"] f40 _ := ⟨F40, PySem.W.mg_of X G a40, F40.binds (ps := ["_law_pot_here", "_law_size"]) fun _ _ _ _ _ _ us hl => match us, hl with | [_, _], _ => rfl⟩
  have F41 := fun_mk (st := sOne13) l41 c41 k41
  have D41 : Df K mg "_law_one_right" sOne13 ["_law_pot_here", "_law_size"] f41 _ := ⟨F41, PySem.W.mg_of X G a41, F41.binds (ps := ["_law_pot_here", "_law_size"]) fun _ _ _ _ _ _ us hl => match us, hl with | [_, _], _ => rfl⟩
  have F42 := fun_mk (st := sRul13) l42 c42 k42
  have D42 : Df K mg "_law_rules_right" sRul13 ["_law_pot_here", "_law_size"] f42 _ := ⟨F42, PySem.W.mg_of X G a42, F42.binds (ps := ["_law_pot_here", "_law_size"]) fun _ _ _ _ _ _ us hl => match us, hl with | [_, _], _ => rfl⟩
  have F43 := fun_mk (st := sRight) l43 c43 k43
  have D43 : Df K mg "_law_right" sRight ["_law_pot_here"] f43 _ := ⟨F43, PySem.W.mg_of X G a43, F43.binds (ps := ["_law_pot_here"]) fun _ _ _ _ _ _ us hl => match us, hl with | [_], _ => rfl⟩
  have F44 := fun_mk (st := sLaw) l44 c44 k44
  have F45 := fun_mk (st := sRAdd) l45 c45 k45
  have b45 := F45.binds (ps := ["self", "other"]) fun _ _ _ _ _ _ us hl => match us, hl with | [_, _], _ => rfl
  have F46 := fun_mk (st := sRRadd) l46 c46 k46
  have b46 := F46.binds (ps := ["self", "other"]) fun _ _ _ _ _ _ us hl => match us, hl with | [_, _], _ => rfl
  have F47 := fun_mk (st := sRSub) l47 c47 k47
  have b47 := F47.binds (ps := ["self", "other"]) fun _ _ _ _ _ _ us hl => match us, hl with | [_, _], _ => rfl
  have F48 := fun_mk (st := sRRsub) l48 c48 k48
  have b48 := F48.binds (ps := ["self", "other"]) fun _ _ _ _ _ _ us hl => match us, hl with | [_, _], _ => rfl
  have F49 := fun_mk (st := sRMul) l49 c49 k49
  have b49 := F49.binds (ps := ["self", "other"]) fun _ _ _ _ _ _ us hl => match us, hl with | [_, _], _ => rfl
  have F50 := fun_mk (st := sRRmul) l50 c50 k50
  have b50 := F50.binds (ps := ["self", "other"]) fun _ _ _ _ _ _ us hl => match us, hl with | [_, _], _ => rfl
  have F51 := fun_mk (st := sRNeg) l51 c51 k51
  have b51 := F51.binds (ps := ["self"]) fun _ _ _ _ _ _ us hl => match us, hl with | [_], _ => rfl
  have F52 := fun_mk (st := sRSize) l52 c52 k52
  have b52 := F52.binds (ps := ["self"]) fun _ _ _ _ _ _ us hl => match us, hl with | [_], _ => rfl
  have F53 := fun_mk (st := sREq) l53 c53 k53
  have b53 := F53.binds (ps := ["self", "other"]) fun _ _ _ _ _ _ us hl => match us, hl with | [_, _], _ => rfl
  have F54 := fun_mk (st := sRStr) l54 c54 k54
  have b54 := F54.binds (ps := ["self"]) fun _ _ _ _ _ _ us hl => match us, hl with | [_], _ => rfl
  have F55 := fun_mk (st := sRRepr) l55 c55 k55
  have b55 := F55.binds (ps := ["self"]) fun _ _ _ _ _ _ us hl => match us, hl with | [_], _ => rfl
  have F56 := fun_mk (st := sRTop) l56 c56 k56
  have b56 := F56.binds (ps := ["self"]) fun _ _ _ _ _ _ us hl => match us, hl with | [_], _ => rfl
  have F57 := fun_mk (st := sRBot) l57 c57 k57
  have b57 := F57.binds (ps := ["self"]) fun _ _ _ _ _ _ us hl => match us, hl with | [_], _ => rfl
  have F58 := fun_mk (st := sRSign) l58 c58 k58
  have b58 := F58.binds (ps := ["self"]) fun _ _ _ _ _ _ us hl => match us, hl with | [_], _ => rfl
  have F60 := fun_mk (st := sRTotal) l60 c60 k60
  have b60 := F60.binds (ps := ["cls", "numbers"]) fun _ _ _ _ _ _ us hl => match us, hl with | [_, _], _ => rfl
  have FI : FunD K "__init__" "Ratio.__init__" (defArgs sRInit) (defBody sRInit) (defScope sRInit) [.int 1] [] f59 _ := ⟨⟨_, _, _, _, _, _, _, _, _, _, rfl, l59, c59, .inr ⟨by simp, T1, _, [.int 1 tkT], nT, rfl, lT, rfl, .cons ⟨tkT, rfl⟩ .nil⟩, .inl rfl⟩, k59⟩
  have T : RtC K mg C := ⟨⟨q1, q2, q3, q4⟩, n1, n2, PySem.W.mg_of X G aC, PySem.W.mg_of X G aG⟩
  have I : C8.InsC K C := ⟨T.cl, w1, w2, w3, w4, kit_self⟩
  have MI : Mk K C f59 := ⟨q5, a59, i59, q6⟩
  have M : RtM K mg C f59 _ := ⟨T, I, kit_no kc kt s1 rfl, kr, MI, FI, rinit_b FI, rinit_b1 FI⟩
  have Zp : RtP K C p0 f56 p1 f57 _ _ := ⟨⟨pa0, pg0, pt0, ⟨_, pr0⟩⟩, F56, b56, ⟨pa1, pg1, pt1, ⟨_, pr1⟩⟩, F57, b57⟩
  have pS : PropOf K C "sign" p2 f58 := ⟨pa2, pg2, pt2, ⟨_, pr2⟩⟩
  have TA : NeO.BinT K C f45 "add" := ⟨sf, a45, i45, ⟨_, a46, .inr ⟨_, rfl⟩⟩, ⟨_, tadd⟩, ⟨_, radd⟩, s1⟩
  have TS : NeO.BinT K C f47 "sub" := ⟨sf, a47, i47, ⟨_, a48, .inr ⟨_, rfl⟩⟩, ⟨_, tsub⟩, ⟨_, rsub⟩, s1⟩
  have TM : NeO.BinT K C f49 "mul" := ⟨sf, a49, i49, ⟨_, a50, .inr ⟨_, rfl⟩⟩, ⟨_, tmul⟩, ⟨_, rmul⟩, s1⟩
  have RA : NeO.BinR K C f46 "add" := ⟨sf, ⟨_, a45⟩, a46, i46, s2⟩
  have RS : NeO.BinR K C f48 "sub" := ⟨sf, ⟨_, a47⟩, a48, i48, s2⟩
  have RM : NeO.BinR K C f50 "mul" := ⟨sf, ⟨_, a49⟩, a50, i50, s2⟩
  refine ⟨PySem.W.fnOf "law" "law" (defArgs sLaw) (defBody sLaw) (defScope sLaw) .none kV44 dc44 pm44 an44 cd44 ct44, fun s v => .of_eq rfl, fun base _ _ => ?_⟩
  have GI : FnOk P w K mg base CX0 2 f59 _ ["self", "top", "bottom"] (spRInit C) := ok_rinit FI T D0 B
  have GAd : FnOk P w K mg base CX0 5 f45 _ ["self", "other"] (spBin C addQ) := ok_radd F45 M Zp D0 D4 B
  have GSu : FnOk P w K mg base CX0 5 f47 _ ["self", "other"] (spBin C subQ) := ok_rsub F47 M Zp D0 D4 B
  have GMu : FnOk P w K mg base CX0 5 f49 _ ["self", "other"] (spBin C mulQ) := ok_rmul F49 M Zp D0 D4 B
  have GRa : FnOk P w K mg base CX0 6 f46 _ ["self", "other"] (spRev C addQ) := ok_rradd F46 M D0 D4 sf a45 i45 b45 GAd B
  have GRs : FnOk P w K mg base CX0 6 f48 _ ["self", "other"] (spRev C subQ) := ok_rrsub F48 M D0 D4 sf a47 i47 b47 GSu B
  have GRm : FnOk P w K mg base CX0 6 f50 _ ["self", "other"] (spRev C mulQ) := ok_rrmul F50 M D0 D4 sf a49 i49 b49 GMu B
  have GTo : FnOk P w K mg base CX0 6 f60 _ ["cls", "numbers"] (spTotal K C) := ok_total F60 M D0 D2 TA b45 GAd B
  have GPr : FnOk P w K mg base CX0 3 f34 _ ["_law_value"] (spPairR K C) := ok_pairR D34.F M Zp B
  have GSm : FnOk P w K mg base CX0 2 f22 _ ["_law_one", "_law_other"] (spTwoR K addQ) := ok_sumR D22.F D21 B
  have GBy : FnOk P w K mg base CX0 2 f23 _ ["_law_one", "_law_other"] (spTwoR K mulQ) := ok_byR D23.F D21 B
  have GLs : FnOk P w K mg base CX0 3 f24 _ ["_law_one", "_law_other"] (spTwoR K subQ) := ok_lessR D24.F D22 GSm
  have GTt : FnOk P w K mg base CX0 3 f25 _ ["_law_some"] (spTotR K) := ok_totR D25.F D22 GSm
  have GDt : FnOk P w K mg base CX0 4 f26 _ ["_law_row_here", "_law_other"] (spDotR K) := ok_dotR D26.F D25 GTt D23 GBy B
  have GCo : FnOk P w K mg base CX0 1 f28 _ ["_law_table_here"] (spColR K) := ok_colR D28.F B
  have GLd : FnOk P w K mg base CX0 5 f29 _ ["_law_row_here", "_law_table_here"] (spLedR K) := ok_ledR D29.F D28 GCo D26 GDt
  have GTi : FnOk P w K mg base CX0 6 f30 _ ["_law_table_here", "_law_other"] (spTimR K) := ok_timR D30.F D29 GLd
  have GPk : FnOk P w K mg base CX0 2 f20 _ ["_law_pot_here", "_law_some"] (spPick K) := ok_pick D20.F D19 B
  have GEn : FnOk P w K mg base CX0 3 f37 _ ["_law_pot_here"] (spEntR K) := ok_entR D37.F D20 GPk
  have GRw : FnOk P w K mg base CX0 4 f38 _ ["_law_pot_here", "_law_wide"] (spRowR K) := ok_rowR D38.F D37 GEn B
  have GLi : FnOk P w K mg base CX0 5 f39 _ ["_law_pot_here", "_law_wide", "_law_many"] (spListR K) := ok_listR D39.F D38 GRw B
  have GTb : FnOk P w K mg base CX0 6 f40 _ ["_law_pot_here", "_law_size"] (spTableR K) := ok_tableR D40.F D39 GLi D19 D37 GEn D23 GBy B
  have GPa : FnOk P w K mg base CX0 4 f31 _ ["_law_pot_here", "_law_pair_here"] (spPasR K C) := ok_pasR D31.F M D19 D0 B
  have GGr : FnOk P w K mg base CX0 5 f32 _ ["_law_pot_here", "_law_row_here"] (spGivRow K C) := ok_givRow D32.F D19 D31 GPa B
  have GGi : FnOk P w K mg base CX0 6 f33 _ ["_law_pot_here", "_law_rows_here"] (spGivR K C) := ok_givR D33.F D19 D32 GGr B
  have GPn : FnOk P w K mg base CX0 4 f35 _ ["_law_value"] (spPairsN K C) := ok_pairsN D35.F D34 GPr B
  have GRn : FnOk P w K mg base CX0 5 f36 _ ["_law_value"] (spRowsN K C) := ok_rowsN D36.F D35 GPn B
  have GIs : FnOk P w K mg base CX0 3 f8 _ ["value"] (spIsSize) := ok_isSize D8.F D0 D1 (PySem.W.mg_of X G mc0) B
  have GCs : FnOk P w K mg base CX0 4 f9 _ ["size"] (spChkSize) := ok_chkSize D9.F D8 GIs
  have GTa : FnOk P w K mg base CX0 4 f10 _ ["value"] (spIsTabT K C) := ok_isTabT D10.F M D0 D3 D5 D2 D8 GIs B
  have GCt : FnOk P w K mg base CX0 5 f11 _ ["table"] (spChkTab K C) := ok_chkTab D11.F D10 GTa
  have GC2 : FnOk P w K mg base CX0 6 f12 _ ["table", "other"] (spChkTwo K C) := ok_chkTwo D12.F D11 GCt B
  have GTd : FnOk P w K mg base CX0 5 f7 _ ["rows"] (spToldQ K C) := ok_toldQ D7.F M D0 D4 B
  have GLe : FnOk P w K mg base CX0 7 f6 _ ["numbers", "other"] (spLedQ K C) := ok_ledQ D6.F T.mgC TM GMu b49 RM GRm b50 ⟨rd, ga⟩ ⟨ca, ⟨_, cr⟩, cf⟩ GTo b60 B
  have GLt : FnOk P w K mg base CX0 7 f16 _ ["table", "other"] (spLessT K C) := ok_lessT D16.F D12 GC2 D7 GTd TS GSu b47 B
  have GAb : FnOk P w K mg base CX0 7 f17 _ ["table"] (spAboutT K C) := ok_aboutT D17.F D11 GCt D7 GTd B
  have GTm : FnOk P w K mg base CX0 8 f15 _ ["table", "other"] (spTimesT K C) := ok_timesT D15.F D12 GC2 D17 GAb D6 GLe B
  have GTw : FnOk P w K mg base CX0 5 f13 _ ["line", "pairs", "number"] (spTabWith K C) := ok_tabWith D13.F M D0 D4 B
  have GId : FnOk P w K mg base CX0 6 f14 _ ["size"] (spIdleT C) := ok_idleT D14.F D9 GCs D13 GTw
  have Z : Calls13 P w K mg base C :=
    { table := ⟨_, _, D40, GTb⟩, given := ⟨_, _, D33, GGi⟩,
       times := ⟨_, _, D15, GTm, fun s ws h => match ws, h with | [_, _], _ => .of_eq rfl⟩, less := ⟨_, _, D16, GLt, fun s ws h => match ws, h with | [_, _], _ => .of_eq rfl⟩, about := ⟨_, _, D17, GAb, fun s ws h => match ws, h with | [_], _ => .of_eq rfl⟩, idle := ⟨_, _, D14, GId, fun s ws h => match ws, h with | [_], _ => .of_eq rfl⟩,
       ltimes := ⟨_, _, D30, GTi⟩, lless := ⟨_, _, D24, GLs⟩, rows := ⟨_, _, D36, GRn⟩,
       eq := ⟨_, _, a53, i53, ok_req F53 M B, b53⟩, rep := ⟨_, _, a55, i55, ok_rrepr F55 T, b55⟩ }
  have Y : Calls13b P w K mg base C :=
    { one := ⟨_, _, D41, ok_one13 D41.F Z B⟩, rules := ⟨_, _, D42, ok_rul13 D42.F Z B⟩,
       draw := ⟨_, _, D19, ok_draw D19.F B⟩, lidle := ⟨_, _, D27, ok_idleR D27.F B⟩,
       make := ⟨_, _, M, GI⟩, str := ⟨_, _, a54, i54, ok_rstr F54 T ms, b54⟩, ms := ms }
  exact ok_lawR F44 D18 D43 (ok_rt13 D43.F Z Y B) B
theorem walk {l : PySem.W.OpenLaw} {q : Program} {loose : List Str} {XP : (Str → Option Value) → Heap → Prop} {YP : World → Heap → Prop} {d : DefRec} {K : Params → PySem.W.Frag} (hn : l.most = some 63) (hdf : d.params.defaults = [])
    (hY : ∀ (w : World) (h : Heap), YP w h → (K w.params).In h)
    (F : ∀ (w : World) (mg : Str → Option Value) (fa : Addr) (h : Heap), (K w.params).In h → h.Ns mainGlobals mg → mg d.name = some (.ref fa) →
      ∃ fd : FuncData, (∀ (s : Shared) (u : Value), BindsTo s fd ⟨[u], []⟩ [("_law_script", u)]) ∧ ∀ base : Heap, (K w.params).In base → base.Ns mainGlobals mg → FnG l.prog w (K w.params) mg base 11 fa fd ["_law_script"] (spLawR (K w.params))) :
    PySem.W.WalkO q loose XP YP l.row.toRowW d [] (fun f vs => PySem.call f vs) :=
  walkG (n := 63) (k := 11) (x := "_law_script") (sp := fun w => spLawR (K w.params)) hn (by decide) hdf ⟨rfl, by decide, by decide⟩ hY F (fun _ _ a ns _ _ _ hS => ⟨a, ns, rfl, hS, fun _ => rfl⟩)
end Tk
open PySem PySem.W PyProof.Rows
set_option maxRecDepth 100000 in
set_option maxHeartbeats 0 in
theorem PySem.Challenge.cw_toldpushes_k13_whole_products_and_differ_holds : PySem.Challenge.rw_toldpushes_k13_whole_products_and_differ.Holds := by
  w_on; o_law; k_head; (case hw => w_witness2)
  k_fill
  refine Tk.walk (l := PySem.Challenge.rw_toldpushes_k13_whole_products_and_differ) rfl rfl (fun w h Y => PySem.W.kIn_of Y) ?F
  case F =>
    intro w mg fa h KX G hmg
    refine' Tk.all_mk KX G hmg ?aC ?aG ?a0 ?l0 ?c0 ?k0 ?a1 ?l1 ?c1 ?k1 ?a2 ?l2 ?c2 ?k2 ?a3 ?l3 ?c3 ?k3 ?a4 ?l4 ?c4 ?k4 ?a5 ?l5 ?c5 ?k5 ?a6 ?l6 ?c6 ?k6 ?a7 ?l7 ?c7 ?k7 ?a8 ?l8 ?c8 ?k8 ?a9 ?l9 ?c9 ?k9 ?a10 ?l10 ?c10 ?k10 ?a11 ?l11 ?c11 ?k11 ?a12 ?l12 ?c12 ?k12 ?a13 ?l13 ?c13 ?k13 ?a14 ?l14 ?c14 ?k14 ?a15 ?l15 ?c15 ?k15 ?a16 ?l16 ?c16 ?k16 ?a17 ?l17 ?c17 ?k17 ?a18 ?l18 ?c18 ?k18 ?a19 ?l19 ?c19 ?k19 ?a20 ?l20 ?c20 ?k20 ?a21 ?l21 ?c21 ?k21 ?a22 ?l22 ?c22 ?k22 ?a23 ?l23 ?c23 ?k23 ?a24 ?l24 ?c24 ?k24 ?a25 ?l25 ?c25 ?k25 ?a26 ?l26 ?c26 ?k26 ?a27 ?l27 ?c27 ?k27 ?a28 ?l28 ?c28 ?k28 ?a29 ?l29 ?c29 ?k29 ?a30 ?l30 ?c30 ?k30 ?a31 ?l31 ?c31 ?k31 ?a32 ?l32 ?c32 ?k32 ?a33 ?l33 ?c33 ?k33 ?a34 ?l34 ?c34 ?k34 ?a35 ?l35 ?c35 ?k35 ?a36 ?l36 ?c36 ?k36 ?a37 ?l37 ?c37 ?k37 ?a38 ?l38 ?c38 ?k38 ?a39 ?l39 ?c39 ?k39 ?a40 ?l40 ?c40 ?k40 ?a41 ?l41 ?c41 ?k41 ?a42 ?l42 ?c42 ?k42 ?a43 ?l43 ?c43 ?k43 ?a44 ?l44 ?c44 ?k44 ?a45 ?i45 ?l45 ?c45 ?k45 ?a46 ?i46 ?l46 ?c46 ?k46 ?a47 ?i47 ?l47 ?c47 ?k47 ?a48 ?i48 ?l48 ?c48 ?k48 ?a49 ?i49 ?l49 ?c49 ?k49 ?a50 ?i50 ?l50 ?c50 ?k50 ?a51 ?i51 ?l51 ?c51 ?k51 ?a52 ?i52 ?l52 ?c52 ?k52 ?a53 ?i53 ?l53 ?c53 ?k53 ?a54 ?i54 ?l54 ?c54 ?k54 ?a55 ?i55 ?l55 ?c55 ?k55 ?pa0 ?pg0 ?pt0 ?pr0 ?l56 ?c56 ?k56 ?pa1 ?pg1 ?pt1 ?pr1 ?l57 ?c57 ?k57 ?pa2 ?pg2 ?pt2 ?pr2 ?l58 ?c58 ?k58 ?a59 ?i59 ?l59 ?c59 ?k59 ?lT ?rd ?ga ?ca ?cr ?l60 ?c60 ?k60 ?cf ?sf ?tadd ?radd ?tsub ?rsub ?tmul ?rmul ?s1 ?s2 ?nf ?kc ?kt ?ks0 ?ks1 ?ks2 ?ks3 ?ks4 ?kr ?q1 ?q2 ?q3 ?q4 ?q5 ?q6 ?n1 ?n2 ?w1 ?w2 ?w3 ?w4 ?ne ?mc0 ?z_isinstance ?z_int ?z_bool ?z_list ?z_tuple ?z_len ?z_all ?z_any ?z_set ?z_range ?z_sorted ?z_sum ?z_abs ?z_max ?z_min ?z_divmod ?z_repr ?z_enumerate ?z_zip ?z_str
    (case aC => first | k_is | rfl | decide +kernel)
    (case aG => first | k_is | rfl | decide +kernel)
    (case a0 => first | k_is | rfl | decide +kernel)
    (case l0 => first | k_is | rfl | decide +kernel)
    (case c0 => first | k_is | rfl | decide +kernel)
    (case k0 => first | k_is | rfl | decide +kernel)
    (case a1 => first | k_is | rfl | decide +kernel)
    (case l1 => first | k_is | rfl | decide +kernel)
    (case c1 => first | k_is | rfl | decide +kernel)
    (case k1 => first | k_is | rfl | decide +kernel)
    (case a2 => first | k_is | rfl | decide +kernel)
    (case l2 => first | k_is | rfl | decide +kernel)
    (case c2 => first | k_is | rfl | decide +kernel)
    (case k2 => first | k_is | rfl | decide +kernel)
    (case a3 => first | k_is | rfl | decide +kernel)
    (case l3 => first | k_is | rfl | decide +kernel)
    (case c3 => first | k_is | rfl | decide +kernel)
    (case k3 => first | k_is | rfl | decide +kernel)
    (case a4 => first | k_is | rfl | decide +kernel)
    (case l4 => first | k_is | rfl | decide +kernel)
    (case c4 => first | k_is | rfl | decide +kernel)
    (case k4 => first | k_is | rfl | decide +kernel)
    (case a5 => first | k_is | rfl | decide +kernel)
    (case l5 => first | k_is | rfl | decide +kernel)
    (case c5 => first | k_is | rfl | decide +kernel)
    (case k5 => first | k_is | rfl | decide +kernel)
    (case a6 => first | k_is | rfl | decide +kernel)
    (case l6 => first | k_is | rfl | decide +kernel)
    (case c6 => first | k_is | rfl | decide +kernel)
    (case k6 => first | k_is | rfl | decide +kernel)
    (case a7 => first | k_is | rfl | decide +kernel)
    (case l7 => first | k_is | rfl | decide +kernel)
    (case c7 => first | k_is | rfl | decide +kernel)
    (case k7 => first | k_is | rfl | decide +kernel)
    (case a8 => first | k_is | rfl | decide +kernel)
    (case l8 => first | k_is | rfl | decide +kernel)
    (case c8 => first | k_is | rfl | decide +kernel)
    (case k8 => first | k_is | rfl | decide +kernel)
    (case a9 => first | k_is | rfl | decide +kernel)
    (case l9 => first | k_is | rfl | decide +kernel)
    (case c9 => first | k_is | rfl | decide +kernel)
    (case k9 => first | k_is | rfl | decide +kernel)
    (case a10 => first | k_is | rfl | decide +kernel)
    (case l10 => first | k_is | rfl | decide +kernel)
    (case c10 => first | k_is | rfl | decide +kernel)
    (case k10 => first | k_is | rfl | decide +kernel)
    (case a11 => first | k_is | rfl | decide +kernel)
    (case l11 => first | k_is | rfl | decide +kernel)
    (case c11 => first | k_is | rfl | decide +kernel)
    (case k11 => first | k_is | rfl | decide +kernel)
    (case a12 => first | k_is | rfl | decide +kernel)
    (case l12 => first | k_is | rfl | decide +kernel)
    (case c12 => first | k_is | rfl | decide +kernel)
    (case k12 => first | k_is | rfl | decide +kernel)
    (case a13 => first | k_is | rfl | decide +kernel)
    (case l13 => first | k_is | rfl | decide +kernel)
    (case c13 => first | k_is | rfl | decide +kernel)
    (case k13 => first | k_is | rfl | decide +kernel)
    (case a14 => first | k_is | rfl | decide +kernel)
    (case l14 => first | k_is | rfl | decide +kernel)
    (case c14 => first | k_is | rfl | decide +kernel)
    (case k14 => first | k_is | rfl | decide +kernel)
    (case a15 => first | k_is | rfl | decide +kernel)
    (case l15 => first | k_is | rfl | decide +kernel)
    (case c15 => first | k_is | rfl | decide +kernel)
    (case k15 => first | k_is | rfl | decide +kernel)
    (case a16 => first | k_is | rfl | decide +kernel)
    (case l16 => first | k_is | rfl | decide +kernel)
    (case c16 => first | k_is | rfl | decide +kernel)
    (case k16 => first | k_is | rfl | decide +kernel)
    (case a17 => first | k_is | rfl | decide +kernel)
    (case l17 => first | k_is | rfl | decide +kernel)
    (case c17 => first | k_is | rfl | decide +kernel)
    (case k17 => first | k_is | rfl | decide +kernel)
    (case a18 => first | k_is | rfl | decide +kernel)
    (case l18 => first | k_is | rfl | decide +kernel)
    (case c18 => first | k_is | rfl | decide +kernel)
    (case k18 => first | k_is | rfl | decide +kernel)
    (case a19 => first | k_is | rfl | decide +kernel)
    (case l19 => first | k_is | rfl | decide +kernel)
    (case c19 => first | k_is | rfl | decide +kernel)
    (case k19 => first | k_is | rfl | decide +kernel)
    (case a20 => first | k_is | rfl | decide +kernel)
    (case l20 => first | k_is | rfl | decide +kernel)
    (case c20 => first | k_is | rfl | decide +kernel)
    (case k20 => first | k_is | rfl | decide +kernel)
    (case a21 => first | k_is | rfl | decide +kernel)
    (case l21 => first | k_is | rfl | decide +kernel)
    (case c21 => first | k_is | rfl | decide +kernel)
    (case k21 => first | k_is | rfl | decide +kernel)
    (case a22 => first | k_is | rfl | decide +kernel)
    (case l22 => first | k_is | rfl | decide +kernel)
    (case c22 => first | k_is | rfl | decide +kernel)
    (case k22 => first | k_is | rfl | decide +kernel)
    (case a23 => first | k_is | rfl | decide +kernel)
    (case l23 => first | k_is | rfl | decide +kernel)
    (case c23 => first | k_is | rfl | decide +kernel)
    (case k23 => first | k_is | rfl | decide +kernel)
    (case a24 => first | k_is | rfl | decide +kernel)
    (case l24 => first | k_is | rfl | decide +kernel)
    (case c24 => first | k_is | rfl | decide +kernel)
    (case k24 => first | k_is | rfl | decide +kernel)
    (case a25 => first | k_is | rfl | decide +kernel)
    (case l25 => first | k_is | rfl | decide +kernel)
    (case c25 => first | k_is | rfl | decide +kernel)
    (case k25 => first | k_is | rfl | decide +kernel)
    (case a26 => first | k_is | rfl | decide +kernel)
    (case l26 => first | k_is | rfl | decide +kernel)
    (case c26 => first | k_is | rfl | decide +kernel)
    (case k26 => first | k_is | rfl | decide +kernel)
    (case a27 => first | k_is | rfl | decide +kernel)
    (case l27 => first | k_is | rfl | decide +kernel)
    (case c27 => first | k_is | rfl | decide +kernel)
    (case k27 => first | k_is | rfl | decide +kernel)
    (case a28 => first | k_is | rfl | decide +kernel)
    (case l28 => first | k_is | rfl | decide +kernel)
    (case c28 => first | k_is | rfl | decide +kernel)
    (case k28 => first | k_is | rfl | decide +kernel)
    (case a29 => first | k_is | rfl | decide +kernel)
    (case l29 => first | k_is | rfl | decide +kernel)
    (case c29 => first | k_is | rfl | decide +kernel)
    (case k29 => first | k_is | rfl | decide +kernel)
    (case a30 => first | k_is | rfl | decide +kernel)
    (case l30 => first | k_is | rfl | decide +kernel)
    (case c30 => first | k_is | rfl | decide +kernel)
    (case k30 => first | k_is | rfl | decide +kernel)
    (case a31 => first | k_is | rfl | decide +kernel)
    (case l31 => first | k_is | rfl | decide +kernel)
    (case c31 => first | k_is | rfl | decide +kernel)
    (case k31 => first | k_is | rfl | decide +kernel)
    (case a32 => first | k_is | rfl | decide +kernel)
    (case l32 => first | k_is | rfl | decide +kernel)
    (case c32 => first | k_is | rfl | decide +kernel)
    (case k32 => first | k_is | rfl | decide +kernel)
    (case a33 => first | k_is | rfl | decide +kernel)
    (case l33 => first | k_is | rfl | decide +kernel)
    (case c33 => first | k_is | rfl | decide +kernel)
    (case k33 => first | k_is | rfl | decide +kernel)
    (case a34 => first | k_is | rfl | decide +kernel)
    (case l34 => first | k_is | rfl | decide +kernel)
    (case c34 => first | k_is | rfl | decide +kernel)
    (case k34 => first | k_is | rfl | decide +kernel)
    (case a35 => first | k_is | rfl | decide +kernel)
    (case l35 => first | k_is | rfl | decide +kernel)
    (case c35 => first | k_is | rfl | decide +kernel)
    (case k35 => first | k_is | rfl | decide +kernel)
    (case a36 => first | k_is | rfl | decide +kernel)
    (case l36 => first | k_is | rfl | decide +kernel)
    (case c36 => first | k_is | rfl | decide +kernel)
    (case k36 => first | k_is | rfl | decide +kernel)
    (case a37 => first | k_is | rfl | decide +kernel)
    (case l37 => first | k_is | rfl | decide +kernel)
    (case c37 => first | k_is | rfl | decide +kernel)
    (case k37 => first | k_is | rfl | decide +kernel)
    (case a38 => first | k_is | rfl | decide +kernel)
    (case l38 => first | k_is | rfl | decide +kernel)
    (case c38 => first | k_is | rfl | decide +kernel)
    (case k38 => first | k_is | rfl | decide +kernel)
    (case a39 => first | k_is | rfl | decide +kernel)
    (case l39 => first | k_is | rfl | decide +kernel)
    (case c39 => first | k_is | rfl | decide +kernel)
    (case k39 => first | k_is | rfl | decide +kernel)
    (case a40 => first | k_is | rfl | decide +kernel)
    (case l40 => first | k_is | rfl | decide +kernel)
    (case c40 => first | k_is | rfl | decide +kernel)
    (case k40 => first | k_is | rfl | decide +kernel)
    (case a41 => first | k_is | rfl | decide +kernel)
    (case l41 => first | k_is | rfl | decide +kernel)
    (case c41 => first | k_is | rfl | decide +kernel)
    (case k41 => first | k_is | rfl | decide +kernel)
    (case a42 => first | k_is | rfl | decide +kernel)
    (case l42 => first | k_is | rfl | decide +kernel)
    (case c42 => first | k_is | rfl | decide +kernel)
    (case k42 => first | k_is | rfl | decide +kernel)
    (case a43 => first | k_is | rfl | decide +kernel)
    (case l43 => first | k_is | rfl | decide +kernel)
    (case c43 => first | k_is | rfl | decide +kernel)
    (case k43 => first | k_is | rfl | decide +kernel)
    (case a44 => first | k_is | rfl | decide +kernel)
    (case l44 => first | k_is | rfl | decide +kernel)
    (case c44 => first | k_is | rfl | decide +kernel)
    (case k44 => first | k_is | rfl | decide +kernel)
    (case a45 => first | k_is | rfl | decide +kernel)
    (case i45 => first | k_is | rfl | decide +kernel)
    (case l45 => first | k_is | rfl | decide +kernel)
    (case c45 => first | k_is | rfl | decide +kernel)
    (case k45 => first | k_is | rfl | decide +kernel)
    (case a46 => first | k_is | rfl | decide +kernel)
    (case i46 => first | k_is | rfl | decide +kernel)
    (case l46 => first | k_is | rfl | decide +kernel)
    (case c46 => first | k_is | rfl | decide +kernel)
    (case k46 => first | k_is | rfl | decide +kernel)
    (case a47 => first | k_is | rfl | decide +kernel)
    (case i47 => first | k_is | rfl | decide +kernel)
    (case l47 => first | k_is | rfl | decide +kernel)
    (case c47 => first | k_is | rfl | decide +kernel)
    (case k47 => first | k_is | rfl | decide +kernel)
    (case a48 => first | k_is | rfl | decide +kernel)
    (case i48 => first | k_is | rfl | decide +kernel)
    (case l48 => first | k_is | rfl | decide +kernel)
    (case c48 => first | k_is | rfl | decide +kernel)
    (case k48 => first | k_is | rfl | decide +kernel)
    (case a49 => first | k_is | rfl | decide +kernel)
    (case i49 => first | k_is | rfl | decide +kernel)
    (case l49 => first | k_is | rfl | decide +kernel)
    (case c49 => first | k_is | rfl | decide +kernel)
    (case k49 => first | k_is | rfl | decide +kernel)
    (case a50 => first | k_is | rfl | decide +kernel)
    (case i50 => first | k_is | rfl | decide +kernel)
    (case l50 => first | k_is | rfl | decide +kernel)
    (case c50 => first | k_is | rfl | decide +kernel)
    (case k50 => first | k_is | rfl | decide +kernel)
    (case a51 => first | k_is | rfl | decide +kernel)
    (case i51 => first | k_is | rfl | decide +kernel)
    (case l51 => first | k_is | rfl | decide +kernel)
    (case c51 => first | k_is | rfl | decide +kernel)
    (case k51 => first | k_is | rfl | decide +kernel)
    (case a52 => first | k_is | rfl | decide +kernel)
    (case i52 => first | k_is | rfl | decide +kernel)
    (case l52 => first | k_is | rfl | decide +kernel)
    (case c52 => first | k_is | rfl | decide +kernel)
    (case k52 => first | k_is | rfl | decide +kernel)
    (case a53 => first | k_is | rfl | decide +kernel)
    (case i53 => first | k_is | rfl | decide +kernel)
    (case l53 => first | k_is | rfl | decide +kernel)
    (case c53 => first | k_is | rfl | decide +kernel)
    (case k53 => first | k_is | rfl | decide +kernel)
    (case a54 => first | k_is | rfl | decide +kernel)
    (case i54 => first | k_is | rfl | decide +kernel)
    (case l54 => first | k_is | rfl | decide +kernel)
    (case c54 => first | k_is | rfl | decide +kernel)
    (case k54 => first | k_is | rfl | decide +kernel)
    (case a55 => first | k_is | rfl | decide +kernel)
    (case i55 => first | k_is | rfl | decide +kernel)
    (case l55 => first | k_is | rfl | decide +kernel)
    (case c55 => first | k_is | rfl | decide +kernel)
    (case k55 => first | k_is | rfl | decide +kernel)
    (case pa0 => first | k_is | rfl | decide +kernel)
    (case pg0 => first | k_is | rfl | decide +kernel)
    (case pt0 => first | k_is | rfl | decide +kernel)
    (case pr0 => first | k_is | rfl | decide +kernel)
    (case l56 => first | k_is | rfl | decide +kernel)
    (case c56 => first | k_is | rfl | decide +kernel)
    (case k56 => first | k_is | rfl | decide +kernel)
    (case pa1 => first | k_is | rfl | decide +kernel)
    (case pg1 => first | k_is | rfl | decide +kernel)
    (case pt1 => first | k_is | rfl | decide +kernel)
    (case pr1 => first | k_is | rfl | decide +kernel)
    (case l57 => first | k_is | rfl | decide +kernel)
    (case c57 => first | k_is | rfl | decide +kernel)
    (case k57 => first | k_is | rfl | decide +kernel)
    (case pa2 => first | k_is | rfl | decide +kernel)
    (case pg2 => first | k_is | rfl | decide +kernel)
    (case pt2 => first | k_is | rfl | decide +kernel)
    (case pr2 => first | k_is | rfl | decide +kernel)
    (case l58 => first | k_is | rfl | decide +kernel)
    (case c58 => first | k_is | rfl | decide +kernel)
    (case k58 => first | k_is | rfl | decide +kernel)
    (case a59 => first | k_is | rfl | decide +kernel)
    (case i59 => first | k_is | rfl | decide +kernel)
    (case l59 => first | k_is | rfl | decide +kernel)
    (case c59 => first | k_is | rfl | decide +kernel)
    (case k59 => first | k_is | rfl | decide +kernel)
    (case lT => first | k_is | rfl | decide +kernel)
    (case rd => first | k_is | rfl | decide +kernel)
    (case ga => first | k_is | rfl | decide +kernel)
    (case ca => first | k_is | rfl | decide +kernel)
    (case cr => first | k_is | rfl | decide +kernel)
    (case l60 => first | k_is | rfl | decide +kernel)
    (case c60 => first | k_is | rfl | decide +kernel)
    (case k60 => first | k_is | rfl | decide +kernel)
    (case cf => first | k_is | rfl | decide +kernel)
    (case sf => first | k_is | rfl | decide +kernel)
    (case tadd => first | k_is | rfl | decide +kernel)
    (case radd => first | k_is | rfl | decide +kernel)
    (case tsub => first | k_is | rfl | decide +kernel)
    (case rsub => first | k_is | rfl | decide +kernel)
    (case tmul => first | k_is | rfl | decide +kernel)
    (case rmul => first | k_is | rfl | decide +kernel)
    (case s1 => first | k_is | rfl | decide +kernel)
    (case s2 => first | k_is | rfl | decide +kernel)
    (case nf => first | k_is | rfl | decide +kernel)
    (case kc => first | k_is | rfl | decide +kernel)
    (case kt => first | k_is | rfl | decide +kernel)
    (case ks0 => first | k_is | rfl | decide +kernel)
    (case ks1 => first | k_is | rfl | decide +kernel)
    (case ks2 => first | k_is | rfl | decide +kernel)
    (case ks3 => first | k_is | rfl | decide +kernel)
    (case ks4 => first | k_is | rfl | decide +kernel)
    (case kr => first | k_is | rfl | decide +kernel)
    (case q1 => first | k_is | rfl | decide +kernel)
    (case q2 => first | k_is | rfl | decide +kernel)
    (case q3 => first | k_is | rfl | decide +kernel)
    (case q4 => first | k_is | rfl | decide +kernel)
    (case q5 => first | k_is | rfl | decide +kernel)
    (case q6 => first | k_is | rfl | decide +kernel)
    (case n1 => first | k_is | rfl | decide +kernel)
    (case n2 => first | k_is | rfl | decide +kernel)
    (case w1 => first | k_is | rfl | decide +kernel)
    (case w2 => first | k_is | rfl | decide +kernel)
    (case w3 => first | k_is | rfl | decide +kernel)
    (case w4 => first | k_is | rfl | decide +kernel)
    (case ne => first | k_is | rfl | decide +kernel)
    (case mc0 => first | k_is | rfl | decide +kernel)
    (case z_isinstance => first | k_is | rfl | decide +kernel)
    (case z_int => first | k_is | rfl | decide +kernel)
    (case z_bool => first | k_is | rfl | decide +kernel)
    (case z_list => first | k_is | rfl | decide +kernel)
    (case z_tuple => first | k_is | rfl | decide +kernel)
    (case z_len => first | k_is | rfl | decide +kernel)
    (case z_all => first | k_is | rfl | decide +kernel)
    (case z_any => first | k_is | rfl | decide +kernel)
    (case z_set => first | k_is | rfl | decide +kernel)
    (case z_range => first | k_is | rfl | decide +kernel)
    (case z_sorted => first | k_is | rfl | decide +kernel)
    (case z_sum => first | k_is | rfl | decide +kernel)
    (case z_abs => first | k_is | rfl | decide +kernel)
    (case z_max => first | k_is | rfl | decide +kernel)
    (case z_min => first | k_is | rfl | decide +kernel)
    (case z_divmod => first | k_is | rfl | decide +kernel)
    (case z_repr => first | k_is | rfl | decide +kernel)
    (case z_enumerate => first | k_is | rfl | decide +kernel)
    (case z_zip => first | k_is | rfl | decide +kernel)
    (case z_str => first | k_is | rfl | decide +kernel)
