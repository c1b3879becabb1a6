import PyProof.Rows.All
import Wide.All
import OpenK.AllK
import Wide.FinOn
import HandS.ForMost
import HandS.EndBits
import HandS.TupSets
import HandS.Deep
import HandS.Defaults
import HandS.Property
import HandS.IsInst
import HandS.Style
import HandS.Wide
import HandS.WideBits
import HandS.Flow
import PyProof.ReprRoads
import HandS.SetFor
import HandS.SortInts
import HandS.Zip
import HandS.Conv
import HandS.SortRule
import HandS.Codes
import HandS.Star
import HandS.Walk
import HandS.Iter
import KE.SortData
import PyProof.ReprLen
import OpenK.KMore
import PyProof.CallFns
import KE.GoesMore
import KE.GoesEnum
import PySem.Challenge.RW_toldpushes_k42_any_value_as_barred_lot
set_option Elab.async false
set_option linter.all false
set_option maxRecDepth 100000
set_option maxHeartbeats 8000000
namespace Tk
open PySem PySem.Spec PyProof.Rows L2

/-! ## promises of defs that want to know that no repr is running -/
structure FnG (P : Program) (w : World) (K : PySem.W.Frag) (mg : Str → Option Value) (base : Heap) (k : Nat) (f : Addr) (fd : FuncData) (ps : List Str) (sp : Sp) : Prop where
  len : ∀ vs H Q E, sp vs H Q E → vs.length = ps.length
  run : ∀ (A : Around) (outer : List Env) (s : Shared) (H : Hp) (args : Args) (us : List Value) (vs : List V) (Q : VK) (E : XK),
    A.guards = some [] → Room k A → Env0 P w K mg base A outer s H → BindsTo s fd args (ps.zip us) → Vals vs us → sp vs H Q E →
    codeAny (model P w) A (.call (.ref f) args) (CR CX0 outer P w H s Q E) s

theorem deeper_guards (A : Around) (env : Env) : (A.deeper env).guards = A.guards := rfl

section
variable {P : Program} {w : World} {K : PySem.W.Frag} {mg : Str → Option Value} {base : Heap}
/-- a def by its body, the body being told that no repr runs -/
theorem okG {nm qual : Str} {st : Stmt} {f : Addr} {fd : FuncData} {N ps : List Str} {k : Nat} {sp : Sp} (F : Fun K nm qual st f fd) (S : FnScope N ps (defScope st)) (len : ∀ vs H Q E, sp vs H Q E → vs.length = ps.length)
    (body : ∀ (cdv : Value) (A : Around) (outer : List Env) (s : Shared) (H : Hp) (vs : List V) (Q : VK) (E : XK), A.guards = some [] →
      Room k (A.deeper (envOfC qual (defScope st) s.heap.objs.size f cdv)) → sp vs H Q E →
      ∃ t, PSs (cxOf CX0 P w K mg base N qual (defScope st) f cdv A outer s H E).nox (defBody st) t ∧ t { nx := fun _ H' => Q .non H', rt := Q } (start N vs) H) :
    FnG P w K mg base (k + 1) f fd ps sp := by
  obtain ⟨oc, od, kV, doc, pm, an, cdv, ct, osl, rfl, lk, hcd⟩ := F.ex
  constructor
  · exact len
  intro A outer s H args us vs Q E hgd room en bnd vals hsp
  have nvs := len _ _ _ _ hsp
  have inK : K.In s.heap := en.mod.kin.keeps (fun b o z => (en.bs b o z).1)
  have noLim : s.heap.NoLimit := en.mod.nolimit.keeps (fun b o z => (en.bs b o z).1)
  have places : ∀ y ∈ ps.zip us, (defScope st).names.lookup y.1 = some .local ∨ ((defScope st).names.lookup y.1 = some .cell ∧ ((cellsFrom (s.heap.objs.size + 1) (defScope st).names []).lookup y.1).isSome = true) := by
    rintro ⟨n, v⟩ hy
    cases S.par n (List.of_mem_zip hy).1 with
    | inl l => exact Or.inl l
    | inr c => exact Or.inr ⟨c, PySem.W.cellsFrom_some _ _ _ (Or.inl c)⟩
  apply codeAny_call_function room.depth (inK _ _ lk) rfl S.co S.gen rfl (PySem.W.codeRec_of inK hcd)
  apply bnd
  apply wpAny_newFunctionEnv_cells S.kind places
  intro ev hev st1 ic
  subst hev
  refine ⟨noLim.keeps ic.toInCall.keep, ?_⟩
  apply codeAny_func
  obtain ⟨t, ht0, hq⟩ := body cdv A outer s H vs Q E hgd (room.deeper _) hsp
  have ht := ht0.nox
  have inv0 : Inv (cxOf CX0 P w K mg base N qual (defScope st) f cdv A outer s H E) [] (start N vs) H st1 := inv_start S room.hd en nvs vals ic
  have done : ∀ {σ' : L2.St} {H' : Hp} {v : V} {u : Value} {s' : Shared}, Inv (cxOf CX0 P w K mg base N qual (defScope st) f cdv A outer s H E) [] σ' H' s' → RelV v u → Q v H' → CE outer P w H s Q u s' := by
    intro σ' H' v u s' J rv q
    exact ⟨v, H', J.os, J.bare, J.base, J.hok, rv, q⟩
  refine wpAny_mono (ht.run [] st1 (start N vs) H _ inv0 hq) ?_ (fun e s' z => z)
  intro fl s' z
  cases fl with
  | next => obtain ⟨σ', H', J, q⟩ := z; exact done (v := V.non) (u := Value.none) J rfl q
  | ret u => obtain ⟨v, σ', H', J, rv, q⟩ := z; exact done J rv q
  | brk => obtain ⟨a1, a2, a3, q⟩ := z; exact q.elim
  | cont => obtain ⟨a1, a2, a3, q⟩ := z; exact q.elim
end

section
variable {X : Cx} {k : Nat} {f : Addr} {fd : FuncData} {ps : List Str} {sp : Sp} {x : Str} {p pos : Pos} {e : Expr} {es : List Expr} {t : TA}
theorem pe_callG (F : FnG X.prog X.w X.K X.mg X.base k f fd ps sp) (hgd : X.A.guards = some []) (hr : Room k X.A) (hg : Gl X x) (hm : X.mg x = some (.ref f)) (hk : PySem.W.keepIn X.K (.ref f) = true) (hb : Binds X.K fd ps [])
    (ha : PA X (e :: es) t) (hdb : (x == ("__debug__" : Str)) = false := by decide) (he : starEach (e :: es) X.env = (false, eval e X.env) :: starEach es X.env := by rfl) (hpl : (backTo pos (starEach es X.env)).any (·.1) = false := by rfl) :
    PE X (.Call (.Name x p) (e :: es) [] pos) (tCall sp [] E0 t) := by
  constructor
  intro pins s σ H Q I h
  apply wpAny_Call_Name_kw
  apply ld_glob I hg hm _ hdb
  refine PySem.W.callWith_K (h₀ := X.base) I.ok.mod.kin hk (thn (ha.run pos pins s σ H _ I h) ?_) he hpl
  rintro us s1 ⟨vs, H1, I1, rv, q⟩
  refine ⟨I1.kIn, ?_⟩
  rw [List.append_nil] at q
  have ln : us.length = ps.length := by rw [← rv.length]; exact F.len _ _ _ _ q
  have bd := hb s1 us I1.kIn (by rw [List.append_nil]; exact ln)
  rw [List.append_nil] at bd
  apply wpAny_call
  refine codeAny_mono (F.run X.A X.stack s1 H1 ⟨us, []⟩ us vs Q E0 hgd hr I1.env0 bd rv q) ?_
  intro r s' hq
  cases r with
  | error er => exact hq.elim
  | ok fl =>
    cases fl with
    | ret u => exact I1.after hq
    | next => exact hq.elim
    | brk => exact hq.elim
    | cont => exact hq.elim

/-- repr of data of any depth -/
def rRepD (K : PySem.W.Frag) : List V → Hp → VK → Prop := fun xs H Q => ∃ (a : Addr) (d : PyData), xs = [.ref a] ∧ Dp K H (.ref a) d ∧ d.showable = true ∧ d.hasDict = false ∧ d.depth ≤ 50 ∧ d.shown.length ≤ sizeLine ∧ Q (.str d.shown) H
theorem call_reprD (hgd : X.A.guards = some []) (hu : X.A.units + 64 < cLine) : CallR X (.builtin "repr") (rRepD X.K) := by
  intro pins s σ H xs us Q I r h
  obtain ⟨a, d, rfl, hd, hs, hn, hdp, hz, q⟩ := h
  obtain rfl : us = [Value.ref a] := Vals.ref1 r
  obtain ⟨as, rd⟩ := Dp.reads I d (.ref a) (.ref a) hd rfl
  refine repr_of_reads' (h₀ := s.heap) rd hs (PyData.noDict_hsm hn) hgd (by omega) (fun b o z => z) (fun h' u tk keep => ?_) hz
  have J : Inv X pins σ H { s with heap := h' } := I.kept keep
  exact ⟨.str d.shown, H, J.tok _, ⟨u, rfl⟩, q⟩
end

/-! ## the end: the law's def as the outermost call, no repr around it -/
theorem law_callG {P : Program} {w : World} {K : PySem.W.Frag} {mg mb : Str → Option Value} {k : Nat} {fa a : Addr} {fd : FuncData} {x : Str} {sp : Sp} {s1 : Shared} {vs : List Value} {ns : List Int}
    (inK : K.In s1.heap) (gn : s1.heap.Ns mainGlobals mg) (bn : s1.heap.Ns builtinsNs mb) (bb : ∀ y : Str, y ≠ "__name__" → mb y = bootBuiltins y) (noLim : s1.heap.NoLimit) (noGen : s1.gens = #[])
    (obj : s1.heap.get? a = some { cls := .type "list", data := .seq vs.toArray }) (hints : IntsAre vs ns) (short : ns.length ≤ sizeLine) (room : Room k callerA)
    (F : ∀ base : Heap, K.In base → base.Ns mainGlobals mg → FnG P w K mg base k fa fd [x] sp) (bind : ∀ (s : Shared) (u : Value), BindsTo s fd ⟨[u], []⟩ [(x, u)])
    (keeps : ∀ H : Hp, Only H → SqL K H a (ns.map V.int) → sp [.ref a] H (fun v _ => v = .bl true) fun _ _ _ => False) :
    codeAny (model P w) callerA (.call (.ref fa) ⟨[.ref a], []⟩) (fun r s' => r = .ok (.ret (.bool true)) ∧ OldK s1.heap s'.heap ∧ s'.os = s1.os ∧ AllBare s'.gens) s1 := by
  have rel := vals_ints hints
  have many := hints.length
  have main : ∀ H : Hp, Only H → SqL K H a (ns.map V.int) → HOk P w H s1.heap → (∀ b, H b ≠ none → b = a) → (H a ≠ none → K.lookup a = none) →
      codeAny (model P w) callerA (.call (.ref fa) ⟨[.ref a], []⟩) (fun r s' => r = .ok (.ret (.bool true)) ∧ OldK s1.heap s'.heap ∧ s'.os = s1.os ∧ AllBare s'.gens) s1 := by
    intro H only isl hok just noK
    have ofB : ∀ {b : Addr} {o : Obj}, s1.heap.get? b = some o → H b = none → (hidT s1.heap H).get? b = some o := fun z n => hidT_get z n
    have notA : ∀ {b : Addr} {o : Obj} {es : Array DictEntry} {ep : Nat}, s1.heap.get? b = some o → o.data = .dict es ep → H b = none := by
      intro b o es ep z d
      cases hb : H b with
      | none => rfl
      | some u =>
        obtain rfl : b = a := just b (by rw [hb]; simp)
        rw [obj] at z
        cases z
        exact absurd (show Data.seq vs.toArray _ = Data.dict es ep from d) (by intro y; cases y)
    have nsB : ∀ {b : Addr} {m : Str → Option Value}, s1.heap.Ns b m → (hidT s1.heap H).Ns b m := by
      rintro b m ⟨o, es, ep, z, d, r⟩
      exact ⟨o, es, ep, ofB z (notA z d), d, r⟩
    have inKb : K.In (hidT s1.heap H) := by
      intro b o z
      refine ofB (inK b o z) ?_
      cases hb : H b with
      | none => rfl
      | some u =>
        obtain rfl : b = a := just b (by rw [hb]; simp)
        rw [noK (by rw [hb]; simp)] at z
        cases z
    have md : Mod K mg (hidT s1.heap H) := by
      obtain ⟨mc, l1, l2⟩ := noLim
      exact ⟨inKb, nsB gn, ⟨mb, nsB bn, bb⟩, ⟨mc, nsB l1, l2⟩⟩
    have en : Env0 P w K mg (hidT s1.heap H) callerA [] s1 H := by
      refine ⟨rfl, md, fun b o z => of_hidT z, Nat.le_of_eq (hidT_size _ _), trivial, ?_, hok, .of_eq noGen⟩
      intro b hb
      exact absurd (show b ∈ ([] : List Addr) from hb) (by simp)
    refine codeAny_mono ((F _ inKb (nsB gn)).run callerA [] s1 H ⟨[.ref a], []⟩ [.ref a] [.ref a] _ _ rfl room en (bind s1 (.ref a)) (.cons rfl .nil) (keeps H only isl)) ?_
    intro r s' hr
    cases r with
    | error er => exact hr.elim
    | ok fl =>
      cases fl with
      | next => exact hr.elim
      | brk => exact hr.elim
      | cont => exact hr.elim
      | ret u =>
        obtain ⟨v, H', os, bare, un, hok', rv, q⟩ := hr
        obtain rfl : v = .bl true := q
        obtain rfl : u = Value.bool true := rv
        refine ⟨rfl, OldK.of_keep ?_, os, bare⟩
        intro b o z
        cases hb : H b with
        | none => exact un.keep b o z hb (fun y => absurd (show b ∈ ([] : List Addr) from y) (by simp)) (by simp)
        | some u =>
          rcases only b with n | ⟨ob, xs, y⟩
          · rw [hb] at n; cases n
          · obtain ⟨e1, _⟩ := hok b _ y
            obtain ⟨e2, _⟩ := hok' b _ (un.frzs b ob _ y)
            rw [z] at e1
            cases e1
            exact e2
  cases hk : K.lookup a with
  | some o =>
    have z := inK a o hk
    rw [obj] at z
    cases z
    exact main (fun _ => none) (fun _ => .inl rfl) (.inr ⟨_, vs.toArray, _, hk, rfl, rfl, rfl, by rw [List.size_toArray, many]; exact short, by simpa using rel⟩) (fun b u y => nomatch (show (none : Option HO) = some u from y)) (fun b y => absurd rfl y) (fun y => absurd rfl y)
  | none =>
    refine main (fun b => if b = a then some (.frz { cls := .type "list", data := .seq vs.toArray } (.lst (ns.map V.int))) else none) ?_ (.inl (.inr ⟨{ cls := .type "list", data := .seq vs.toArray }, if_pos rfl⟩)) ?_ ?_ (fun _ => hk)
    · intro b
      by_cases q : b = a
      · exact Or.inr ⟨_, _, if_pos q⟩
      · exact Or.inl (if_neg q)
    · intro b u y
      by_cases q : b = a
      · subst q
        have y1 := (if_pos rfl).symm.trans y
        cases y1
        exact ⟨obj, by rw [List.length_map]; exact short, vs, _, rel, obj⟩
      · have y1 := (if_neg q).symm.trans y
        cases y1
    · intro b y
      by_cases q : b = a
      · exact q
      · exact absurd (if_neg q) y

theorem walkG {l : PySem.W.OpenLaw} {n k : Nat} {q : Program} {loose : List Str} {XP : (Str → Option Value) → Heap → Prop} {YP : World → Heap → Prop} {d : DefRec} {K : Params → PySem.W.Frag} {sp : World → Sp} {x : Str}
    (hn : l.most = some n) (hn2 : n ≤ sizeLine) (hdf : d.params.defaults = []) (room : Room k callerA) (inK : ∀ (w : World) (h : Heap), YP w h → (K w.params).In h)
    (F : ∀ (w : World) (mg : Str → Option Value) (fa : Addr) (h : Heap), (K w.params).In h → h.Ns mainGlobals mg → mg d.name = some (.ref fa) →
      ∃ fd : FuncData, (∀ (s : Shared) (u : Value), BindsTo s fd ⟨[u], []⟩ [(x, u)]) ∧ ∀ base : Heap, (K w.params).In base → base.Ns mainGlobals mg → FnG l.prog w (K w.params) mg base k fa fd [x] (sp w))
    (keeps : ∀ (w : World) (H : Hp) (a : Addr) (ns : List Int), ns.length ≤ n → (∀ z ∈ ns, Builtin.Int.intBits z ≤ 1048576) → Only H → SqL (K w.params) H a (ns.map V.int) → sp w [.ref a] H (fun v _ => v = .bl true) fun _ _ _ => False) :
    PySem.W.WalkO q loose XP YP l.row.toRowW d [] (fun f vs => PySem.call f vs) := by
  refine Att.attach_callB hn hdf ?_
  intro w s0 s1 mg mb fa o pm cd doc a vs ns G Y ho hd hcd hmg hobj hints hlen hbits hg
  obtain ⟨fd, hb, hF⟩ := F w mg fa _ (inK w _ Y) G.T.g hmg
  exact law_callG (inK w _ Y) G.T.g G.T.b G.T.builtins G.T.nolimit hg hobj hints (Nat.le_trans hlen hn2) room hF hb (fun H hO hS => keeps w H a ns hlen hbits hO hS)
end Tk

namespace Tk
open PySem PySem.Spec PyProof.Rows L2

theorem same_rd {H H' : Hp} {a : Addr} {u : HO} (e : Same H H') (h : Rd H a u) : Rd H' a u := by
  rcases h with h | ⟨o, h⟩
  · exact Or.inl (e a _ h)
  · exact Or.inr ⟨o, e a _ h⟩
theorem same_l {K : PySem.W.Frag} {H H' : Hp} {a : Addr} {xs : List V} (e : Same H H') (h : SqL K H a xs) : SqL K H' a xs := by
  rcases h with h | h
  · exact Or.inl (same_rd e h)
  · exact Or.inr h
theorem same_t {K : PySem.W.Frag} {H H' : Hp} {a : Addr} {xs : List V} (e : Same H H') (h : SqT K H a xs) : SqT K H' a xs := by
  rcases h with h | h
  · exact Or.inl (same_rd e h)
  · exact Or.inr h
theorem same_new {H : Hp} {p : Addr} {o : HO} (h : H p = none) : Same H (upd H p o) := by
  intro a u e
  rw [upd_ne (ne_of_none e h)]
  exact e
/-- what is new in a later heap may change -/
theorem same_mut {H H' : Hp} {p : Addr} {o : HO} (e : Same H H') (h : H p = none) : Same H (upd H' p o) := by
  intro a u ha
  rw [upd_ne (ne_of_none ha h)]
  exact e a u ha
theorem sl_of {K : PySem.W.Frag} {H : Hp} {a : Addr} {xs : List V} (h : H a = some (.lst xs)) : SqL K H a xs := Or.inl (Or.inl h)
theorem st_of {K : PySem.W.Frag} {H : Hp} {a : Addr} {xs : List V} (h : H a = some (.tup xs)) : SqT K H a xs := Or.inl (Or.inl h)
theorem szle {n : Nat} (h : n ≤ 100000) : n ≤ sizeLine := Nat.le_trans h (by decide)
theorem szlt {n : Nat} (h : n < 100000) : n < sizeLine := Nat.lt_of_lt_of_le h (by decide)

mutual
theorem dp_same {K : PySem.W.Frag} {H H' : Hp} (e : Same H H') : ∀ (d : PyData) (v : V), Dp K H v d → Dp K H' v d
  | .none, _, h => by cases h; exact .non
  | .bool b, _, h => by cases h; exact .bl b
  | .int i, _, h => by cases h; exact .int i
  | .str x, _, h => by cases h; exact .str x
  | .list ds, _, h => by
    cases h with
    | lst h1 h2 => exact .lst (same_l e h1) (dps_same e ds _ h2)
  | .tuple ds, _, h => by
    cases h with
    | tup h1 h2 => exact .tup (same_t e h1) (dps_same e ds _ h2)
  | .dict _, _, h => by cases h
theorem dps_same {K : PySem.W.Frag} {H H' : Hp} (e : Same H H') : ∀ (ds : List PyData) (vs : List V), DpAll K H vs ds → DpAll K H' vs ds
  | [], _, h => by cases h; exact .nil
  | d :: ds, _, h => by
    cases h with
    | cons h1 h2 => exact .cons (dp_same e d _ h1) (dps_same e ds _ h2)
end
theorem dp_s {K : PySem.W.Frag} {H H' : Hp} {d : PyData} {v : V} (h : Dp K H v d) (e : Same H H') : Dp K H' v d := dp_same e d v h
theorem dps_s {K : PySem.W.Frag} {H H' : Hp} {ds : List PyData} {vs : List V} (h : DpAll K H vs ds) (e : Same H H') : DpAll K H' vs ds := dps_same e ds vs h
theorem dps_len {K : PySem.W.Frag} {H : Hp} : ∀ {ds : List PyData} {vs : List V}, DpAll K H vs ds → vs.length = ds.length
  | [], _, h => by cases h; rfl
  | d :: ds, _, h => by
    cases h with
    | cons h1 h2 => simp [dps_len h2]
theorem dps_at {K : PySem.W.Frag} {H : Hp} : ∀ {ds : List PyData} {vs : List V}, DpAll K H vs ds → ∀ (i : Nat) (x : V), vs[i]? = some x → ∃ d, ds[i]? = some d ∧ Dp K H x d
  | [], _, h, i, x, hx => by cases h; simp at hx
  | d :: ds, _, h, i, x, hx => by
    cases h with
    | cons h1 h2 =>
      cases i with
      | zero => simp at hx; subst hx; exact ⟨d, by simp, h1⟩
      | succ i => simp at hx; simpa using dps_at h2 i x hx
theorem dps_app {K : PySem.W.Frag} {H : Hp} : ∀ {ds es : List PyData} {vs ws : List V}, DpAll K H vs ds → DpAll K H ws es → DpAll K H (vs ++ ws) (ds ++ es)
  | [], _, _, _, h, h' => by cases h; exact h'
  | d :: ds, _, _, _, h, h' => by
    cases h with
    | cons h1 h2 => exact .cons h1 (dps_app h2 h')
theorem dps_ints {K : PySem.W.Frag} {H : Hp} : ∀ (ns : List Int), DpAll K H (ns.map V.int) (ns.map PyData.int)
  | [] => .nil
  | n :: ns => .cons (.int n) (dps_ints ns)
theorem ints_dps {K : PySem.W.Frag} {H : Hp} : ∀ {ns : List Int} {vs : List V}, DpAll K H vs (ns.map PyData.int) → vs = ns.map V.int
  | [], _, h => by cases h; rfl
  | n :: ns, _, h => by
    cases h with
    | cons h1 h2 => cases h1; rw [ints_dps h2]; rfl
theorem dps_bls {K : PySem.W.Frag} {H : Hp} : ∀ (bs : List Bool), DpAll K H (bs.map V.bl) (bs.map PyData.bool)
  | [] => .nil
  | n :: ns => .cons (.bl n) (dps_bls ns)

/-- a pair of ints, as data -/
def dP (p : Int × Int) : PyData := .tuple [.int p.1, .int p.2]
/-- v is a list of pairs -/
abbrev PL (K : PySem.W.Frag) (H : Hp) (a : Addr) (ps : List (Int × Int)) : Prop := ∃ xs, SqL K H a xs ∧ DpAll K H xs (ps.map dP)
/-- v is a list of ints -/
abbrev IL (K : PySem.W.Frag) (H : Hp) (a : Addr) (ns : List Int) : Prop := SqL K H a (ns.map V.int)
theorem pl_s {K : PySem.W.Frag} {H H' : Hp} {a : Addr} {ps : List (Int × Int)} (h : PL K H a ps) (e : Same H H') : PL K H' a ps :=
  let ⟨xs, h1, h2⟩ := h; ⟨xs, same_l e h1, dps_s h2 e⟩
theorem dP_inv {K : PySem.W.Frag} {H : Hp} {v : V} {p : Int × Int} (h : Dp K H v (dP p)) : ∃ t, v = .ref t ∧ SqT K H t [.int p.1, .int p.2] := by
  unfold dP at h
  cases h with
  | @tup a xs _ h1 h2 =>
    cases h2 with
    | cons a1 a2 =>
      cases a1
      cases a2 with
      | cons b1 b2 =>
        cases b1
        cases b2
        exact ⟨a, rfl, h1⟩
theorem dP_mk {K : PySem.W.Frag} {H : Hp} {t : Addr} {i j : Int} (h : SqT K H t [.int i, .int j]) : Dp K H (.ref t) (dP (i, j)) := .tup h (.cons (.int i) (.cons (.int j) .nil))
theorem pl_at {K : PySem.W.Frag} {H : Hp} {xs : List V} {ps : List (Int × Int)} (h : DpAll K H xs (ps.map dP)) {i : Nat} {x : V} (hx : xs[i]? = some x) :
    ∃ p t, ps[i]? = some p ∧ x = .ref t ∧ SqT K H t [.int p.1, .int p.2] := by
  obtain ⟨d, hd, hp⟩ := dps_at h i x hx
  rw [List.getElem?_map] at hd
  cases e : ps[i]? with
  | none => rw [e] at hd; cases hd
  | some p =>
    rw [e] at hd
    cases hd
    obtain ⟨t, rfl, ht⟩ := dP_inv hp
    exact ⟨p, t, rfl, rfl, ht⟩
theorem int_at {ns : List Int} {i : Nat} {x : V} (h : (ns.map V.int)[i]? = some x) : ∃ n, ns[i]? = some n ∧ x = .int n := by
  rw [List.getElem?_map] at h
  cases e : ns[i]? with
  | none => rw [e] at h; cases h
  | some n => rw [e] at h; cases h; exact ⟨n, rfl, rfl⟩
theorem lt_of_at {α : Type} {l : List α} {i : Nat} {x : α} (h : l[i]? = some x) : i < l.length := (List.getElem?_eq_some_iff.mp h).1
theorem take_at {α : Type} {l : List α} {i : Nat} {x : α} (h : l[i]? = some x) : l.take (i + 1) = l.take i ++ [x] := by
  rw [List.take_add_one, h]; rfl

/-- a comprehension's list behind one more item -/
theorem lc_put {H1 H4 : Hp} {D : Addr} {acc : List V} {y : V} {Pv : Hp → Prop} (h : H4 D = some (.lst acc)) (hl : acc.length < 100000) (q : Pv (upd H4 D (.lst (acc ++ [y])))) :
    ∃ acc', H4 D = some (.lst acc') ∧ acc'.length < sizeLine ∧ Pv (upd H4 D (.lst (acc' ++ [y]))) := ⟨acc, h, szlt hl, q⟩

theorem tyx_t {K : PySem.W.Frag} {H : Hp} {a : Addr} {xs : List V} (h : SqT K H a xs) : TyX K H (.ref a) (.type "tuple") := by
  rcases h with (h | ⟨o, h⟩) | ⟨o, its, n, h1, h2, _⟩
  · exact .base (.tup h)
  · exact .fTuple h
  · exact .kTuple h1 h2
theorem tyx_l {K : PySem.W.Frag} {H : Hp} {a : Addr} {xs : List V} (h : SqL K H a xs) : TyX K H (.ref a) (.type "list") := by
  rcases h with (h | ⟨o, h⟩) | ⟨o, its, n, h1, h2, _⟩
  · exact .base (.lst h)
  · exact .base (.frz h)
  · exact .kList h1 h2
theorem kit_lt {K : PySem.W.Frag} : PySem.W.kitAny K (.type "list") [.type "list", .type "tuple"] = some true := by
  refine kitAny_cons (b := true) (kit_ty (by decide +kernel)) (fun z => nomatch z) (fun _ => rfl)
/-- what stands of a comprehension over a heap H1 whose list D holds acc -/
def LcP (H1 : Hp) (D : Addr) (out : Nat → List V) (i : Nat) (H : Hp) : Prop := Same H1 H ∧ H D = some (.lst (out i))
theorem lcp_0 {H1 : Hp} {D : Addr} {out : Nat → List V} (hD : H1 D = none) (h0 : out 0 = []) : LcP H1 D out 0 (upd H1 D (.lst [])) := ⟨same_new hD, by rw [upd_same, h0]⟩
/-- one more item -/
theorem lcp_put {H1 H4 : Hp} {D : Addr} {out : Nat → List V} {i : Nat} {y : V} (hD : H1 D = none) (h : LcP H1 D out i H4) (ho : out (i + 1) = out i ++ [y]) (hl : (out i).length < 100000) :
    ∃ acc, H4 D = some (.lst acc) ∧ acc.length < sizeLine ∧ LcP H1 D out (i + 1) (upd H4 D (.lst (acc ++ [y]))) :=
  ⟨out i, h.2, szlt hl, same_mut h.1 hD, by rw [upd_same, ho]⟩
theorem lcp_no {H1 H4 : Hp} {D : Addr} {out : Nat → List V} {i : Nat} (h : LcP H1 D out i H4) (ho : out (i + 1) = out i) : LcP H1 D out (i + 1) H4 := ⟨h.1, by rw [h.2, ho]⟩
theorem lcp_s {H1 H2 H4 : Hp} {D : Addr} {out : Nat → List V} {i : Nat} (h : LcP H1 D out i H2) (e : Same H2 H4) : LcP H1 D out i H4 := ⟨h.1.trans e, e _ _ h.2⟩

section
variable {X : Cx}
/-- len of a set of tuples -/
theorem call_lenSetT : CallR X (.builtin "len") (fun xs H Q => ∃ a L, xs = [.ref a] ∧ H a = some (SetTO X.prog X.w a L) ∧ (∀ p ∈ L, SqT X.K H p.1 (p.2.map V.int)) ∧ ((L.map (·.2)).Nodup → Q (.int L.length) H)) := by
  intro pins s σ H xs us Q I r h
  obtain ⟨a, L, rfl, ha, ht, q⟩ := h
  rw [Vals.ref1 r]
  have R0 : SetT0 X.prog X.w s.heap a L := (I.hok a _ ha).1
  obtain ⟨es, ep, t, R⟩ := R0.full fun p hp => I.isT (ht p hp)
  obtain ⟨o, ho, hex, hd⟩ := R.ob
  have hs := R.size
  have hf := R.few
  refine call_len_set ho hex hd R.fits (by omega) ⟨.int L.length, H, (I.tok _), ⟨_, by rw [hs]⟩, q R.nd⟩

variable {k n : Nat} {f : Addr} {fd : FuncData} {ps ks : List Str} {sp : Sp} {x : Str} {p pos : Pos} {kws : List Keyword} {tk : TA} {g : List Value → List Value → List Value} {gV : List V → List V → List V} {CX : CXT} {E : XK}
end
end Tk

namespace Tk
open PySem PySem.Spec PyProof.Rows L2
/-! ## lists and tuples alike -/
abbrev SqA (K : PySem.W.Frag) (H : Hp) (a : Addr) (xs : List V) : Prop := SqL K H a xs ∨ SqT K H a xs
theorem same_a {K : PySem.W.Frag} {H H' : Hp} {a : Addr} {xs : List V} (e : Same H H') (h : SqA K H a xs) : SqA K H' a xs := h.elim (fun h => .inl (same_l e h)) (fun h => .inr (same_t e h))
/-- a sequence of pairs -/
abbrev PA2 (K : PySem.W.Frag) (H : Hp) (a : Addr) (ps : List (Int × Int)) : Prop := ∃ xs, SqA K H a xs ∧ DpAll K H xs (ps.map dP)
theorem pa2_s {K : PySem.W.Frag} {H H' : Hp} {a : Addr} {ps : List (Int × Int)} (h : PA2 K H a ps) (e : Same H H') : PA2 K H' a ps :=
  let ⟨xs, h1, h2⟩ := h; ⟨xs, same_a e h1, dps_s h2 e⟩
theorem pl_pa2 {K : PySem.W.Frag} {H : Hp} {a : Addr} {ps : List (Int × Int)} (h : PL K H a ps) : PA2 K H a ps := let ⟨xs, h1, h2⟩ := h; ⟨xs, .inl h1, h2⟩
/-- it walks the sequence at a -/
def IsSq (K : PySem.W.Frag) (H : Hp) (a : Addr) (xs : List V) (it : It) : Prop := (it = Itl K a ∧ SqL K H a xs) ∨ (it = Itt K a ∧ SqT K H a xs)
def iSq (K : PySem.W.Frag) (tl : TE) : TI := fun σ H R => tl σ H fun x H1 => ∃ a xs, x = .ref a ∧ SqA K H1 a xs ∧ ∀ it, IsSq K H1 a xs it → R it H1
section
variable {X : Cx} {tg : Expr}
theorem pi_sq {l : Expr} {tl : TE} (hl : PE X l tl) : PI X tg l (iSq X.K tl) := by
  constructor
  intro pins s σ H R I h
  refine thn (hl.run pins s σ H _ I h) ?_
  rintro v s1 ⟨x, H1, J, rv, a, xs, rfl, hc, q⟩
  cases rv
  have own : ∀ b ∈ [s1.heap.objs.size], FpOk X pins H1 b := fun b hb => by
    rw [List.mem_singleton.mp hb]
    exact J.fpOk (Nat.le_refl _) (J.hok.fresh (Nat.le_refl _))
  rcases hc with hq | hq
  · obtain ⟨its, _, pl, _⟩ := J.list hq
    exact wpAny_pyIter_list pl.isList ⟨_, _, _, _, _, rfl, J.kept (t' := s1.toks) (fun b o e => Heap.get?_push_of_some _ e), turn_list a _, ⟨_, Heap.get?_push_size _ rfl, rfl, rfl⟩, own, q _ (.inl ⟨rfl, hq⟩)⟩
  · obtain ⟨its, _, pt, _⟩ := J.tuple hq
    exact wpAny_pyIter_tuple (show s1.heap.IsTuple a its.toArray from pt) ⟨_, _, _, _, _, rfl, J.kept (t' := s1.toks) (fun b o e => Heap.get?_push_of_some _ e), turn_tuple a _, ⟨_, Heap.get?_push_size _ rfl, rfl, rfl⟩, own, q _ (.inr ⟨rfl, hq⟩)⟩
/-- either of two rules for a call -/
theorem cr_or {f : Value} {r1 r2 : List V → Hp → VK → Prop} (c1 : CallR X f r1) (c2 : CallR X f r2) : CallR X f (fun xs H Q => r1 xs H Q ∨ r2 xs H Q) :=
  fun pins s σ H xs us Q I r h => h.elim (c1 pins s σ H xs us Q I r) (c2 pins s σ H xs us Q I r)
end
theorem lc_sq {K : PySem.W.Frag} {a : Addr} {xs : List V} {it : It} {H0 : Hp} {g : TG} {tt : TT} {te : TE} {vs : List Nat} {σ : L2.St} {H1 : Hp} {D : Addr} {Qd : Hp → Prop} (hit : IsSq K H0 a xs it) (Pv : Nat → Hp → Prop) (h0 : Pv 0 (upd H1 D (.lst [])))
    (hl : ∀ i H, i ≤ xs.length → Pv i H → Same H0 H)
    (hs : ∀ i x H, xs[i]? = some x → Pv i H → g x (wipe σ vs) H fun σ2 H2 => wipe σ2 vs = wipe σ vs ∧ tt σ2 H2 fun b H3 =>
      if b = true then te σ2 H3 fun y H4 => ∃ acc, H4 D = some (.lst acc) ∧ acc.length < sizeLine ∧ Pv (i + 1) (upd H4 D (.lst (acc ++ [y]))) else Pv (i + 1) H3)
    (hd : ∀ H, Pv xs.length H → Qd H) :
    ∃ W : Nat → Nat → Hp → Prop, (∃ m, W 0 m (upd H1 D (.lst []))) ∧ ∀ i m H, W i m H →
      (it.stop i H ∧ Qd H) ∨ (it.go i H ∧ ∃ Nx : Hp → Prop, (∀ H', Nx H' → ∃ m', m' < m ∧ W (i + 1) m' H') ∧ ∀ x H', it.yld i H x H' → g x (wipe σ vs) H' fun σ2 H2 => wipe σ2 vs = wipe σ vs ∧ tt σ2 H2 fun b H3 =>
        if b = true then te σ2 H3 fun y H4 => ∃ acc, H4 D = some (.lst acc) ∧ acc.length < sizeLine ∧ Nx (upd H4 D (.lst (acc ++ [y]))) else Nx H3) := by
  rcases hit with ⟨rfl, h⟩ | ⟨rfl, h⟩
  · exact lc_list Pv h0 (fun i H hi p => same_l (hl i H hi p) h) hs hd
  · exact lc_tup Pv h0 (fun i H hi p => same_t (hl i H hi p) h) hs hd
theorem for_sq {K : PySem.W.Frag} {a : Addr} {xs : List V} {it : It} {H0 : Hp} {g : TG} {tb : TS} {D : Ends} {σ : L2.St} {H : Hp} (hit : IsSq K H0 a xs it) (Pv : Nat → L2.St → Hp → Prop) (h0 : Pv 0 σ H) (hl : ∀ i σ H, i ≤ xs.length → Pv i σ H → Same H0 H)
    (hs : ∀ i x σ H, xs[i]? = some x → Pv i σ H → g x σ H fun σ2 H2 => tb { nx := Pv (i + 1), rt := D.rt, bk := D.nx, ct := Pv (i + 1) } σ2 H2) (hd : ∀ σ H, Pv xs.length σ H → D.nx σ H) :
    ∃ W : Nat → Nat → L2.St → Hp → Prop, (∃ m, W 0 m σ H) ∧ ∀ i m σ H, W i m σ H →
      (it.stop i H ∧ D.nx σ H) ∨ (it.go i H ∧ ∃ N : L2.St → Hp → Prop, (∀ σ' H', N σ' H' → ∃ m', m' < m ∧ W (i + 1) m' σ' H') ∧ ∀ x H', it.yld i H x H' → g x σ H' fun σ2 H2 => tb { nx := N, rt := D.rt, bk := D.nx, ct := N } σ2 H2) := by
  rcases hit with ⟨rfl, h⟩ | ⟨rfl, h⟩
  · exact for_list Pv h0 (fun i σ H hi p => same_l (hl i σ H hi p) h) hs hd
  · exact for_tup Pv h0 (fun i σ H hi p => same_t (hl i σ H hi p) h) hs hd
end Tk
/-! ## how many unlike ints -/
namespace Tk
theorem dup_erase {α : Type} [DecidableEq α] : ∀ {l : List α}, ¬ l.Nodup → ∃ x ∈ l, ∀ y ∈ l, y ∈ l.erase x
  | [], h => absurd List.nodup_nil h
  | a :: l, h => by
    by_cases c : a ∈ l
    · refine ⟨a, List.mem_cons_self .., fun y hy => ?_⟩
      rw [List.erase_cons_head]
      rcases List.mem_cons.mp hy with e | e
      · exact e ▸ c
      · exact e
    · have hl : ¬ l.Nodup := fun n => h (List.nodup_cons.mpr ⟨c, n⟩)
      obtain ⟨x, hx, hy⟩ := dup_erase hl
      have ne : ¬ a = x := fun e => c (e ▸ hx)
      refine ⟨x, List.mem_cons_of_mem _ hx, fun y m => ?_⟩
      rw [List.erase_cons_tail (by simpa using ne)]
      rcases List.mem_cons.mp m with e | e
      · exact e ▸ List.mem_cons_self ..
      · exact List.mem_cons_of_mem _ (hy y e)
end Tk

namespace Tk
open PySem PySem.Spec PyProof.Rows L2
/-! ## set(t), t a tuple of tuples of ints -/
def oSet (w : World) : Obj := { cls := .type "set", dict := none, data := .set #[] 0 (.fresh 0 0 (!w.params.followText "set-order")) }
section
variable {P : Program} {w : World} {A : Around} {E : Value → Shared → Prop} {s : Shared}
theorem two_new {h : Heap} {l : Addr} (z : l < h.objs.size) (o : Obj) : l ≠ (h.push o).objs.size ∧ h.objs.size ∉ [(h.push o).objs.size, l] := by
  rw [Heap.size_push]
  refine ⟨Nat.ne_of_lt (Nat.lt_succ_of_lt z), ?_⟩
  simp only [List.mem_cons, List.not_mem_nil, or_false]
  rintro (e | e)
  · exact absurd e (Nat.ne_of_lt (Nat.lt_succ_self _))
  · exact absurd e.symm (Nat.ne_of_lt z)
set_option maxHeartbeats 8000000 in
theorem wp_setTT {l : Addr} {us : Array Value} {ks : List (Addr × List Int)} {Q : Value → Shared → Prop} (calm : A.handled = none) (ht : s.heap.IsTuple l us) (eu : us.toList = ks.map fun p => Value.ref p.1)
    (each : ∀ p ∈ ks, IsT P w s.heap p.2 p.1) (few : ks.length < 64) (room : A.units + 3 < cLine)
    (fin : ∀ (h' : Heap) (tk : Nat) L es ep t, SetTR P w h' s.heap.objs.size L es ep t → Got ks ks.length L → (∀ b o, s.heap.get? b = some o → h'.get? b = some o) → Q (.ref s.heap.objs.size) { s with heap := h', toks := tk }) :
    wpAny (model P w) A (call (.type "set") [.ref l]) Q E s := by
  have many : us.size = ks.length := by
    rw [← Array.length_toList, eu, List.length_map]
  obtain ⟨m1, m2, mro1⟩ := F.called_set.mro
  have made1 := F.called_set.made
  have sub1 := F.called_set.sub
  apply wpAny_call
  apply codeAny_of_tree
  show wpAny (model P w) _ (callAny (.type "set") _) _ E s
  apply wpAny_pure
  refine ⟨Code.quiet_builtin _ (by decide +kernel), ?_⟩
  apply codeAny_builtin F.entry_type_call
  rw [Around.under_plain (weight_type_call_type "set" [Value.ref l] []) (by rfl)]
  have no1 := F.called_set.notType
  have can1 := F.called_set.canCreate
  have tc1 := F.typeCall_set_1 (Value.ref l)
  repeat any_goals (first | assumption | wp_step)
  refine codeAny_mono (code_set_led1 (Value.ref l) (E := E) (Q₁ := fun x z => x = Value.ref s.heap.objs.size ∧ z = { s with heap := s.heap.push (oSet w) }) ⟨rfl, rfl⟩) ?_
  intro res z hz
  cases res with
  | error e => exact hz
  | ok fl =>
  cases fl with
  | next => exact hz.elim
  | brk => exact hz.elim
  | cont => exact hz.elim
  | ret x =>
  obtain ⟨rfl, rfl⟩ := hz
  have atS : (s.heap.push (oSet w)).get? s.heap.objs.size = some (oSet w) := Heap.get?_push_size _ rfl
  have isS : Shared.TypeIs { s with heap := s.heap.push (oSet w) } (Value.ref s.heap.objs.size) "set" := ⟨_, atS, rfl⟩
  have look1 := F.called_set.init.lookup
  have bind1 := F.called_set.init.bind (Value.ref s.heap.objs.size)
  repeat any_goals (first | assumption | wp_step)
  refine codeAny_mono (codeAny_call_builtin (R := wants (fun r z => r = Value.none ∧ ∃ h' tk L es ep t, z = { s with heap := h', toks := tk } ∧ SetTR P w h' s.heap.objs.size L es ep t ∧ Got ks ks.length L ∧
      (∀ b o, s.heap.get? b = some o → h'.get? b = some o)) E) F.called_set.init.plain F.entry_set_init (check_set_init_1 isS ?_)) ?_
  · obtain ⟨⟨oc, od, odat, osl⟩, atL, ec, nl, ed⟩ := ht
    simp only at ec ed
    subst ec ed
    have atL1 : (s.heap.push (oSet w)).get? l = some { cls := .type "tuple", dict := od, data := .seq us nl, slots := osl } := Heap.get?_push_of_some _ atL
    have y1 := F.sub_tuple_set
    have y2 := F.sub_tuple_frozenset
    have y3 : (Value.type "tuple" == Value.type "dict") = false := by decide
    have isT1 : (s.heap.push (oSet w)).IsTuple l us := ⟨_, atL1, rfl, nl, rfl⟩
    unfold Builtin.«set.__init__» noKeywords Builtin.Frozenset.updateFrom
    generalize hIt : pyIter = IT
    wp_walk
    subst hIt
    apply wpAny_pyIter_tuple isT1
    apply wpAny_bind
    apply wpAny_runValue
    obtain ⟨ne1, ne2⟩ := two_new (Heap.lt_size atL) (oSet w)
    have free : ∀ b, s.heap.objs.size ≤ b → s.heap.get? b = none := by
      intro b hb
      cases q : s.heap.get? b with
      | none => rfl
      | some o => exact absurd (Heap.lt_size q) (Nat.not_lt.mpr hb)
    have item : ∀ (i : Nat) (v : Value), us[i]? = some v → ∃ p, ks[i]? = some p ∧ v = Value.ref p.1 := by
      intro i v hv
      rw [← Array.getElem?_toList, eu, List.getElem?_map] at hv
      cases hq : ks[i]? with
      | none => rw [hq] at hv; cases hv
      | some p => rw [hq] at hv; exact ⟨p, rfl, (Option.some.inj hv).symm⟩
    have at2 : ((s.heap.push (oSet w)).push { cls := .type "tuple_iterator", data := .fields #[.ref l, .int 0 0] }).get? s.heap.objs.size = some (oSet w) := Heap.get?_push_of_some _ atS
    refine set_update_tups ((Walks.tuple (by simp [calm]) _ l ne1 us).toS) s.heap.objs.size ne2 ks many few item s.heap each (free _ (Nat.le_refl _)) ?_ room (us.size - 0) 0 _ (by omega) (Nat.zero_le _)
      ⟨⟨_, Heap.get?_push_size _ rfl, rfl, rfl⟩, isT1.push _⟩ (fun b o e => Heap.get?_push_of_some _ (Heap.get?_push_of_some _ e)) ⟨[], #[], 0, _, setTR_fresh at2, Got.zero ks⟩ ?_
    · intro b hb
      refine free b ?_
      rw [List.mem_singleton.mp hb, Heap.size_push]
      omega
    · rintro ⟨h', g', d', tk', os'⟩ L es ep t mv R1 got kp
      obtain rfl : g' = s.gens := mv.gens
      obtain rfl : d' = s.drawn := mv.drawn
      obtain rfl : os' = s.os := mv.os
      show wpAny _ _ _ _ _ _
      apply wpAny_pure
      show wpAny _ _ (ret Value.none) _ _ _
      rw [many] at got
      exact wpAny_pure ⟨rfl, h', tk', L, es, ep, t, rfl, R1, got, kp⟩
  · intro r2 z2 hz2
    cases r2 with
    | error e => exact hz2
    | ok f2 =>
    cases f2 with
    | next => exact hz2.elim
    | brk => exact hz2.elim
    | cont => exact hz2.elim
    | ret v =>
    obtain ⟨rfl, h', tk, L, es, ep, t, rfl, R1, got, kp⟩ := hz2
    repeat any_goals (first | assumption | wp_step)
    exact fin _ _ _ _ _ _ R1 got kp
end
section
variable {X : Cx}
def rSetTT (K : PySem.W.Frag) (P : Program) (w : World) : List V → Hp → VK → Prop := fun xs H Q => ∃ (l : Addr) (ks : List (Addr × List Int)), xs = [V.ref l] ∧ SqT K H l (ks.map fun p => V.ref p.1) ∧ (∀ p ∈ ks, SqT K H p.1 (p.2.map V.int)) ∧ ks.length < 64 ∧
  ∀ a L, H a = none → (∀ p ∈ L, p ∈ ks) → (∀ p ∈ ks, p.2 ∈ L.map (·.2)) → Q (.ref a) (upd H a (SetTO P w a L))
theorem cr_setTT (hc : X.calm = true) (hu : X.A.units + 64 < cLine) : CallR X (.type "set") (rSetTT X.K X.prog X.w) := by
  rintro pins s σ H xs us Q I r ⟨l, ks, rfl, hl, hk, hf, q⟩
  rw [Vals.ref1 r]
  obtain ⟨its, rv, pt, _⟩ := I.tuple hl
  refine wp_setTT (P := X.prog) (w := X.w) (I.ok.hd hc) (show s.heap.IsTuple l its.toArray from pt) (by simpa using refs_of_vals rv) (fun p hp => I.isT (hk p hp)) hf (by omega) ?_
  intro h' tk L es ep t R g k
  refine ⟨.ref s.heap.objs.size, _, I.laid (t' := tk) k (Nat.le_refl _) (setTO_new R.t0), rfl, q _ L (I.hok.fresh (Nat.le_refl _)) (fun p hp => List.mem_of_mem_take (g.sub p hp)) fun p hp => g.all p ?_⟩
  rw [List.take_length]
  exact hp
/-! ## set(xs) of ints, and how many -/
def SetN (a : Addr) (n : Nat) : HO := .ext fun h => ∃ o es ep t, h.get? a = some o ∧ o.ExactSet ∧ o.data = .set es ep t ∧ t.fits es.size = true ∧ es.size = n ∧ n < 1000
theorem setN_new {w : World} {P : Program} {H : Hp} {h : Heap} {a : Addr} {n : Nat} {o : Obj} {es : Array (Int × Value)} {ep : Nat} {t : SetTable} (ho : h.get? a = some o) (hx : o.ExactSet) (hd : o.data = .set es ep t) (hf : t.fits es.size = true) (hn : es.size = n) (n1 : n < 1000) : ObjOk P w H h a (SetN a n) :=
  ⟨⟨o, es, ep, t, ho, hx, hd, hf, hn, n1⟩, ⟨o, ho⟩, fun h1 h2 ⟨o, es, ep, t, ho, r⟩ k => ⟨o, es, ep, t, k o ho, r⟩⟩
theorem firstMet_nd (f : Nat → Int) : ∀ i, (firstMet f i).Nodup
  | 0 => by rw [firstMet_zero]; exact List.nodup_nil
  | i + 1 => by
    rw [firstMet_succ]
    unfold step_dedup
    split
    · exact firstMet_nd f i
    · next c =>
      rw [List.nodup_append]
      refine ⟨firstMet_nd f i, by simp, fun a ha b hb e => c ?_⟩
      rw [List.mem_singleton.mp hb] at e
      exact List.any_eq_true.mpr ⟨a, ha, by rw [e]; exact beq_self_eq_true _⟩
theorem firstMet_mem (ns : List Int) (k : Int) : k ∈ firstMet (fun i => ns.getD i 0) ns.length ↔ k ∈ ns := by
  have a := firstMet_any (fun i => ns.getD i 0) ns.length k
  have e : (List.range ns.length).map (fun i => ns.getD i 0) = ns := by
    refine List.ext_getElem? fun i => ?_
    rw [List.getElem?_map]
    by_cases c : i < ns.length
    · rw [List.getElem?_range c]
      simp [List.getD_eq_getElem?_getD, List.getElem?_eq_getElem c]
    · rw [List.getElem?_eq_none (by simpa using c), List.getElem?_eq_none (by simpa using c)]; rfl
  rw [e] at a
  have b : ∀ l : List Int, l.any (· == k) = true ↔ k ∈ l := fun l => by simp
  rw [← b, a, b]
def rSetIA (K : PySem.W.Frag) : List V → Hp → VK → Prop := fun xs H Q => ∃ (l : Addr) (ns : List Int), xs = [V.ref l] ∧ SqA K H l (ns.map V.int) ∧ ns.length < 64 ∧
  ∀ (p : Addr) (L : List Int), H p = none → L.Nodup → (∀ k, k ∈ L ↔ k ∈ ns) → Q (.ref p) (upd H p (SetN p L.length))
theorem cr_setIA (hc : X.calm = true) : CallR X (.type "set") (rSetIA X.K) := by
  rintro pins s σ H xs us Q I r ⟨l, ns, rfl, hl, hf, q⟩
  rw [Vals.ref1 r]
  rcases hl with hl | hl
  · obtain ⟨its, rv, pl, hz⟩ := I.list hl
    have el : its.toArray.size = ns.length := by rw [List.size_toArray, ← rv.length, List.length_map]
    refine call_set_list (I.ok.hd hc) pl.isList (ns := ns) (by simpa using rv.ints) (by unfold scanBound; omega) ?_
    intro h' tk R k
    rw [el] at R
    have nd := firstMet_nd (fun i => ns.getD i 0) ns.length
    have mm := firstMet_mem ns
    have le := firstMet_length_le (fun i => ns.getD i 0) ns.length
    generalize firstMet (fun i => ns.getD i 0) ns.length = L at R nd mm le
    obtain ⟨o, es, ep, t, ho, hx, hd, _, _, _, hft, hn⟩ := R
    exact ⟨.ref s.heap.objs.size, _, I.laid (t' := tk) (fun b o e => k b o (Heap.lt_size e) e) (Nat.le_refl _) (setN_new ho hx hd hft hn (by omega)), rfl, q _ L (I.hok.fresh (Nat.le_refl _)) nd mm⟩
  · obtain ⟨its, rv, pt, _⟩ := I.tuple hl
    refine call_set_tupI ns (I.ok.hd hc) (show s.heap.IsTuple l its.toArray from pt) (by simpa using rv.ints) (by unfold scanBound; omega) ?_
    rintro h' tk c ⟨o, es, ep, t, ho, hx, hd, _, nd, mm, _, hft, hn, _⟩ lc k
    have q' := q _ (es.toList.map keyOf) (I.hok.fresh (Nat.le_refl _)) nd (fun z => by rw [← mm z]; simp)
    rw [List.length_map, Array.length_toList, hn] at q'
    exact ⟨.ref s.heap.objs.size, _, I.laid (t' := tk) k (Nat.le_refl _) (setN_new ho hx hd hft hn (by omega)), rfl, q'⟩
theorem cr_lenN : CallR X (.builtin "len") (fun xs H Q => ∃ (a : Addr) (n : Nat), xs = [V.ref a] ∧ H a = some (SetN a n) ∧ Q (.int n) H) := by
  rintro pins s σ H xs us Q I r ⟨a, n, rfl, ha, q⟩
  rw [Vals.ref1 r]
  obtain ⟨o, es, ep, t, ho, hx, hd, hf, hn, n1⟩ := (I.hok a _ ha).1
  exact call_len_set ho hx hd hf (by omega) ⟨.int n, H, I.tok _, ⟨_, by rw [hn]⟩, q⟩
/-! ## sorted(xs), xs a list or tuple of ints -/
theorem collect_tup {prog : Program} {w : World} {A : Around} {E : Value → Shared → Prop} {s : Shared} {l : Addr} {vs : List Value} {Q : List Value → Shared → Prop} (ht : s.heap.IsTuple l vs.toArray) (hz : vs.length ≤ sizeLine)
    (fin : Q vs { s with heap := (s.heap.push (seqObj "list" #[] 0)).update s.heap.objs.size (Obj.mapSeq (· ++ vs.toArray)) }) : wpAny (model prog w) A (collect (.ref l)) Q E s := by
  obtain ⟨o, at1, cl1, n, d1⟩ := id ht
  have at2 : (s.heap.push (seqObj "list" #[] 0)).get? l = some o := Heap.get?_push_of_some _ at1
  have new2 : (s.heap.push (seqObj "list" #[] 0)).get? s.heap.objs.size = some (seqObj "list" #[] 0) := Heap.get?_push_size _ rfl
  unfold collect
  apply wpAny_bind; apply wpAny_runValue; apply codeAny_builtin entry_proto_collect'
  show wpAny (model prog w) _ (do again (.builtin "list.__iadd__" ⟨[← newList [], .ref l], []⟩)) _ _ s
  refine wpAny_bind (wpAny_newList ?_); apply wpAny_pure
  refine ⟨Code.quiet_builtin _ (by decide +kernel), ?_⟩
  apply codeAny_builtin entry_list_iadd'
  show wpAny (model prog w) _ (Builtin.List.listExtendWith (.ref s.heap.objs.size) (.ref l) (.ref s.heap.objs.size)) _ _ { s with heap := s.heap.push (seqObj "list" #[] 0) }
  unfold Builtin.List.listExtendWith
  apply wpAny_bind
  refine wpAny_typeOf (v := Value.ref l) (T := "tuple") ⟨o, at2, cl1⟩ ?_
  rw [if_pos (by
    have e : (Value.type "tuple" == Value.type "tuple") = true := by rfl
    rw [e]; simp)]
  apply wpAny_bind; apply listItems_at at2 d1
  apply wpAny_bind; apply listItems_at (xs := #[]) (n := 0) new2 rfl
  rw [if_neg (by simp)]
  apply wpAny_bind
  refine listUpdate_at (xs := #[]) (n := 0) new2 rfl ?_ (Nat.zero_le _) (by simp; omega)
  apply wpAny_pure
  show wpAny (model prog w) A (load s.heap.objs.size >>= _) Q E { s with heap := (s.heap.push (seqObj "list" #[] 0)).update s.heap.objs.size (Obj.mapSeq (· ++ vs.toArray)) }
  apply wpAny_bind
  refine wpAny_load (get?_update_seq new2 _) ?_
  have e3 : ((#[] : Array Value) ++ vs.toArray).toList = vs := by simp
  show wpAny (model prog w) A (pure ((#[] : Array Value) ++ vs.toArray).toList) Q E _
  rw [e3]
  exact wpAny_pure fin
end
end Tk
namespace Tk
open PySem PySem.Spec PyProof.Rows L2
section
variable {prog : Program} {w : World} {A : Around} {E : Value → Shared → Prop} {s : Shared}
theorem sorted_tup {l : Addr} {vs : List Value} {ltv : Value → Value → Bool} {Q : Value → Shared → Prop} (O : SrtO.Swo ltv) (ht : s.heap.IsTuple l vs.toArray) (hz : vs.length ≤ sizeLine)
    (able : 2 ≤ vs.length → ∀ (h1 : Heap) (a : Addr), h1.get? a = some (seqObj "list" vs.toArray 0) → (∀ b o, s.heap.get? b = some o → b ≠ a ∧ h1.get? b = some o) → SrtO.SortableO prog w A.in1.in1 { s with heap := h1 } a vs ltv)
    (fin : ∀ out : List Value, SrtO.Srtd ltv out → SrtO.Stb ltv out vs → Q (.ref (s.heap.objs.size + 1)) { s with heap := sortedAll s.heap vs out.toArray }) :
    wpAny (model prog w) A (call (.builtin "sorted") [.ref l]) Q E s := by
  apply Calls.call_function_entry kind_sorted plain_sorted entry_sorted (args_sorted1 _)
  unfold Builtin.«sorted»
  apply wpAny_bind (m := checkCount "sorted" 1 1 _)
  apply wpAny_pure; apply wpAny_bind
  apply collect_tup ht hz; apply wpAny_bind
  refine wpAny_newList ?_ hz
  generalize hcp : (s.heap.push (seqObj "list" #[] 0)).update s.heap.objs.size (Obj.mapSeq (· ++ vs.toArray)) = h1
  have z1 : h1.objs.size = s.heap.objs.size + 1 := by rw [← hcp, Heap.size_update, Heap.size_push]
  have new2 : (h1.push (seqObj "list" vs.toArray 0)).get? (s.heap.objs.size + 1) = some (seqObj "list" vs.toArray 0) := by rw [← z1]; exact Heap.get?_push_size _ rfl
  have old : ∀ b o, s.heap.get? b = some o → b ≠ s.heap.objs.size + 1 ∧ (h1.push (seqObj "list" vs.toArray 0)).get? b = some o := by
    intro b o e
    have lt := Heap.lt_size e
    refine ⟨Nat.ne_of_lt (Nat.lt_succ_of_lt lt), Heap.get?_push_of_some _ ?_⟩
    rw [← hcp, Heap.get?_update_ne _ _ _ _ (Nat.ne_of_lt lt)]
    exact Heap.get?_push_of_some _ e
  show wpAny _ _ _ _ _ { s with heap := h1.push (seqObj "list" vs.toArray 0) }
  rw [z1]
  refine wpAny_bind (wpAny_holding (wpAny_call_entry slot_list_sort ⟨_, new2, rfl⟩ entry_list_sort (SrtO.list_sort_ord O new2 hz (fun m => able m _ _ new2 old) fun out a b => ⟨_, rfl, ?_⟩) (args_list_sort _)))
  subst hcp
  exact wpAny_pure ⟨_, rfl, fin out a b⟩
end
section
variable {X : Cx}
def rSortedIA (K : PySem.W.Frag) : List V → Hp → VK → Prop := fun vs H Q => ∃ (a : Addr) (ns : List Int), vs = [V.ref a] ∧ SqA K H a (ns.map V.int) ∧
  ∀ (ns' : List Int) (p : Addr), ns'.Perm ns → ns'.Pairwise (· ≤ ·) → H p = none → Q (.ref p) (upd H p (.lst (ns'.map V.int)))
theorem cr_sortedIA : CallR X (.builtin "sorted") (rSortedIA X.K) := by
  rintro pins s σ H vs us Q I r ⟨a, ns, rfl, hs, q⟩
  rcases hs with hs | hs
  · exact cr_sortedI pins s σ H _ us Q I r ⟨a, ns, rfl, hs, q⟩
  · rw [Vals.ref1 r]
    obtain ⟨its, rv, pt, _⟩ := I.tuple hs
    have hi := rv.ints
    have il : its.length = ns.length := by rw [← rv.length, List.length_map]
    have hz : ns.length ≤ sizeLine := by
      have := (I.tuple hs)
      obtain ⟨its2, rv2, _, z2⟩ := this
      rw [List.length_map] at z2
      exact z2
    refine sorted_tup SrtO.swo_int (show s.heap.IsTuple a its.toArray from pt) (by omega) (fun m h1 a' _ _ => SrtO.ints_sortable hi m) fun out h1 h2 => ?_
    obtain ⟨k1, k2, k3⟩ := SrtO.ints_out hi h1 h2
    obtain ⟨ep, he⟩ := PyProof.Rows.sortedAll_at s.heap its out.toArray
    have hl : ((out.map SrtO.iv).map V.int).length ≤ sizeLine := by rw [List.length_map, k2.length_eq]; exact hz
    exact ⟨.ref (s.heap.objs.size + 1), upd H (s.heap.objs.size + 1) (.lst ((out.map SrtO.iv).map V.int)), I.laid (t' := s.toks) (fun _ _ => PyProof.Rows.sortedAll_old) (Nat.le_succ _) ⟨hl, out, ep, vals_of_ints k1, he⟩, rfl, q _ _ k2 k3 (I.hok.fresh (Nat.le_succ _))⟩
end
end Tk

namespace Tk
open PySem PySem.Spec PyProof.Rows L2
section
variable {X : Cx}
def rSetTA (K : PySem.W.Frag) (P : Program) (w : World) : List V → Hp → VK → Prop := fun xs H Q => ∃ (l : Addr) (ks : List (Addr × List Int)), xs = [V.ref l] ∧ SqA K H l (ks.map fun p => V.ref p.1) ∧ (∀ p ∈ ks, SqT K H p.1 (p.2.map V.int)) ∧ ks.length < 64 ∧
  ∀ a L, H a = none → (∀ p ∈ L, p ∈ ks) → (∀ p ∈ ks, p.2 ∈ L.map (·.2)) → Q (.ref a) (upd H a (SetTO P w a L))
theorem cr_setTA (hc : X.calm = true) (hu : X.A.units + 64 < cLine) : CallR X (.type "set") (rSetTA X.K X.prog X.w) := by
  rintro pins s σ H xs us Q I r ⟨l, ks, rfl, hl, hk, hf, q⟩
  rcases hl with hl | hl
  · exact cr_setOfT hc hu pins s σ H _ us Q I r ⟨l, ks, rfl, hl, hk, hf, q⟩
  · exact cr_setTT hc hu pins s σ H _ us Q I r ⟨l, ks, rfl, hl, hk, hf, q⟩
end
end Tk

namespace Tk
open PySem PySem.Spec PyProof.Rows L2
def top (i : Nat) : Stmt := PySem.Challenge.pw_toldpushes_k42_any_value_as_barred_lot.main.body.getD i (.Pass ⟨0, 0, 0, 0⟩)
abbrev sIsInt : Stmt := top 1
abbrev sIsCnt : Stmt := top 2
abbrev sIsLst : Stmt := top 3
abbrev sIsThg : Stmt := top 5
abbrev sIsPair : Stmt := top 6
abbrev sArePairs : Stmt := top 7
abbrev sAreArr : Stmt := top 8
abbrev sAreTies : Stmt := top 9
abbrev sAreThings : Stmt := top 10
abbrev sTurned : Stmt := top 11
abbrev sBothWays : Stmt := top 12
abbrev sWithin : Stmt := top 13
abbrev sOrdOf : Stmt := top 14
abbrev sReached : Stmt := top 15
abbrev sIsSize : Stmt := top 25
abbrev sChkSize : Stmt := top 26
abbrev sInit : Stmt := inClass (top 28) 0
abbrev sWidth : Stmt := inClass (top 28) 1
abbrev sArrows : Stmt := inClass (top 28) 2
abbrev sTies : Stmt := inClass (top 28) 3
abbrev sChkPlan : Stmt := top 30
abbrev sIsRising : Stmt := top 31
abbrev sIsLotOf : Stmt := top 32
abbrev sChkLot : Stmt := top 33
abbrev sHead : Stmt := top 35
abbrev sHangs : Stmt := top 36
abbrev sIsBarred : Stmt := top 37
abbrev sPot : Stmt := top 39
abbrev sDraw : Stmt := top 40
abbrev sPick : Stmt := top 41
abbrev sLeaders : Stmt := top 42
abbrev sHeads : Stmt := top 43
abbrev sHung : Stmt := top 44
abbrev sLHangs : Stmt := top 45
abbrev sLots : Stmt := top 46
abbrev sIsBar : Stmt := top 47
abbrev sOrder : Stmt := top 48
abbrev sWorld : Stmt := top 49
abbrev sMade : Stmt := top 50
abbrev sDueF : Stmt := top 51
abbrev sValues : Stmt := top 52
abbrev sRight : Stmt := top 53
abbrev sLaw : Stmt := top 54

/-- a def of the text under its own name -/
structure Df (K : PySem.W.Frag) (mg : Str → Option Value) (nm : Str) (st : Stmt) (ps : List Str) (f : Addr) (fd : FuncData) : Prop where
  F : Fun K nm nm st f fd
  g : mg nm = some (.ref f)
  b : Binds K fd ps []
/-- the built-in names still mean what they mean -/
structure Bl (mg : Str → Option Value) : Prop where
  isi : mg "isinstance" = none
  int : mg "int" = none
  bool : mg "bool" = none
  list : mg "list" = none
  tuple : mg "tuple" = none
  len : mg "len" = none
  all : mg "all" = none
  any : mg "any" = none
  set : mg "set" = none
  range : mg "range" = none
  sorted : mg "sorted" = none
  sum : mg "sum" = none
  abs : mg "abs" = none
  max : mg "max" = none
  min : mg "min" = none
  divmod : mg "divmod" = none
  repr : mg "repr" = none
  enumerate : mg "enumerate" = none
  zip : mg "zip" = none

/-! ## kinds of values -/
inductive IntV (K : PySem.W.Frag) (H : Hp) : V → Option Int → Prop
  | int (i : Int) : IntV K H (.int i) (some i)
  | bl (b : Bool) : IntV K H (.bl b) none
  | oth {v : V} {ty : String} (h : TyX K H v (.type ty)) (k : kitB ty "int" = some false) : IntV K H v none
inductive SqV (K : PySem.W.Frag) (H : Hp) : V → Option (List V) → Prop
  | sq {a : Addr} {xs : List V} (h : SqA K H a xs) : SqV K H (.ref a) (some xs)
  | no {v : V} {ty : String} (h : TyX K H v (.type ty)) (k : kitB ty "list" = some false) (k2 : kitB ty "tuple" = some false) : SqV K H v none
theorem tyx_s {K : PySem.W.Frag} {H H' : Hp} {v t : _} (h : TyX K H v t) (e : Same H H') : TyX K H' v t := by
  cases h with
  | base b =>
    refine .base ?_
    cases b with
    | non => exact .non
    | bl x => exact .bl x
    | int i => exact .int i
    | str x => exact .str x
    | flt x => exact .flt x
    | lst q => exact .lst (e _ _ q)
    | frz q => exact .frz (e _ _ q)
    | tup q => exact .tup (e _ _ q)
    | dK q => exact .dK (e _ _ q)
    | dT q => exact .dT (e _ _ q)
    | ins q a1 a2 a3 a4 a5 => exact .ins (e _ _ q) a1 a2 a3 a4 a5
  | byt b => exact .byt b
  | set q => exact .set (e _ _ q)
  | kList q c => exact .kList q c
  | kTuple q c => exact .kTuple q c
  | kDict q c => exact .kDict q c
  | fTuple q => exact .fTuple (e _ _ q)
  | fDict q => exact .fDict (e _ _ q)
theorem intv_s {K : PySem.W.Frag} {H H' : Hp} {v : V} {o : Option Int} (h : IntV K H v o) (e : Same H H') : IntV K H' v o := by
  cases h with
  | int i => exact .int i
  | bl b => exact .bl b
  | oth h k => exact .oth (tyx_s h e) k
theorem sqv_s {K : PySem.W.Frag} {H H' : Hp} {v : V} {o : Option (List V)} (h : SqV K H v o) (e : Same H H') : SqV K H' v o := by
  cases h with
  | sq h => exact .sq (same_a e h)
  | no h k k2 => exact .no (tyx_s h e) k k2
def cntO : Option Int → Bool
  | some i => decide (0 ≤ i)
  | none => false
def thgO (n : Int) : Option Int → Bool
  | some i => decide (0 ≤ i) && decide (i < n)
  | none => false
/-! ## promises -/
def spIsInt (K : PySem.W.Frag) : Sp := fun vs H Q _ => ∃ (v : V) (o : Option Int), vs = [v] ∧ IntV K H v o ∧ Q (.bl o.isSome) H
def spIsCnt (K : PySem.W.Frag) : Sp := fun vs H Q _ => ∃ (v : V) (o : Option Int), vs = [v] ∧ IntV K H v o ∧ Q (.bl (cntO o)) H
def spIsThg (K : PySem.W.Frag) : Sp := fun vs H Q _ => ∃ (n : Int) (v : V) (o : Option Int), vs = [.int n, v] ∧ IntV K H v o ∧ Q (.bl (thgO n o)) H
def spIsLst (K : PySem.W.Frag) : Sp := fun vs H Q _ => ∃ (v : V) (o : Option (List V)), vs = [v] ∧ SqV K H v o ∧ ∀ H', Same H H' → Q (.bl o.isSome) H'

section
variable {P : Program} {w : World} {K : PySem.W.Frag} {mg : Str → Option Value} {base : Heap}
theorem sc_isInt : FnScope ["value"] ["value"] (defScope sIsInt) := ⟨rfl, rfl, rfl, by decide +kernel, rfl, by decide +kernel, by decide +kernel⟩
theorem ok_isInt {f : Addr} {fd : FuncData} (F : Fun K "is_integer" "is_integer" sIsInt f fd) (B : Bl mg) : FnOk P w K mg base CX0 1 f fd ["value"] (spIsInt K) := by
  refine F.ok sc_isInt (fun vs H Q E h => ?_) (fun cdv A outer s H vs Q E hr h => ?_)
  · obtain ⟨i, _, rfl, _⟩ := h
    rfl
  · obtain ⟨v, o, rfl, hv, q⟩ := h
    refine ⟨_, pss_one (ps_ret (pe_and
      (pe_callB call_isi (by rfl) B.isi PyProof.Rows.boot_isinstance (pa_cons (pv 0) (pa_cons (pe_bltn (v := .ty "int") (by rfl) B.int PyProof.Rows.boot_int rfl) pa_nil)))
      (pe_one (pe_not (pe_callB call_isi (by rfl) B.isi PyProof.Rows.boot_isinstance (pa_cons (pv 0) (pa_cons (pe_bltn (v := .ty "bool") (by rfl) B.bool PyProof.Rows.boot_bool rfl) pa_nil))))))), ?_⟩
    cases hv with
    | int i =>
      refine ⟨_, rfl, _, _, _, _, true, rfl, .ty _, .base (.int i), kit_ty (by decide +kernel), true, rfl, iteT ?_⟩
      exact ⟨_, rfl, _, _, _, _, false, rfl, .ty _, .base (.int i), kit_ty (by decide +kernel), false, rfl, q⟩
    | bl b =>
      refine ⟨_, rfl, _, _, _, _, true, rfl, .ty _, .base (.bl b), kit_ty (by decide +kernel), true, rfl, iteT ?_⟩
      exact ⟨_, rfl, _, _, _, _, true, rfl, .ty _, .base (.bl b), kit_ty (by decide +kernel), true, rfl, q⟩
    | oth h k =>
      exact ⟨_, rfl, _, _, _, _, false, rfl, .ty _, h, kit_ty k, false, rfl, iteF q⟩

theorem sc_isCnt : FnScope ["value"] ["value"] (defScope sIsCnt) := ⟨rfl, rfl, rfl, by decide +kernel, rfl, by decide +kernel, by decide +kernel⟩
theorem ok_isCnt {f f1 : Addr} {fd fd1 : FuncData} (F : Fun K "is_count" "is_count" sIsCnt f fd) (D1 : Df K mg "is_integer" sIsInt ["value"] f1 fd1) (B : Bl mg) : FnOk P w K mg base CX0 2 f fd ["value"] (spIsCnt K) := by
  have G1 : FnOk P w K mg base CX0 1 f1 fd1 ["value"] (spIsInt K) := ok_isInt D1.F B
  refine F.ok sc_isCnt (fun vs H Q E h => ?_) (fun cdv A outer s H vs Q E hr h => ?_)
  · obtain ⟨i, _, rfl, _⟩ := h
    rfl
  · obtain ⟨v, o, rfl, hv, q⟩ := h
    refine ⟨_, pss_one (ps_ret (pe_and (pe_call G1 hr rfl D1.g D1.F.kp D1.b .nil pass0 (pa_cons (pv 0) pa_nil)) (pe_one (pe_cmpR op_ge (pv 0) pe_int (nomark _))))), ?_⟩
    refine ⟨_, rfl, v, o, rfl, hv, o.isSome, rfl, ?_⟩
    cases hv with
    | int i => exact iteT ⟨_, rfl, _, _, rfl, rfl, q⟩
    | bl b => exact iteF q
    | oth h k => exact iteF q

theorem sc_isThg : FnScope ["size", "value"] ["size", "value"] (defScope sIsThg) := ⟨rfl, rfl, rfl, by decide +kernel, rfl, by decide +kernel, by decide +kernel⟩
theorem ok_isThg {f f1 f2 : Addr} {fd fd1 fd2 : FuncData} (F : Fun K "is_thing" "is_thing" sIsThg f fd) (D1 : Df K mg "is_integer" sIsInt ["value"] f1 fd1) (D2 : Df K mg "is_count" sIsCnt ["value"] f2 fd2) (B : Bl mg) :
    FnOk P w K mg base CX0 3 f fd ["size", "value"] (spIsThg K) := by
  have G2 : FnOk P w K mg base CX0 2 f2 fd2 ["value"] (spIsCnt K) := ok_isCnt D2.F D1 B
  refine F.ok sc_isThg (fun vs H Q E h => ?_) (fun cdv A outer s H vs Q E hr h => ?_)
  · obtain ⟨n, i, _, rfl, _⟩ := h
    rfl
  · obtain ⟨n, v, o, rfl, hv, q⟩ := h
    refine ⟨_, pss_one (ps_ret (pe_and (pe_call G2 hr rfl D2.g D2.F.kp D2.b .nil pass0 (pa_cons (pv 1) pa_nil)) (pe_one (pe_cmpR op_lt (pv 1) (pv 0) (nomark _))))), ?_⟩
    refine ⟨_, rfl, v, o, rfl, hv, cntO o, rfl, ?_⟩
    cases hv with
    | int i =>
      show if cntO (some i) = true then _ else _
      by_cases h0 : 0 ≤ i
      · rw [show cntO (some i) = true from decide_eq_true h0]
        refine iteT ⟨_, rfl, _, rfl, _, _, rfl, rfl, ?_⟩
        rw [show thgO n (some i) = decide (i < n) by simp [thgO, h0]] at q
        exact q
      · rw [show cntO (some i) = false from decide_eq_false h0]
        rw [show thgO n (some i) = false by simp [thgO, h0]] at q
        exact iteF q
    | bl b => exact iteF q
    | oth h k => exact iteF q
theorem sc_isLst : FnScope ["value"] ["value"] (defScope sIsLst) := ⟨rfl, rfl, rfl, by decide +kernel, rfl, by decide +kernel, by decide +kernel⟩
theorem kit_any2 {t : String} {b : Bool} (h : kitB t "list" = some false) (h2 : kitB t "tuple" = some b) : PySem.W.kitAny K (.type t) [.type "list", .type "tuple"] = some b := by
  refine kitAny_cons (b := false) (kit_ty h) (fun _ => ?_) (fun z => nomatch z)
  cases b with
  | true => exact kitAny_cons (b := true) (kit_ty h2) (fun z => nomatch z) (fun _ => rfl)
  | false => exact kitAny_cons (b := false) (kit_ty h2) (fun _ => rfl) (fun z => nomatch z)
theorem ok_isLst {f : Addr} {fd : FuncData} (F : Fun K "is_list" "is_list" sIsLst f fd) (B : Bl mg) : FnOk P w K mg base CX0 1 f fd ["value"] (spIsLst K) := by
  refine F.ok sc_isLst (fun vs H Q E h => ?_) (fun cdv A outer s H vs Q E hr h => ?_)
  · obtain ⟨i, _, rfl, _⟩ := h
    rfl
  · obtain ⟨v, o, rfl, hv, q⟩ := h
    refine ⟨_, pss_one (ps_ret (pe_callB call_isiT (by rfl) B.isi PyProof.Rows.boot_isinstance (pa_cons (pv 0) (pa_cons
      (pe_tup (pa_cons (pe_bltn (v := .ty "list") (by rfl) B.list PyProof.Rows.boot_list rfl) (pa_cons (pe_bltn (v := .ty "tuple") (by rfl) B.tuple PySem.Pv.boot_tuple rfl) pa_nil))) pa_nil)))), ?_⟩
    refine ⟨_, rfl, szle (by decide), fun p hp => ?_⟩
    have hv' := sqv_s hv (same_new (o := .tup [.ty "list", .ty "tuple"]) hp)
    cases hv' with
    | sq h =>
      rcases h with h | h
      · exact ⟨_, p, [.ty "list", .ty "tuple"], _, [.type "list", .type "tuple"], true, rfl, upd_same, .cons (.ty _) (.cons (.ty _) .nil), tyx_l h, kit_lt, q _ (same_new hp)⟩
      · exact ⟨_, p, [.ty "list", .ty "tuple"], _, [.type "list", .type "tuple"], true, rfl, upd_same, .cons (.ty _) (.cons (.ty _) .nil), tyx_t h, kit_any2 (by decide +kernel) (by decide +kernel), q _ (same_new hp)⟩
    | no h k k2 => exact ⟨_, p, [.ty "list", .ty "tuple"], _, [.type "list", .type "tuple"], false, rfl, upd_same, .cons (.ty _) (.cons (.ty _) .nil), h, kit_any2 k k2, q _ (same_new hp)⟩
end
end Tk

namespace Tk
open PySem PySem.Spec PyProof.Rows L2
/-- of two unlike things of a plan of this size: True -/
def spIsPair (K : PySem.W.Frag) : Sp := fun vs H Q _ => ∃ (n i j : Int) (t : Addr), vs = [.int n, .ref t] ∧ SqT K H t [.int i, .int j] ∧ 0 ≤ i ∧ i < n ∧ 0 ≤ j ∧ j < n ∧ i ≠ j ∧ ∀ H', Same H H' → Q (.bl true) H'
/-- pairs of unlike things -/
def Prs (n : Int) (ps : List (Int × Int)) : Prop := ps.Nodup ∧ ps.length < 60 ∧ ∀ p ∈ ps, 0 ≤ p.1 ∧ p.1 < n ∧ 0 ≤ p.2 ∧ p.2 < n ∧ p.1 ≠ p.2
def spArePairs (K : PySem.W.Frag) : Sp := fun vs H Q _ => ∃ (n : Int) (a : Addr) (ps : List (Int × Int)), vs = [.int n, .ref a] ∧ PA2 K H a ps ∧ Prs n ps ∧ ∀ H', Same H H' → Q (.bl true) H'
section
variable {P : Program} {w : World} {K : PySem.W.Frag} {mg : Str → Option Value} {base : Heap}
theorem sc_isPair : FnScope ["size", "value", "thing"] ["size", "value"] (defScope sIsPair) := ⟨rfl, rfl, rfl, by decide +kernel, rfl, by decide +kernel, by decide +kernel⟩
theorem ok_isPair {f f1 f2 f3 : Addr} {fd fd1 fd2 fd3 : FuncData} (F : Fun K "is_pair" "is_pair" sIsPair f fd) (D1 : Df K mg "is_integer" sIsInt ["value"] f1 fd1) (D2 : Df K mg "is_count" sIsCnt ["value"] f2 fd2)
    (D3 : Df K mg "is_thing" sIsThg ["size", "value"] f3 fd3) (B : Bl mg) : FnOk P w K mg base CX0 4 f fd ["size", "value"] (spIsPair K) := by
  have G3 : FnOk P w K mg base CX0 3 f3 fd3 ["size", "value"] (spIsThg K) := ok_isThg D3.F D1 D2 B
  refine F.ok sc_isPair (fun vs H Q E h => ?_) (fun cdv A outer s H vs Q E hr h => ?_)
  · obtain ⟨n, i, j, t, rfl, _⟩ := h
    rfl
  · obtain ⟨n, i, j, t, rfl, ht, i0, i1, j0, j1, hne, q⟩ := h
    refine ⟨_, pss_cons (ps_if (PW.pt (pw_or (pt_not (pt_val (pe_callB call_isi (by rfl) B.isi PyProof.Rows.boot_isinstance (pa_cons (pv 1) (pa_cons (pe_bltn (v := .ty "tuple") (by rfl) B.tuple PySem.Pv.boot_tuple rfl) pa_nil)))))
        (pw_or1 (pt_cmpR op_ne (pe_callB call_len_seq (by rfl) B.len PySem.boot_len (pa_cons (pv 1) pa_nil)) pe_int (nomark _))))) (pss_one (ps_ret pe_bl)) pss_nil)
      (pss_one (ps_ret (pe_and (pe_callB (cr_all rfl) (by rfl) B.all PyProof.Rows.boot_all (pa_cons
          (pe_lc (own := [("thing", 2)]) (g := gName 2) (tt := tYes) rfl sc_isPair.nd (pi_tup (pv 1)) (blkOk_by (N := ["size", "value", "thing"]) (sc := defScope sIsPair) (by decide +kernel))
            (fun _ _ _ _ _ => pg_name (i := 2) sc_isPair.nd rfl (Or.inl rfl)) (fun _ _ _ _ _ => pts_nil)
            (fun _ _ _ _ _ => pe_call G3 hr rfl D3.g D3.F.kp D3.b .nil pass0 (pa_cons (pv 0) (pa_cons (pv 2) pa_nil)))) pa_nil))
        (pe_one (pe_cmpR op_ne (pe_ix ix_tup (pv 1) pe_int (fun _ _ => rfl)) (pe_ix ix_tup (pv 1) pe_int (fun _ _ => rfl)) (nomark _)))))), ?_⟩
    refine ⟨_, rfl, _, _, _, _, true, rfl, .ty _, tyx_t ht, kit_ty (by decide +kernel), true, rfl, iteF ?_⟩
    refine ⟨_, rfl, t, _, rfl, .inr ht, rfl, false, (by show V.bl (!decide (V.int 2 = V.int 2)) = V.bl false; decide), iteF ?_⟩
    refine ⟨_, rfl, t, rfl, ⟨_, ht⟩, fun D hD => ?_⟩
    refine lc_tup (xs := [.int i, .int j]) (LcP H D fun k => (List.replicate k (.bl true))) (lcp_0 hD rfl) (fun k H1 _ p => same_t p.1 ht) ?_ ?_
    · intro k x H1 hx p
      have hk : k < 2 := lt_of_at hx
      obtain ⟨m, rfl, m0, m1⟩ : ∃ m, x = V.int m ∧ 0 ≤ m ∧ m < n := by
        match k, hk, hx with
        | 0, _, hx => exact ⟨i, (Option.some.inj hx).symm, i0, i1⟩
        | 1, _, hx => exact ⟨j, (Option.some.inj hx).symm, j0, j1⟩
      refine ⟨rfl, _, rfl, _, rfl, n, .int m, some m, rfl, .int m, ?_⟩
      rw [show thgO n (some m) = true by simp [thgO, m0, m1]]
      exact lcp_put hD p (by simp [List.replicate_succ']) (by simp; omega)
    · intro H1 p
      refine ⟨D, [true, true], rfl, sl_of p.2, true, rfl, iteT ?_⟩
      have ht1 := same_t p.1 ht
      refine ⟨_, rfl, t, _, _, _, rfl, rfl, ht1, rfl, _, rfl, t, _, _, _, rfl, rfl, ht1, rfl, rfl, ?_⟩
      have e : (!decide (V.int i = V.int j)) = true := by
        simp [hne]
      rw [e]
      exact q H1 p.1
end
end Tk

/-! plain mathematics: lists of pairs, orders, reaching -/
namespace Tk
theorem nodup_le {α : Type} [DecidableEq α] : ∀ {l m : List α}, l.Nodup → (∀ x ∈ l, x ∈ m) → l.length ≤ m.length
  | [], _, _, _ => Nat.zero_le _
  | x :: l, m, hn, hs => by
    have hx : x ∈ m := hs x (List.mem_cons_self ..)
    have hn' := List.nodup_cons.mp hn
    have h := nodup_le (l := l) (m := m.erase x) hn'.2 (fun y hy => by
      have hne : y ≠ x := fun e => hn'.1 (e ▸ hy)
      exact (List.mem_erase_of_ne hne).mpr (hs y (List.mem_cons_of_mem _ hy)))
    have hl := List.length_erase_of_mem hx
    have hp : 0 < m.length := List.length_pos_of_mem hx
    simp only [List.length_cons]
    omega
theorem nodup_eq {α : Type} [DecidableEq α] {l m : List α} (hl : l.Nodup) (hm : m.Nodup) (h : ∀ x, x ∈ l ↔ x ∈ m) : l.length = m.length :=
  Nat.le_antisymm (nodup_le hl fun x hx => (h x).mp hx) (nodup_le hm fun x hx => (h x).mpr hx)
/-- the things of a plan of this size -/
def things (n : Nat) : List Int := (List.range n).map Int.ofNat
theorem mem_things {n : Nat} {x : Int} : x ∈ things n ↔ 0 ≤ x ∧ x < n := by
  unfold things
  rw [List.mem_map]
  constructor
  · rintro ⟨k, hk, rfl⟩
    have := List.mem_range.mp hk
    exact ⟨by simp, by simpa using this⟩
  · rintro ⟨h0, h1⟩
    exact ⟨x.toNat, List.mem_range.mpr (by omega), by simp; omega⟩
theorem things_nodup (n : Nat) : (things n).Nodup := by
  unfold things
  show List.Pairwise _ _
  rw [List.pairwise_map]
  exact List.Pairwise.imp (fun h e => h (Int.ofNat.inj e)) (List.nodup_range (n := n))
theorem things_len (n : Nat) : (things n).length = n := by simp [things]

/-- along the list each arrow goes from an earlier to a later place -/
structure Topo (n : Nat) (ps : List (Int × Int)) (o : List Int) : Prop where
  nd : o.Nodup
  mem : ∀ x, x ∈ o ↔ x ∈ things n
  at_ : ∀ p ∈ ps, ∀ i j : Nat, o[i]? = some p.1 → o[j]? = some p.2 → i < j
/-- some numbering rises along the arrows -/
def Acy (ps : List (Int × Int)) : Prop := ∃ r : Int → Nat, ∀ p ∈ ps, r p.1 < r p.2
/-- an order on its way: o told, l left -/
structure OInv (n : Nat) (ps : List (Int × Int)) (o l : List Int) : Prop where
  no : o.Nodup
  nl : l.Nodup
  dj : ∀ x ∈ o, x ∉ l
  al : ∀ x, x ∈ things n ↔ x ∈ o ∨ x ∈ l
  st : ∀ p ∈ ps, p.2 ∈ o → p.1 ∈ o
  at_ : ∀ p ∈ ps, ∀ i j : Nat, o[i]? = some p.1 → o[j]? = some p.2 → i < j
theorem oinv_0 (n : Nat) (ps : List (Int × Int)) : OInv n ps [] (things n) :=
  ⟨List.nodup_nil, things_nodup n, (fun _ h => nomatch h), (fun x => by simp), (fun _ _ h => nomatch h), (fun _ _ i j h => by simp at h)⟩
theorem oinv_end {n : Nat} {ps : List (Int × Int)} {o : List Int} (h : OInv n ps o []) : Topo n ps o :=
  ⟨h.no, fun x => by rw [h.al x]; simp, h.at_⟩
/-- some thing left that nothing left pushes -/
theorem has_free {l : List Int} {ps : List (Int × Int)} (ha : Acy ps) (hl : l ≠ []) : ∃ x ∈ l, ∀ p ∈ ps, p.1 ∈ l → p.2 ≠ x := by
  obtain ⟨r, hr⟩ := ha
  have : ∀ (k : Nat) (x : Int), x ∈ l → r x ≤ k → ∃ y ∈ l, ∀ p ∈ ps, p.1 ∈ l → p.2 ≠ y := by
    intro k
    induction k with
    | zero =>
      intro x hx h0
      refine ⟨x, hx, fun p hp _ e => ?_⟩
      have := hr p hp
      rw [e] at this
      omega
    | succ k ih =>
      intro x hx h0
      by_cases c : ∃ p ∈ ps, p.1 ∈ l ∧ p.2 = x
      · obtain ⟨p, hp, h1, h2⟩ := c
        have := hr p hp
        rw [h2] at this
        exact ih p.1 h1 (by omega)
      · exact ⟨x, hx, fun p hp h1 h2 => c ⟨p, hp, h1, h2⟩⟩
  cases l with
  | nil => exact absurd rfl hl
  | cons x l => exact this (r x) x (List.mem_cons_self ..) (Nat.le_refl _)
/-- the ends of the arrows from what is left -/
def pushedL (ps : List (Int × Int)) (l : List Int) : List Int := (ps.filter fun p => decide (p.1 ∈ l)).map (·.2)
def freeL (ps : List (Int × Int)) (l : List Int) : List Int := l.filter fun x => !decide (x ∈ pushedL ps l)
theorem mem_pushedL {ps : List (Int × Int)} {l : List Int} {x : Int} : x ∈ pushedL ps l ↔ ∃ p ∈ ps, p.1 ∈ l ∧ p.2 = x := by
  unfold pushedL
  simp only [List.mem_map, List.mem_filter, decide_eq_true_eq]
  constructor
  · rintro ⟨p, ⟨h1, h2⟩, h3⟩; exact ⟨p, h1, h2, h3⟩
  · rintro ⟨p, h1, h2, h3⟩; exact ⟨p, ⟨h1, h2⟩, h3⟩
theorem mem_freeL {ps : List (Int × Int)} {l : List Int} {x : Int} : x ∈ freeL ps l ↔ x ∈ l ∧ ∀ p ∈ ps, p.1 ∈ l → p.2 ≠ x := by
  unfold freeL
  simp only [List.mem_filter, Bool.not_eq_true', decide_eq_false_iff_not, mem_pushedL]
  constructor
  · rintro ⟨h1, h2⟩; exact ⟨h1, fun p hp h3 h4 => h2 ⟨p, hp, h3, h4⟩⟩
  · rintro ⟨h1, h2⟩; exact ⟨h1, fun ⟨p, hp, h3, h4⟩ => h2 p hp h3 h4⟩
theorem freeL_ne {ps : List (Int × Int)} {l : List Int} (ha : Acy ps) (hl : l ≠ []) : freeL ps l ≠ [] := by
  obtain ⟨x, h1, h2⟩ := has_free ha hl
  intro e
  have : x ∈ freeL ps l := mem_freeL.mpr ⟨h1, h2⟩
  rw [e] at this
  exact nomatch this
theorem oinv_step {n : Nat} {ps : List (Int × Int)} {o l : List Int} {x : Int} (h : OInv n ps o l) (hr : ∀ p ∈ ps, p.1 ∈ things n) (hx : x ∈ freeL ps l) : OInv n ps (o ++ [x]) (l.erase x) := by
  obtain ⟨h1, h2⟩ := mem_freeL.mp hx
  have xo : x ∉ o := fun z => h.dj x z h1
  have starts : ∀ p ∈ ps, p.2 = x → p.1 ∈ o := fun p hp e => by
    rcases (h.al p.1).mp (hr p hp) with z | z
    · exact z
    · exact absurd e (h2 p hp z)
  refine ⟨?_, h.nl.erase x, ?_, ?_, ?_, ?_⟩
  · rw [List.nodup_append]
    refine ⟨h.no, by simp, ?_⟩
    intro a ha b hb e
    simp at hb
    subst hb
    subst e
    exact xo ha
  · intro y hy z
    rcases List.mem_append.mp hy with q | q
    · exact h.dj y q (List.mem_of_mem_erase z)
    · simp at q
      subst q
      exact (List.Nodup.not_mem_erase h.nl) z
  · intro y
    rw [h.al y]
    constructor
    · rintro (q | q)
      · exact .inl (List.mem_append_left _ q)
      · by_cases e : y = x
        · exact .inl (List.mem_append_right _ (by simp [e]))
        · exact .inr ((List.mem_erase_of_ne e).mpr q)
    · rintro (q | q)
      · rcases List.mem_append.mp q with q | q
        · exact .inl q
        · simp at q
          exact .inr (q ▸ h1)
      · exact .inr (List.mem_of_mem_erase q)
  · intro p hp q
    rcases List.mem_append.mp q with q | q
    · exact List.mem_append_left _ (h.st p hp q)
    · simp at q
      exact List.mem_append_left _ (starts p hp q)
  · intro p hp i j hi hj
    by_cases jl : j < o.length
    · rw [List.getElem?_append_left jl] at hj
      have hs : p.1 ∈ o := h.st p hp (List.mem_of_getElem? hj)
      by_cases il : i < o.length
      · rw [List.getElem?_append_left il] at hi
        exact h.at_ p hp i j hi hj
      · rw [List.getElem?_append_right (by omega)] at hi
        have : i - o.length = 0 := by
          cases e : i - o.length with
          | zero => rfl
          | succ k => rw [e] at hi; simp at hi
        rw [this] at hi
        simp at hi
        exact absurd (hi ▸ hs) xo
    · rw [List.getElem?_append_right (by omega)] at hj
      have j0 : j - o.length = 0 := by
        cases e : j - o.length with
        | zero => rfl
        | succ k => rw [e] at hj; simp at hj
      rw [j0] at hj
      simp at hj
      have hs := starts p hp hj.symm
      by_cases il : i < o.length
      · omega
      · rw [List.getElem?_append_right (by omega)] at hi
        have : i - o.length = 0 := by
          cases e : i - o.length with
          | zero => rfl
          | succ k => rw [e] at hi; simp at hi
        rw [this] at hi
        simp at hi
        exact absurd (hi ▸ hs) xo
theorem topo_len {n : Nat} {ps : List (Int × Int)} {o : List Int} (h : Topo n ps o) : o.length = n := by
  rw [nodup_eq h.nd (things_nodup n) h.mem, things_len]
end Tk

namespace Tk
open PySem PySem.Spec PyProof.Rows L2

theorem dec_bl {i j : Int} : V.bl (decide (V.int i = V.int j)) = V.bl (decide (i = j)) := by simp
theorem pl_ks {K : PySem.W.Frag} {H : Hp} : ∀ {ps : List (Int × Int)} {xs : List V}, DpAll K H xs (ps.map dP) → ∃ ks : List (Addr × List Int), xs = ks.map (fun p => V.ref p.1) ∧ ks.map (·.2) = ps.map (fun p => [p.1, p.2]) ∧ ∀ p ∈ ks, SqT K H p.1 (p.2.map V.int)
  | [], _, h => by cases h; exact ⟨[], rfl, rfl, fun p hp => nomatch hp⟩
  | p :: ps, _, h => by
    cases h with
    | cons h1 h2 =>
      obtain ⟨t, rfl, ht⟩ := dP_inv h1
      obtain ⟨ks, rfl, e2, h3⟩ := pl_ks h2
      refine ⟨(t, [p.1, p.2]) :: ks, rfl, by simp [e2], ?_⟩
      intro q hq
      rcases List.mem_cons.mp hq with rfl | hq
      · exact ht
      · exact h3 q hq
theorem prs_ks {n : Int} {ps : List (Int × Int)} (h : Prs n ps) {ks : List (Addr × List Int)} (e : ks.map (·.2) = ps.map (fun p => [p.1, p.2])) : (ks.map (·.2)).Nodup ∧ ks.length < 60 := by
  constructor
  · rw [e]
    show List.Pairwise _ _
    rw [List.pairwise_map]
    refine List.Pairwise.imp (fun {a b} hne q => hne ?_) h.1
    simp at q
    exact Prod.ext q.1 q.2
  · have := congrArg List.length e
    simp at this
    rw [this]
    exact h.2.1
theorem inV_int (i : Int) : ∀ l : List Int, inV (.int i) (l.map V.int) = decide (i ∈ l)
  | [] => by simp [inV]
  | x :: l => by
    have ih := inV_int i l
    unfold inV at ih ⊢
    rw [List.map_cons, List.any_cons, ih]
    have e : eqV (.int x) (.int i) = decide (i = x) := by
      show (x == i) = decide (i = x)
      by_cases h : x = i
      · subst h; simp
      · have h' : ¬ i = x := fun e => h e.symm
        simp [h, h']
    rw [e]
    simp [List.mem_cons]
theorem flat_ints (l : List Int) : (l.map V.int).all flatV = true := by
  rw [List.all_map]
  exact List.all_eq_true.mpr fun x _ => rfl
theorem in_bl {i : Int} {l : List Int} : V.bl (if false = true then !inV (.int i) (l.map V.int) else inV (.int i) (l.map V.int)) = V.bl (decide (i ∈ l)) := by
  rw [← inV_int]; rfl
theorem notin_bl {i : Int} {l : List Int} : V.bl (if true = true then !inV (.int i) (l.map V.int) else inV (.int i) (l.map V.int)) = V.bl (!decide (i ∈ l)) := by
  rw [← inV_int]; rfl

def spOrdOf (K : PySem.W.Frag) : Sp := fun vs H Q _ => ∃ (n : Nat) (a : Addr) (ps : List (Int × Int)), vs = [.int n, .ref a] ∧ PL K H a ps ∧ n ≤ 60 ∧ Prs n ps ∧ Acy ps ∧
  ∀ H' p o, Same H H' → H p = none → H' p = some (.lst (o.map V.int)) → Topo n ps o → Q (.ref p) H'
section
variable {P : Program} {w : World} {K : PySem.W.Frag} {mg : Str → Option Value} {base : Heap}
theorem sc_arePairs : FnScope ["size", "value", "pair"] ["size", "value"] (defScope sArePairs) := ⟨rfl, rfl, rfl, by decide +kernel, rfl, by decide +kernel, by decide +kernel⟩
theorem ok_arePairs {f f1 f2 f3 f4 f5 : Addr} {fd fd1 fd2 fd3 fd4 fd5 : FuncData} (F : Fun K "are_pairs" "are_pairs" sArePairs f fd) (D1 : Df K mg "is_integer" sIsInt ["value"] f1 fd1) (D2 : Df K mg "is_count" sIsCnt ["value"] f2 fd2)
    (D3 : Df K mg "is_thing" sIsThg ["size", "value"] f3 fd3) (D4 : Df K mg "is_pair" sIsPair ["size", "value"] f4 fd4) (D5 : Df K mg "is_list" sIsLst ["value"] f5 fd5) (B : Bl mg) : FnOk P w K mg base CX0 5 f fd ["size", "value"] (spArePairs K) := by
  have G4 : FnOk P w K mg base CX0 4 f4 fd4 ["size", "value"] (spIsPair K) := ok_isPair D4.F D1 D2 D3 B
  have G5 : FnOk P w K mg base CX0 1 f5 fd5 ["value"] (spIsLst K) := ok_isLst D5.F B
  refine F.ok sc_arePairs (fun vs H Q E h => ?_) (fun cdv A outer s H vs Q E hr h => ?_)
  · obtain ⟨n, a, ps, rfl, _⟩ := h
    rfl
  · obtain ⟨n, a, ps, rfl, ⟨xs, hxs, hd⟩, hps, q⟩ := h
    refine ⟨_, pss_cons (ps_if (PW.pt (pw_or (pt_not (pt_val (pe_call G5 (hr.mono (by decide)) rfl D5.g D5.F.kp D5.b .nil pass0 (pa_cons (pv 1) pa_nil))))
        (pw_or1 (pt_not (pt_val (pe_callB (cr_all rfl) (by rfl) B.all PyProof.Rows.boot_all (pa_cons
          (pe_lc (own := [("pair", 2)]) (g := gName 2) (tt := tYes) rfl sc_arePairs.nd (pi_sq (pv 1)) (blkOk_by (N := ["size", "value", "pair"]) (sc := defScope sArePairs) (by decide +kernel))
            (fun _ _ _ _ _ => pg_name (i := 2) sc_arePairs.nd rfl (Or.inl rfl)) (fun _ _ _ _ _ => pts_nil)
            (fun _ _ _ _ _ => pe_call G4 hr rfl D4.g D4.F.kp D4.b .nil pass0 (pa_cons (pv 0) (pa_cons (pv 2) pa_nil)))) pa_nil))))))) (pss_one (ps_ret pe_bl)) pss_nil)
      (pss_one (ps_ret (pe_cmpR op_eq (pe_callB call_lenSetT (by rfl) B.len PySem.boot_len (pa_cons (pe_callTy (cr_setTA rfl hr.units) (by rfl) B.set PySem.Pv.boot_set (pa_cons (pv 1) pa_nil)) pa_nil))
        (pe_callB call_len_seq (by rfl) B.len PySem.boot_len (pa_cons (pv 1) pa_nil)) (nomark _)))), ?_⟩
    refine ⟨_, rfl, .ref a, some xs, rfl, .sq hxs, fun H1 s1 => ⟨true, rfl, iteF ?_⟩⟩
    refine ⟨_, rfl, a, xs, rfl, same_a s1 hxs, fun it hit D hD => ?_⟩
    refine lc_sq hit (LcP H1 D fun k => (List.replicate k (.bl true))) (lcp_0 hD rfl) (fun k H2 _ p => p.1) ?_ ?_
    · intro k x H2 hx p
      have hk := lt_of_at hx
      have hl : xs.length = ps.length := by rw [dps_len hd, List.length_map]
      obtain ⟨⟨i, j⟩, t, hpk, rfl, ht⟩ := pl_at (dps_s hd (s1.trans p.1)) hx
      obtain ⟨i0, i1, j0, j1, ne⟩ := hps.2.2 (i, j) (List.mem_of_getElem? hpk)
      refine ⟨rfl, _, rfl, _, rfl, n, i, j, t, rfl, ht, i0, i1, j0, j1, ne, fun H3 s3 => ?_⟩
      exact lcp_put hD (lcp_s p s3) (by simp [List.replicate_succ']) (by have := hps.2.1; simp; omega)
    · intro H2 p
      refine ⟨D, List.replicate xs.length true, rfl, sl_of (by rw [List.map_replicate]; exact p.2), true, ?_, iteF ?_⟩
      · congr 1
        exact List.all_eq_true.mpr fun b hb => (List.mem_replicate.mp hb).2
      obtain ⟨ks, rfl, e2, h3⟩ := pl_ks (dps_s hd (s1.trans p.1))
      obtain ⟨nd, few⟩ := prs_ks hps e2
      refine ⟨_, rfl, a, ks, rfl, same_a (s1.trans p.1) hxs, h3, by omega, fun c L hc hs hall => ?_⟩
      refine ⟨c, L, rfl, upd_same, fun z hz => same_t (same_new hc) (h3 z (hs z hz)), fun hn => ?_⟩
      have el : L.length = ks.length := by
        have := nodup_eq hn nd (fun y => ⟨fun hy => by
          obtain ⟨z, hz, rfl⟩ := List.mem_map.mp hy
          exact List.mem_map.mpr ⟨z, hs z hz, rfl⟩, fun hy => by
          obtain ⟨z, hz, rfl⟩ := List.mem_map.mp hy
          exact hall z hz⟩)
        simpa using this
      refine ⟨_, rfl, a, _, rfl, same_a (same_new hc) (same_a (s1.trans p.1) hxs), rfl, ?_⟩
      rw [el, List.length_map, decide_eq_true rfl]
      exact q _ ((s1.trans p.1).trans (same_new hc))
end
end Tk

namespace Tk
open PySem PySem.Spec PyProof.Rows L2
theorem at0 {x : Int} {l : List Int} : atI ((x :: l).map V.int) (0 : Int) = some (V.int x) := atI_nat (j := 0) rfl
theorem rgV_things (n : Nat) : rgV 0 (n : Int) = (things n).map V.int := by
  unfold rgV things
  rw [List.map_map]
  have e : ((n : Int) - 0).toNat = n := by omega
  rw [e]
  refine List.map_congr_left fun k _ => ?_
  show V.int (0 + (k : Int)) = V.int (Int.ofNat k)
  rw [Int.zero_add]; rfl
theorem pushed_take {ps : List (Int × Int)} {l : List Int} {i : Nat} {p : Int × Int} (h : ps[i]? = some p) :
    (pushedL (ps.take (i + 1)) l) = if p.1 ∈ l then pushedL (ps.take i) l ++ [p.2] else pushedL (ps.take i) l := by
  unfold pushedL
  rw [take_at h, List.filter_append, List.map_append]
  by_cases c : p.1 ∈ l
  · simp [c]
  · simp [c]
theorem filter_take {l : List Int} {f : Int → Bool} {i : Nat} {x : Int} (h : l[i]? = some x) : (l.take (i + 1)).filter f = if f x = true then (l.take i).filter f ++ [x] else (l.take i).filter f := by
  rw [take_at h, List.filter_append]
  by_cases c : f x = true
  · simp [c]
  · simp [c]
theorem take_all {α : Type} {l : List α} {n : Nat} (h : l.length = n) : l.take n = l := by rw [← h, List.take_length]
theorem erase_ix {l : List Int} {x : Int} (hx : x ∈ l) : ∃ j : Nat, l[j]? = some x ∧ (∀ m : Nat, m < j → l[m]? ≠ some x) ∧ l.eraseIdx j = l.erase x := by
  induction l with
  | nil => exact nomatch hx
  | cons y l ih =>
    by_cases e : y = x
    · subst e
      exact ⟨0, by simp, fun m hm => by omega, by simp⟩
    · have hx' : x ∈ l := by
        rcases List.mem_cons.mp hx with q | q
        · exact absurd q.symm e
        · exact q
      obtain ⟨j, h1, h2, h3⟩ := ih hx'
      refine ⟨j + 1, by simpa using h1, ?_, ?_⟩
      · intro m hm
        cases m with
        | zero => simp [e]
        | succ m => simpa using h2 m (by omega)
      · have e' : (y == x) = false := by simpa using e
        simp [List.erase_cons, e', h3]
section
variable {P : Program} {w : World} {K : PySem.W.Frag} {mg : Str → Option Value} {base : Heap}
abbrev nOrd : List Str := ["size", "arrows", "order", "left", "pushed", "free", "start", "end", "thing"]
theorem sc_ordOf : FnScope nOrd ["size", "arrows"] (defScope sOrdOf) := ⟨rfl, rfl, rfl, by decide +kernel, rfl, by decide +kernel, by decide +kernel⟩
theorem ok_ordOf {f : Addr} {fd : FuncData} (F : Fun K "order_of" "order_of" sOrdOf f fd) (B : Bl mg) : FnOk P w K mg base CX0 1 f fd ["size", "arrows"] (spOrdOf K) := by
  refine F.ok sc_ordOf (fun vs H Q E h => ?_) (fun cdv A outer s H vs Q E hr h => ?_)
  · obtain ⟨n, a, ps, rfl, _⟩ := h
    rfl
  · obtain ⟨n, a, ps, rfl, ⟨xs, hxs, hd⟩, hn, hps, hac, q⟩ := h
    refine ⟨_, pss_cons (ps_asg (pe_tup (pa_cons (pe_lst pa_nil) (pa_cons (pe_listRg rfl (by rfl) B.list (prg_1 (by rfl) B.range (pv 0))) pa_nil)))
        (pg_tup rfl (pgs_cons (pg_name (i := 2) sc_ordOf.nd rfl (Or.inl rfl)) (pgs_cons (pg_name (i := 3) sc_ordOf.nd rfl (Or.inr rfl)) pgs_nil))))
      (pss_cons (ps_while PassesOwn.never (pt_truth (pv 3) (fun _ => rfl))
        (pss_cons (ps_set (i := 4) sc_ordOf.nd rfl (Or.inr rfl)
          (pe_lc (own := [("start", 6), ("end", 7)]) (g := gTup K 2 (gCons (gName 6) (gCons (gName 7) gNil))) (tt := tTest (tOp (rIn K false) (tVar 6) (tVar 3))) rfl sc_ordOf.nd (pi_list (pv 1)) (blkOk_by (N := nOrd) (sc := defScope sOrdOf) (by decide +kernel))
            (fun _ _ _ _ _ => pg_tup rfl (pgs_cons (pg_name (i := 6) sc_ordOf.nd rfl (Or.inl rfl)) (pgs_cons (pg_name (i := 7) sc_ordOf.nd rfl (Or.inl rfl)) pgs_nil)))
            (fun _ _ _ _ _ => pts_one (pt_cmpR op_in_seq (pv 6) (pv 3) (by rfl)))
            (fun _ _ _ _ _ => pv 7)))
        (pss_cons (ps_setLc (i := 5) (own := [("thing", 8)]) (g := gName 8) (tt := tTest (tOp (rIn K true) (tVar 8) (tVar 4))) rfl sc_ordOf.nd rfl rfl (sw_true rfl rfl rfl (by decide +kernel)) (pi_list (pv 3)) (blkOk_by (N := nOrd) (sc := defScope sOrdOf) (by decide +kernel))
            (fun _ _ _ _ _ => pg_name (i := 8) sc_ordOf.nd rfl (Or.inl rfl))
            (fun _ _ _ _ _ => pts_one (pt_cmpR op_notIn_seq (pv 8) (pv 4) (by rfl)))
            (fun _ _ _ _ _ => pv 8))
        (pss_cons (ps_if (pt_not (pt_truth (pv 5) (fun _ => rfl))) (pss_one (ps_ret (pv 2))) pss_nil)
        (pss_cons (ps_expr (pe_bm PySem.F.plainAttrs_list PySem.F.slot_list_append PySem.F.type_list_append mt_append (pv 2) (pa_cons (pe_ix ix_list (pv 5) pe_int (fun _ _ => rfl)) pa_nil)))
        (pss_one (ps_expr (pe_bm PySem.F.plainAttrs_list PySem.F.slot_list_remove PySem.F.type_list_remove mt_remove (pv 3) (pa_cons (pe_ix ix_list (pv 5) pe_int (fun _ _ => rfl)) pa_nil)))))))))
      (pss_one (ps_ret (pv 2)))), ?_⟩
    have hl : xs.length = ps.length := by rw [dps_len hd, List.length_map]
    -- order, left = ([], list(range(size)))
    refine ⟨szle (by decide), fun po hpo => ?_⟩
    refine ⟨_, rfl, n, rfl, RgOk.of_le (by omega) (by omega) (by omega) (by omega), fun pl hpl => ⟨szle (by show 2 ≤ 100000; decide), fun pt hpt => ?_⟩⟩
    have npl : po ≠ pl := fun e => by rw [e, upd_same] at hpl; cases hpl
    have hpl0 : H pl = none := by rw [upd_ne npl.symm] at hpl; exact hpl
    have npt : pt ≠ po ∧ pt ≠ pl := ⟨(fun e => by rw [e, upd_ne npl, upd_same] at hpt; cases hpt), (fun e => by rw [e, upd_same] at hpt; cases hpt)⟩
    refine ⟨pt, _, rfl, st_of upd_same, rfl, _, _, rfl, _, _, rfl, rfl, ?_⟩
    refine ⟨fun m σ H1 => ∃ o l v4 v5 v6 v7 v8, σ = [some (V.int n), some (V.ref a), some (V.ref po), some (V.ref pl), v4, v5, v6, v7, v8] ∧ Same H H1 ∧ H1 po = some (.lst (o.map V.int)) ∧ H1 pl = some (.lst (l.map V.int)) ∧ OInv n ps o l ∧ l.length = m,
      ⟨n, [], things n, none, none, none, none, none, rfl, ?_, ?_, ?_, oinv_0 n ps, things_len n⟩, ?_⟩
    · exact ((same_new hpo).trans (same_new hpl)).trans (same_new hpt)
    · rw [upd_ne npt.1.symm, upd_ne npl, upd_same]; rfl
    · rw [upd_ne npt.2.symm, upd_same, rgV_things]
    rintro m σ H1 ⟨o, l, v4, v5, v6, v7, v8, rfl, s1, ho, hll, inv, rfl⟩
    refine ⟨_, rfl, _, .inl ⟨_, sl_of hll, rfl⟩, ?_⟩
    cases l with
    | nil =>
      exact ⟨_, rfl, q H1 po o s1 hpo ho (oinv_end inv)⟩
    | cons y l0 =>
      generalize hL : y :: l0 = l at *
      have lne : l ≠ [] := by rw [← hL]; simp
      have lem : (!(l.map V.int).isEmpty) = true := by rw [← hL]; rfl
      rw [lem]
      refine ⟨_, fun σ' H' z => z, ?_⟩
      -- pushed
      refine ⟨_, rfl, a, rfl, ⟨xs, same_l s1 hxs⟩, fun D hD => ?_⟩
      refine lc_list (xs := xs) (LcP H1 D fun k => (pushedL (ps.take k) l).map V.int) (lcp_0 hD rfl) (fun k H2 _ p => same_l (s1.trans p.1) hxs) ?_ ?_
      · intro k x H2 hx p
        obtain ⟨⟨i, j⟩, t, hpk, rfl, ht⟩ := pl_at (dps_s hd (s1.trans p.1)) hx
        have short : ((pushedL (ps.take k) l).map V.int).length < 100000 := by
          have h1 := hps.2.1
          have h2 : (pushedL (ps.take k) l).length ≤ (ps.take k).length := by unfold pushedL; rw [List.length_map]; exact List.length_filter_le ..
          rw [List.length_take] at h2
          rw [List.length_map]; omega
        refine ⟨t, _, rfl, ht, rfl, _, _, rfl, _, _, rfl, rfl, rfl, _, rfl, _, rfl, pl, _, rfl, .inl (sl_of (p.1 _ _ hll)), rfl, flat_ints l, _, in_bl, ?_⟩
        have et := pushed_take (l := l) hpk
        by_cases c : i ∈ l
        · rw [decide_eq_true c]
          refine ⟨_, rfl, ?_⟩
          refine lcp_put hD p ?_ short
          rw [et, if_pos c, List.map_append]; rfl
        · rw [decide_eq_false c]
          refine iteF (lcp_no p ?_)
          rw [et, if_neg c]
      · intro H2 p
        have hD2 : H2 D = some (.lst ((pushedL (ps.take xs.length) l).map V.int)) := p.2
        rw [take_all hl.symm] at hD2
        have s2 : Same H1 H2 := p.1
        have hDn : H D = none := s1.free hD
        -- free
        refine ⟨_, rfl, pl, rfl, ⟨_, sl_of (s2 _ _ hll)⟩, fun G hG => ?_⟩
        refine lc_list (xs := l.map V.int) (LcP H2 G fun k => ((l.take k).filter fun x => !decide (x ∈ pushedL ps l)).map V.int) (lcp_0 hG rfl) (fun k H3 _ p3 => sl_of (p3.1 _ _ (s2 _ _ hll))) ?_ ?_
        · intro k x H3 hx p3
          obtain ⟨z, hz, rfl⟩ := int_at hx
          have et := filter_take (f := fun x => !decide (x ∈ pushedL ps l)) hz
          have short : (((l.take k).filter fun x => !decide (x ∈ pushedL ps l)).map V.int).length < 100000 := by
            have h2 : ((l.take k).filter fun x => !decide (x ∈ pushedL ps l)).length ≤ (l.take k).length := List.length_filter_le ..
            have h3 := nodup_le inv.nl (fun x hx => (inv.al x).mpr (.inr hx))
            rw [things_len] at h3
            rw [List.length_take] at h2
            rw [List.length_map]; omega
          refine ⟨rfl, _, rfl, _, rfl, D, _, rfl, .inl (sl_of (p3.1 _ _ hD2)), rfl, flat_ints _, _, notin_bl, ?_⟩
          by_cases c : z ∈ pushedL ps l
          · rw [decide_eq_true c]
            refine iteF (lcp_no p3 ?_)
            rw [et, if_neg (by simp [c])]
          · rw [decide_eq_false c]
            refine ⟨_, rfl, ?_⟩
            refine lcp_put hG p3 ?_ short
            rw [et, if_pos (by simp [c]), List.map_append]; rfl
        · intro H3 p3
          have hG3 : H3 G = some (.lst (((l.take (l.map V.int).length).filter fun x => !decide (x ∈ pushedL ps l)).map V.int)) := p3.2
          rw [take_all (by simp)] at hG3
          have s3 : Same H2 H3 := p3.1
          have eF : (l.filter fun x => !decide (x ∈ pushedL ps l)) = freeL ps l := rfl
          rw [eF] at hG3
          have fne := freeL_ne hac lne
          obtain ⟨x, fr, hfr⟩ : ∃ x fr, freeL ps l = x :: fr := by
            cases e : freeL ps l with
            | nil => exact absurd e fne
            | cons x fr => exact ⟨x, fr, rfl⟩
          have hxf : x ∈ freeL ps l := by rw [hfr]; exact List.mem_cons_self ..
          rw [hfr] at hG3
          refine ⟨_, rfl, _, .inl ⟨_, sl_of hG3, rfl⟩, iteF ?_⟩
          have ho3 : H3 po = some (.lst (o.map V.int)) := s3 _ _ (s2 _ _ ho)
          have hl3 : H3 pl = some (.lst (l.map V.int)) := s3 _ _ (s2 _ _ hll)
          have nG : H1 G = none := s2.free hG
          have nGo : G ≠ po := fun e => by rw [e, ho] at nG; cases nG
          have nGl : G ≠ pl := fun e => by rw [e, hll] at nG; cases nG
          have olen : (o.map V.int).length < 100000 := by
            have h3 := nodup_le inv.no (fun x hx => (inv.al x).mpr (.inl hx))
            rw [things_len] at h3
            rw [List.length_map]; omega
          refine ⟨_, rfl, .inl ⟨rfl, _, sl_of ho3⟩, _, rfl, G, _, _, _, rfl, rfl, sl_of hG3, at0, po, _, _, rfl, rfl, ho3, szlt olen, ?_⟩
          have hl4 : (upd H3 po (.lst (o.map V.int ++ [V.int x]))) pl = some (.lst (l.map V.int)) := by rw [upd_ne npl.symm]; exact hl3
          obtain ⟨j, hj1, hj2, hj3⟩ := erase_ix (mem_freeL.mp hxf).1
          refine ⟨_, rfl, .inl ⟨rfl, _, sl_of hl4⟩, _, rfl, G, _, _, _, rfl, rfl, sl_of (by rw [upd_ne nGo]; exact hG3), at0, pl, l, x, j, rfl, rfl, hl4, hj1, hj2, ?_⟩
          refine ⟨(l.erase x).length, ?_, o ++ [x], l.erase x, _, _, _, _, _, rfl, ?_, ?_, ?_, oinv_step inv (fun p hp => mem_things.mpr ⟨(hps.2.2 p hp).1, (hps.2.2 p hp).2.1⟩) hxf, rfl⟩
          · have := List.length_erase_of_mem (mem_freeL.mp hxf).1
            have hp : 0 < l.length := List.length_pos_of_mem (mem_freeL.mp hxf).1
            omega
          · exact same_mut (same_mut (s1.trans (s2.trans s3)) hpo) hpl0
          · rw [upd_ne npl, upd_same, List.map_append]; rfl
          · rw [upd_same, hj3]
end
end Tk

namespace Tk
open PySem PySem.Spec PyProof.Rows L2
def spAreArr (K : PySem.W.Frag) : Sp := fun vs H Q _ => ∃ (n : Nat) (a : Addr) (ps : List (Int × Int)), vs = [.int n, .ref a] ∧ PL K H a ps ∧ n ≤ 60 ∧ Prs n ps ∧ Acy ps ∧ ∀ H', Same H H' → Q (.bl true) H'
def spAreTies (K : PySem.W.Frag) : Sp := fun vs H Q _ => ∃ (n : Int) (a : Addr) (ps : List (Int × Int)), vs = [.int n, .ref a] ∧ PA2 K H a ps ∧ Prs n ps ∧ (∀ p ∈ ps, p.1 < p.2) ∧ ∀ H', Same H H' → Q (.bl true) H'
def spIsSize : Sp := fun vs H Q _ => ∃ i : Int, vs = [.int i] ∧ Q (.bl (decide (0 ≤ i) && decide (i ≤ 6))) H
def spChkSize : Sp := fun vs H Q _ => ∃ i : Int, vs = [.int i] ∧ 0 ≤ i ∧ i ≤ 6 ∧ Q .non H
section
variable {P : Program} {w : World} {K : PySem.W.Frag} {mg : Str → Option Value} {base : Heap}
theorem sc_areArr : FnScope ["size", "value"] ["size", "value"] (defScope sAreArr) := ⟨rfl, rfl, rfl, by decide +kernel, rfl, by decide +kernel, by decide +kernel⟩
theorem ok_areArr {f f5 f6 : Addr} {fd fd5 fd6 : FuncData} (F : Fun K "are_arrows" "are_arrows" sAreArr f fd) (D5 : Df K mg "are_pairs" sArePairs ["size", "value"] f5 fd5) (G5 : FnOk P w K mg base CX0 5 f5 fd5 ["size", "value"] (spArePairs K))
    (D6 : Df K mg "order_of" sOrdOf ["size", "arrows"] f6 fd6) (B : Bl mg) : FnOk P w K mg base CX0 6 f fd ["size", "value"] (spAreArr K) := by
  have G6 : FnOk P w K mg base CX0 1 f6 fd6 ["size", "arrows"] (spOrdOf K) := ok_ordOf D6.F B
  refine F.ok sc_areArr (fun vs H Q E h => ?_) (fun cdv A outer s H vs Q E hr h => ?_)
  · obtain ⟨n, a, ps, rfl, _⟩ := h
    rfl
  · obtain ⟨n, a, ps, rfl, hp, hn, hps, hac, q⟩ := h
    refine ⟨_, pss_one (ps_ret (pe_and (pe_call G5 hr rfl D5.g D5.F.kp D5.b .nil pass0 (pa_cons (pv 0) (pa_cons (pv 1) pa_nil)))
      (pe_one (pe_cmpR op_eq (pe_callB call_len_seq (by rfl) B.len PySem.boot_len (pa_cons (pe_call G6 (hr.mono (by decide)) rfl D6.g D6.F.kp D6.b .nil pass0 (pa_cons (pv 0) (pa_cons (pv 1) pa_nil))) pa_nil)) (pv 0) (nomark _))))), ?_⟩
    refine ⟨_, rfl, _, rfl, n, a, ps, rfl, pl_pa2 hp, hps, fun H1 s1 => ⟨true, rfl, iteT ?_⟩⟩
    refine ⟨_, rfl, _, rfl, n, a, ps, rfl, pl_s hp s1, hn, hps, hac, fun H2 p o s2 hp0 hp2 ht => ?_⟩
    refine ⟨p, _, rfl, .inl (sl_of hp2), _, rfl, rfl, ?_⟩
    rw [List.length_map, topo_len ht, decide_eq_true rfl]
    exact q H2 (s1.trans s2)
theorem sc_areTies : FnScope ["size", "value", "low", "high"] ["size", "value"] (defScope sAreTies) := ⟨rfl, rfl, rfl, by decide +kernel, rfl, by decide +kernel, by decide +kernel⟩
theorem ok_areTies {f f5 : Addr} {fd fd5 : FuncData} (F : Fun K "are_ties" "are_ties" sAreTies f fd) (D5 : Df K mg "are_pairs" sArePairs ["size", "value"] f5 fd5) (G5 : FnOk P w K mg base CX0 5 f5 fd5 ["size", "value"] (spArePairs K))
    (B : Bl mg) : FnOk P w K mg base CX0 6 f fd ["size", "value"] (spAreTies K) := by
  refine F.ok sc_areTies (fun vs H Q E h => ?_) (fun cdv A outer s H vs Q E hr h => ?_)
  · obtain ⟨n, a, ps, rfl, _⟩ := h
    rfl
  · obtain ⟨n, a, ps, rfl, hp, hps, hlt, q⟩ := h
    refine ⟨_, pss_one (ps_ret (pe_and (pe_call G5 hr rfl D5.g D5.F.kp D5.b .nil pass0 (pa_cons (pv 0) (pa_cons (pv 1) pa_nil)))
      (pe_one (pe_callB (cr_all rfl) (by rfl) B.all PyProof.Rows.boot_all (pa_cons
          (pe_lc (own := [("low", 2), ("high", 3)]) (g := gTup K 2 (gCons (gName 2) (gCons (gName 3) gNil))) (tt := tYes) rfl sc_areTies.nd (pi_sq (pv 1)) (blkOk_by (N := ["size", "value", "low", "high"]) (sc := defScope sAreTies) (by decide +kernel))
            (fun _ _ _ _ _ => pg_tup rfl (pgs_cons (pg_name (i := 2) sc_areTies.nd rfl (Or.inl rfl)) (pgs_cons (pg_name (i := 3) sc_areTies.nd rfl (Or.inl rfl)) pgs_nil))) (fun _ _ _ _ _ => pts_nil)
            (fun _ _ _ _ _ => pe_cmpR op_lt (pv 2) (pv 3) (nomark _))) pa_nil))))), ?_⟩
    refine ⟨_, rfl, _, rfl, n, a, ps, rfl, hp, hps, fun H1 s1 => ⟨true, rfl, iteT ?_⟩⟩
    obtain ⟨xs, hxs, hd⟩ := pa2_s hp s1
    refine ⟨_, rfl, a, xs, rfl, hxs, fun it hit D hD => ?_⟩
    refine lc_sq hit (LcP H1 D fun k => (List.replicate k (.bl true))) (lcp_0 hD rfl) (fun k H2 _ p => p.1) ?_ ?_
    · intro k x H2 hx p
      have hk := lt_of_at hx
      have hl : xs.length = ps.length := by rw [dps_len hd, List.length_map]
      obtain ⟨⟨i, j⟩, t, hpk, rfl, ht⟩ := pl_at (dps_s hd p.1) hx
      have hij := hlt (i, j) (List.mem_of_getElem? hpk)
      refine ⟨t, _, rfl, ht, rfl, _, _, rfl, _, _, rfl, rfl, rfl, _, rfl, _, rfl, _, _, rfl, rfl, ?_⟩
      refine lcp_put (y := V.bl (decide ((i, j).fst < (i, j).snd))) hD p ?_ (by have := hps.2.1; simp; omega)
      rw [decide_eq_true hij]
      simp [List.replicate_succ']
    · intro H2 p
      refine ⟨D, List.replicate xs.length true, rfl, sl_of (by rw [List.map_replicate]; exact p.2), ?_⟩
      have e : (List.replicate xs.length true).all id = true := List.all_eq_true.mpr fun b hb => (List.mem_replicate.mp hb).2
      rw [e]
      exact q H2 (s1.trans p.1)
theorem sc_isSize : FnScope ["value"] ["value"] (defScope sIsSize) := ⟨rfl, rfl, rfl, by decide +kernel, rfl, by decide +kernel, by decide +kernel⟩
theorem ok_isSize {f f1 f2 : Addr} {fd fd1 fd2 : FuncData} {tk : Tok} (F : Fun K "is_size" "is_size" sIsSize f fd) (D1 : Df K mg "is_integer" sIsInt ["value"] f1 fd1) (D2 : Df K mg "is_count" sIsCnt ["value"] f2 fd2)
    (hm : mg "MOST_THINGS" = some (.int 6 tk)) (B : Bl mg) : FnOk P w K mg base CX0 3 f fd ["value"] spIsSize := by
  have G2 : FnOk P w K mg base CX0 2 f2 fd2 ["value"] (spIsCnt K) := ok_isCnt D2.F D1 B
  refine F.ok sc_isSize (fun vs H Q E h => ?_) (fun cdv A outer s H vs Q E hr h => ?_)
  · obtain ⟨i, rfl, _⟩ := h
    rfl
  · obtain ⟨i, rfl, q⟩ := h
    refine ⟨_, pss_one (ps_ret (pe_and (pe_call G2 hr rfl D2.g D2.F.kp D2.b .nil pass0 (pa_cons (pv 0) pa_nil)) (pe_one (pe_cmpR op_le (pv 0) (pe_glob (v := .int 6) rfl hm ⟨_, rfl⟩) (nomark _))))), ?_⟩
    refine ⟨_, rfl, .int i, some i, rfl, .int i, _, rfl, ?_⟩
    show if decide (0 ≤ i) = true then _ else _
    by_cases h0 : 0 ≤ i
    · rw [decide_eq_true h0] at q ⊢
      rw [Bool.true_and] at q
      exact iteT ⟨_, rfl, _, _, rfl, rfl, q⟩
    · rw [decide_eq_false h0] at q ⊢
      exact iteF q
theorem sc_chkSize : FnScope ["size"] ["size"] (defScope sChkSize) := ⟨rfl, rfl, rfl, by decide +kernel, rfl, by decide +kernel, by decide +kernel⟩
theorem ok_chkSize {f f3 : Addr} {fd fd3 : FuncData} (F : Fun K "check_size" "check_size" sChkSize f fd) (D3 : Df K mg "is_size" sIsSize ["value"] f3 fd3) (G3 : FnOk P w K mg base CX0 3 f3 fd3 ["value"] spIsSize) :
    FnOk P w K mg base CX0 4 f fd ["size"] spChkSize := by
  refine F.ok sc_chkSize (fun vs H Q E h => ?_) (fun cdv A outer s H vs Q E hr h => ?_)
  · obtain ⟨i, rfl, _⟩ := h
    rfl
  · obtain ⟨i, rfl, h0, h1, q⟩ := h
    refine ⟨_, pss_one (ps_if (pt_not (pt_val (pe_call G3 hr rfl D3.g D3.F.kp D3.b .nil pass0 (pa_cons (pv 0) pa_nil)))) pss_never pss_nil), ?_⟩
    refine ⟨_, rfl, i, rfl, _, rfl, ?_⟩
    rw [decide_eq_true h0, decide_eq_true h1]
    exact iteF q
end
end Tk

namespace Tk
open PySem PySem.Spec PyProof.Rows L2
/-! ## Plan -/
theorem k_as : ¬ (("_arrows" : Str) = "_size") := by decide +kernel
theorem k_ts : ¬ (("_ties" : Str) = "_size") := by decide +kernel
theorem k_ta : ¬ (("_ties" : Str) = "_arrows") := by decide +kernel
theorem k_sa : ¬ (("_size" : Str) = "_arrows") := by decide +kernel
theorem k_st : ¬ (("_size" : Str) = "_ties") := by decide +kernel
theorem k_at : ¬ (("_arrows" : Str) = "_ties") := by decide +kernel
def pf (n : Int) (a t : Addr) : List (Str × V) := putF "_ties" (.ref t) (putF "_arrows" (.ref a) (putF "_size" (.int n) []))
theorem pf_size (n : Int) (a t : Addr) : (pf n a t).lookup ("_size" : Str) = some (.int n) := by
  unfold pf
  rw [lookup_putF, if_neg k_st, lookup_putF, if_neg k_sa, lookup_putF, if_pos rfl]
theorem pf_arr (n : Int) (a t : Addr) : (pf n a t).lookup ("_arrows" : Str) = some (.ref a) := by
  unfold pf
  rw [lookup_putF, if_neg k_at, lookup_putF, if_pos rfl]
theorem pf_ties (n : Int) (a t : Addr) : (pf n a t).lookup ("_ties" : Str) = some (.ref t) := by
  unfold pf
  rw [lookup_putF, if_pos rfl]
theorem pf_no (n : Int) (a t : Addr) {m : Str} (h1 : ¬ m = "_size") (h2 : ¬ m = "_arrows") (h3 : ¬ m = "_ties") : (pf n a t).lookup m = none := by
  unfold pf
  rw [lookup_putF, if_neg h3, lookup_putF, if_neg h2, lookup_putF, if_neg h1]
  all_goals rfl
theorem putF_len (f : Str) (v : V) : ∀ fs : List (Str × V), (putF f v fs).length ≤ fs.length + 1
  | [] => by simp [putF]
  | (g, x) :: r => by
    unfold putF
    split
    · simp
    · have := putF_len f v r
      simp; omega
/-- ps' is ps, sorted -/
def SortOf (ps ps' : List (Int × Int)) : Prop := ps'.Perm ps ∧ ps'.Pairwise fun p q => SrtO.lexB q p = false
def SrtPs (A : List (Int × Int)) : Prop := A.Pairwise fun p q => SrtO.lexB q p = false
theorem lex_anti {p q : Int × Int} (h : SrtO.lexB q p = false) (g : SrtO.lexB p q = false) : p = q := by
  have h1 : ¬ SrtO.lexB q p = true := by rw [h]; simp
  have g1 : ¬ SrtO.lexB p q = true := by rw [g]; simp
  rw [SrtO.lexB_iff] at h1 g1
  exact Prod.ext (by omega) (by omega)
theorem pairs_one {A B : List (Int × Int)} (s1 : SrtPs A) (n1 : A.Nodup) (s2 : SrtPs B) (n2 : B.Nodup) (m : ∀ p, p ∈ A ↔ p ∈ B) : A = B :=
  List.Perm.eq_of_pairwise (fun a b _ _ h1 h2 => lex_anti h1 h2) s1 s2 ((List.perm_ext_iff_of_nodup n1 n2).mpr m)
/-- a Plan stands at p -/
structure PlanAt (K : PySem.W.Frag) (C : Addr) (H : Hp) (p : Addr) (n : Nat) (as ts : List (Int × Int)) : Prop where
  ob : ∃ dx a t, H p = some (.ins C dx (pf n a t)) ∧ PL K H a as ∧ PL K H t ts
  n6 : n ≤ 6
  pa : Prs n as
  ac : Acy as
  pt : Prs n ts
  lt : ∀ q ∈ ts, q.1 < q.2
  sa : SrtPs as
  st : SrtPs ts
theorem plan_s {K : PySem.W.Frag} {C : Addr} {H H' : Hp} {p : Addr} {n : Nat} {as ts : List (Int × Int)} (h : PlanAt K C H p n as ts) (e : Same H H') : PlanAt K C H' p n as ts := by
  obtain ⟨⟨dx, a, t, h1, h2, h3⟩, n6, h4, h5, h6, h7, h8, h9⟩ := h
  exact ⟨⟨dx, a, t, e _ _ h1, pl_s h2 e, pl_s h3 e⟩, n6, h4, h5, h6, h7, h8, h9⟩
theorem prs_perm {n : Int} {ps qs : List (Int × Int)} (h : Prs n ps) (e : qs.Perm ps) : Prs n qs :=
  ⟨e.nodup_iff.mpr h.1, by rw [e.length_eq]; exact h.2.1, fun p hp => h.2.2 p (e.mem_iff.mp hp)⟩
theorem acy_perm {ps qs : List (Int × Int)} (h : Acy ps) (e : qs.Perm ps) : Acy qs := let ⟨r, hr⟩ := h; ⟨r, fun p hp => hr p (e.mem_iff.mp hp)⟩
/-- the pair that a value is in a heap -/
def prV (H : Hp) : V → Int × Int
  | .ref t => match H t with
    | some (.tup [.int i, .int j]) => (i, j)
    | _ => (0, 0)
  | _ => (0, 0)
theorem prV_eq {H : Hp} {t : Addr} {i j : Int} (h : H t = some (.tup [.int i, .int j])) : prV H (.ref t) = (i, j) := by
  unfold prV
  simp only [h]
/-- __init__ of a fresh Plan -/
def spInit (K : PySem.W.Frag) (C : Addr) : Sp := fun vs H Q _ => ∃ (p dx a t : Addr) (n : Nat) (as ts : List (Int × Int)), vs = [.ref p, .int n, .ref a, .ref t] ∧ H p = some (.ins C dx []) ∧ PL K H a as ∧ PA2 K H t ts ∧
  n ≤ 6 ∧ Prs n as ∧ Acy as ∧ Prs n ts ∧ (∀ q ∈ ts, q.1 < q.2) ∧
  ∀ H' as' ts', (∀ b o, b ≠ p → H b = some o → H' b = some o) → SortOf as as' → SortOf ts ts' → PlanAt K C H' p n as' ts' → Q .non H'
/-- facts of the class -/
structure PlC (K : PySem.W.Frag) (mg : Str → Option Value) (C : Addr) : Prop where
  cl : Cls K C
  nS : NoAttr K C "_size"
  nA : NoAttr K C "_arrows"
  nT : NoAttr K C "_ties"
  mgC : mg "Plan" = some (.ref C)
/-- [(i, j) for i, j in pairs], all tuples new, sorted -/
theorem sort_pairs {K : PySem.W.Frag} {H2 : Hp} {xs ys : List V} {ps : List (Int × Int)} (hl : xs.length = ps.length)
    (h : ∀ (i : Nat) (x : V), xs[i]? = some x → ∃ (t : Addr) (p : Int × Int), x = V.ref t ∧ ps[i]? = some p ∧ H2 t = some (.tup [.int p.1, .int p.2])) (s : SrtO.Srtd (ltP (prV H2)) ys) (b : SrtO.Stb (ltP (prV H2)) ys xs) :
    SortOf ps (ys.map (prV H2)) ∧ DpAll K H2 ys ((ys.map (prV H2)).map dP) := by
  have e : xs.map (prV H2) = ps := by
    refine List.ext_getElem? fun i => ?_
    rw [List.getElem?_map]
    cases hx : xs[i]? with
    | none =>
      have : ps[i]? = none := by
        rw [List.getElem?_eq_none_iff] at hx ⊢
        omega
      rw [this]; rfl
    | some x =>
      obtain ⟨t, p, rfl, hp, ht⟩ := h i x hx
      rw [hp]
      show some (prV H2 (.ref t)) = some p
      rw [prV_eq ht]
  refine ⟨⟨?_, ?_⟩, ?_⟩
  · rw [← e]
    exact b.perm.map _
  · rw [List.pairwise_map]
    exact s
  · have all : ∀ y ∈ ys, ∃ (t : Addr) (p : Int × Int), y = V.ref t ∧ H2 t = some (.tup [.int p.1, .int p.2]) := fun y hy => by
      obtain ⟨i, hi⟩ := List.getElem?_of_mem (b.perm.mem_iff.mp hy)
      obtain ⟨t, p, e1, _, e2⟩ := h i y hi
      exact ⟨t, p, e1, e2⟩
    clear s b e h hl
    induction ys with
    | nil => exact .nil
    | cons y ys ih =>
      obtain ⟨t, p, rfl, ht⟩ := all y (List.mem_cons_self ..)
      refine .cons ?_ (ih fun z hz => all z (List.mem_cons_of_mem _ hz))
      rw [prV_eq ht]
      exact dP_mk (st_of ht)

/-! what is no object stays where only the object changes -/
section
variable {K : PySem.W.Frag} {Ga Gb : Hp} {p C' dx' : Addr} {fs : List (Str × V)}
theorem obj_rd (hp : Ga p = some (.ins C' dx' fs)) (kp : ∀ b o, b ≠ p → Ga b = some o → Gb b = some o) {c : Addr} {u : HO} (nu : ∀ C' dx' fs, u ≠ .ins C' dx' fs) (h : Rd Ga c u) : Rd Gb c u := by
  rcases h with h | ⟨o, h⟩
  · exact .inl (kp _ _ (fun e => by rw [e, hp] at h; exact nu _ _ _ (Option.some.inj h).symm) h)
  · exact .inr ⟨o, kp _ _ (fun e => by rw [e, hp] at h; cases h) h⟩
theorem obj_l (hp : Ga p = some (.ins C' dx' fs)) (kp : ∀ b o, b ≠ p → Ga b = some o → Gb b = some o) {c : Addr} {ys : List V} (h : SqL K Ga c ys) : SqL K Gb c ys := h.elim (fun h => .inl (obj_rd hp kp (fun _ _ _ e => nomatch e) h)) .inr
theorem obj_t (hp : Ga p = some (.ins C' dx' fs)) (kp : ∀ b o, b ≠ p → Ga b = some o → Gb b = some o) {c : Addr} {ys : List V} (h : SqT K Ga c ys) : SqT K Gb c ys := h.elim (fun h => .inl (obj_rd hp kp (fun _ _ _ e => nomatch e) h)) .inr
theorem obj_d (hp : Ga p = some (.ins C' dx' fs)) (kp : ∀ b o, b ≠ p → Ga b = some o → Gb b = some o) : ∀ {ps : List (Int × Int)} {xs : List V}, DpAll K Ga xs (ps.map dP) → DpAll K Gb xs (ps.map dP)
  | [], _, h => by cases h; exact .nil
  | z :: zs, _, h => by
    cases h with
    | cons g1 g2 =>
      obtain ⟨t, rfl, ht⟩ := dP_inv g1
      exact .cons (dP_mk (obj_t hp kp ht)) (obj_d hp kp g2)
theorem obj_pl (hp : Ga p = some (.ins C' dx' fs)) (kp : ∀ b o, b ≠ p → Ga b = some o → Gb b = some o) {b : Addr} {ps : List (Int × Int)} (h : PL K Ga b ps) : PL K Gb b ps := let ⟨xs, h1, h2⟩ := h; ⟨xs, obj_l hp kp h1, obj_d hp kp h2⟩
theorem obj_pa2 (hp : Ga p = some (.ins C' dx' fs)) (kp : ∀ b o, b ≠ p → Ga b = some o → Gb b = some o) {b : Addr} {ps : List (Int × Int)} (h : PA2 K Ga b ps) : PA2 K Gb b ps := let ⟨xs, h1, h2⟩ := h; ⟨xs, h1.elim (fun h => .inl (obj_l hp kp h)) (fun h => .inr (obj_t hp kp h)), obj_d hp kp h2⟩
end
section
variable {P : Program} {w : World} {K : PySem.W.Frag} {mg : Str → Option Value} {base : Heap}
abbrev nInit : List Str := ["self", "size", "arrows", "ties", "start", "end", "low", "high"]
theorem sc_init : FnScope nInit ["self", "size", "arrows", "ties"] (defScope sInit) := ⟨rfl, rfl, rfl, by decide +kernel, rfl, by decide +kernel, by decide +kernel⟩
theorem ok_init {f f4 f6 f7 C : Addr} {fd fd4 fd6 fd7 : FuncData} (F : Fun K "__init__" "Plan.__init__" sInit f fd) (T : PlC K mg C)
    (D4 : Df K mg "check_size" sChkSize ["size"] f4 fd4) (G4 : FnOk P w K mg base CX0 4 f4 fd4 ["size"] spChkSize)
    (D6 : Df K mg "are_arrows" sAreArr ["size", "value"] f6 fd6) (G6 : FnOk P w K mg base CX0 6 f6 fd6 ["size", "value"] (spAreArr K))
    (D7 : Df K mg "are_ties" sAreTies ["size", "value"] f7 fd7) (G7 : FnOk P w K mg base CX0 6 f7 fd7 ["size", "value"] (spAreTies K)) (B : Bl mg) :
    FnOk P w K mg base CX0 7 f fd ["self", "size", "arrows", "ties"] (spInit K C) := by
  refine F.ok sc_init (fun vs H Q E h => ?_) (fun cdv A outer s H vs Q E hr h => ?_)
  · obtain ⟨p, dx, a, t, n, as, ts, rfl, _⟩ := h
    rfl
  · obtain ⟨p, dx, a, t, n, as, ts, rfl, hp, ha, ht, n6, pa, ac, pt, lt, q⟩ := h
    refine ⟨_, pss_cons (ps_expr (pe_call G4 (hr.mono (by decide)) rfl D4.g D4.F.kp D4.b .nil pass0 (pa_cons (pv 1) pa_nil)))
      (pss_cons (ps_if (pt_not (pt_val (pe_call G6 hr rfl D6.g D6.F.kp D6.b .nil pass0 (pa_cons (pv 1) (pa_cons (pv 2) pa_nil))))) pss_never pss_nil)
      (pss_cons (ps_if (pt_not (pt_val (pe_call G7 hr rfl D7.g D7.F.kp D7.b .nil pass0 (pa_cons (pv 1) (pa_cons (pv 3) pa_nil))))) pss_never pss_nil)
      (pss_cons (ps_fld (pv 0) (pv 1) rfl)
      (pss_cons (ps_fld (pv 0) (pe_callB cr_sortedPO (by rfl) B.sorted PyProof.Rows.boot_sorted (pa_cons
          (pe_lc (own := [("start", 4), ("end", 5)]) (g := gTup K 2 (gCons (gName 4) (gCons (gName 5) gNil))) (tt := tYes) rfl sc_init.nd (pi_list (pv 2)) (blkOk_by (N := nInit) (sc := defScope sInit) (by decide +kernel))
            (fun _ _ _ _ _ => pg_tup rfl (pgs_cons (pg_name (i := 4) sc_init.nd rfl (Or.inl rfl)) (pgs_cons (pg_name (i := 5) sc_init.nd rfl (Or.inl rfl)) pgs_nil))) (fun _ _ _ _ _ => pts_nil)
            (fun _ _ _ _ _ => pe_tup (pa_cons (pv 4) (pa_cons (pv 5) pa_nil)))) pa_nil)) rfl)
      (pss_one (ps_fld (pv 0) (pe_callB cr_sortedPO (by rfl) B.sorted PyProof.Rows.boot_sorted (pa_cons
          (pe_lc (own := [("low", 6), ("high", 7)]) (g := gTup K 2 (gCons (gName 6) (gCons (gName 7) gNil))) (tt := tYes) rfl sc_init.nd (pi_sq (pv 3)) (blkOk_by (N := nInit) (sc := defScope sInit) (by decide +kernel))
            (fun _ _ _ _ _ => pg_tup rfl (pgs_cons (pg_name (i := 6) sc_init.nd rfl (Or.inl rfl)) (pgs_cons (pg_name (i := 7) sc_init.nd rfl (Or.inl rfl)) pgs_nil))) (fun _ _ _ _ _ => pts_nil)
            (fun _ _ _ _ _ => pe_tup (pa_cons (pv 6) (pa_cons (pv 7) pa_nil)))) pa_nil)) rfl)))))), ?_⟩
    refine ⟨_, rfl, n, rfl, by omega, by omega, ?_⟩
    refine ⟨_, rfl, _, rfl, n, a, as, rfl, ha, by omega, pa, ac, fun H1 s1 => ⟨true, rfl, iteF ?_⟩⟩
    refine ⟨_, rfl, _, rfl, n, t, ts, rfl, pa2_s ht s1, pt, lt, fun H2 s2 => ⟨true, rfl, iteF ?_⟩⟩
    have s02 : Same H H2 := s1.trans s2
    -- self._size = size
    refine ⟨_, rfl, _, rfl, p, C, dx, [], rfl, s02 _ _ hp, T.cl, T.nS, (by show 0 < 1000; decide), ?_⟩
    generalize hH3 : upd H2 p (.ins C dx (putF "_size" (.int n) [])) = H3
    have keep3 : ∀ b o, b ≠ p → H b = some o → H3 b = some o := fun b o hb e => by rw [← hH3, upd_ne hb]; exact s02 b o e
    have hp3 : H3 p = some (.ins C dx (putF "_size" (.int n) [])) := by rw [← hH3, upd_same]
    obtain ⟨xs, hxs, hd⟩ := obj_pl hp keep3 ha
    obtain ⟨ys, hys, hdy⟩ := obj_pa2 hp keep3 ht
    have hlx : xs.length = as.length := by rw [dps_len hd, List.length_map]
    have hly : ys.length = ts.length := by rw [dps_len hdy, List.length_map]
    refine ⟨_, rfl, a, rfl, ⟨xs, hxs⟩, fun D hD => ?_⟩
    refine lc_list (xs := xs) (fun k G => Same H3 G ∧ ∃ acc, G D = some (.lst acc) ∧ acc.length = k ∧ ∀ (i : Nat) (x : V), acc[i]? = some x → ∃ (t : Addr) (z : Int × Int), x = V.ref t ∧ as[i]? = some z ∧ G t = some (.tup [.int z.1, .int z.2]))
      ⟨same_new hD, [], upd_same, rfl, fun i x h => by simp at h⟩ (fun k G _ p => same_l p.1 hxs) ?_ ?_
    · rintro k x G hx ⟨sG, acc, hacc, hlen, hall⟩
      have hk := lt_of_at hx
      obtain ⟨⟨i, j⟩, u, hpk, rfl, hu⟩ := pl_at (dps_s hd sG) hx
      refine ⟨u, _, rfl, hu, rfl, _, _, rfl, _, _, rfl, rfl, rfl, _, rfl, _, rfl, szle (by show 2 ≤ 100000; decide), fun v hv => ?_⟩
      have nvD : v ≠ D := fun e => by rw [e, hacc] at hv; cases hv
      refine ⟨acc, by rw [upd_ne nvD.symm]; exact hacc, szlt (by have := pa.2.1; omega), same_mut (sG.trans (same_new hv)) hD, acc ++ [.ref v], upd_same, by simp [hlen], fun m x hm => ?_⟩
      by_cases c : m < acc.length
      · rw [List.getElem?_append_left c] at hm
        obtain ⟨t', z, e1, e2, e3⟩ := hall m x hm
        have n1 : t' ≠ v := fun e => by rw [e, hv] at e3; cases e3
        have n2 : t' ≠ D := fun e => by rw [e, hacc] at e3; cases e3
        exact ⟨t', z, e1, e2, by rw [upd_ne n2, upd_ne n1]; exact e3⟩
      · rw [List.getElem?_append_right (by omega)] at hm
        have : m - acc.length = 0 := by
          cases e : m - acc.length with
          | zero => rfl
          | succ k => rw [e] at hm; simp at hm
        rw [this] at hm
        simp at hm
        have em : m = k := by omega
        subst em
        exact ⟨v, (i, j), hm.symm, hpk, by rw [upd_ne nvD, upd_same]⟩
    · rintro G ⟨sG, acc, hacc, hlen, hall⟩
      refine ⟨D, acc, prV G, rfl, sl_of hacc, fun x hx => ?_, fun zs pz srt stb hpz => ?_⟩
      · obtain ⟨i, hi⟩ := List.getElem?_of_mem hx
        obtain ⟨t', z, e1, _, e3⟩ := hall i x hi
        exact ⟨t', e1, by rw [e1, prV_eq e3]; exact e3⟩
      obtain ⟨sortA, dpA⟩ := sort_pairs (by omega) hall srt stb
      have sG' : Same H3 (upd G pz (.lst zs)) := sG.trans (same_new hpz)
      refine ⟨_, rfl, p, C, dx, _, rfl, sG' _ _ hp3, T.cl, T.nA, (by have := putF_len "_size" (.int n) []; simp at this; omega), ?_⟩
      have npz : pz ≠ p := fun e => by rw [e, sG _ _ hp3] at hpz; cases hpz
      generalize hH4 : upd (upd G pz (.lst zs)) p (.ins C dx (putF "_arrows" (.ref pz) (putF "_size" (.int n) []))) = H4
      have hp4 : H4 p = some (.ins C dx (putF "_arrows" (.ref pz) (putF "_size" (.int n) []))) := by rw [← hH4, upd_same]
      have keep4 : ∀ b o, b ≠ p → (upd G pz (.lst zs)) b = some o → H4 b = some o := fun b o hb e => by rw [← hH4, upd_ne hb]; exact e
      have keep34 : ∀ b o, b ≠ p → H3 b = some o → H4 b = some o := fun b o hb e => keep4 b o hb (sG' b o e)
      have plA : PL K H4 pz (zs.map (prV G)) := obj_pl (sG' _ _ hp3) keep4 ⟨zs, sl_of upd_same, dps_s dpA (same_new hpz)⟩
      obtain ⟨ys, hys, hdy⟩ : PA2 K H4 t ts := obj_pa2 hp3 keep34 ⟨ys, hys, hdy⟩
      -- the ties
      refine ⟨_, rfl, t, ys, rfl, hys, fun it2 hit2 D2 hD2 => ?_⟩
      have hly : ys.length = ts.length := by rw [dps_len hdy, List.length_map]
      refine lc_sq hit2 (fun k G => Same H4 G ∧ ∃ acc, G D2 = some (.lst acc) ∧ acc.length = k ∧ ∀ (i : Nat) (x : V), acc[i]? = some x → ∃ (t : Addr) (z : Int × Int), x = V.ref t ∧ ts[i]? = some z ∧ G t = some (.tup [.int z.1, .int z.2]))
        ⟨same_new hD2, [], upd_same, rfl, fun i x h => by simp at h⟩ (fun k G _ p => p.1) ?_ ?_
      · rintro k x G2 hx ⟨sG2, acc2, hacc2, hlen2, hall2⟩
        have hk := lt_of_at hx
        obtain ⟨⟨i, j⟩, u, hpk, rfl, hu⟩ := pl_at (dps_s hdy sG2) hx
        refine ⟨u, _, rfl, hu, rfl, _, _, rfl, _, _, rfl, rfl, rfl, _, rfl, _, rfl, szle (by show 2 ≤ 100000; decide), fun v hv => ?_⟩
        have nvD : v ≠ D2 := fun e => by rw [e, hacc2] at hv; cases hv
        refine ⟨acc2, by rw [upd_ne nvD.symm]; exact hacc2, szlt (by have := pt.2.1; omega), same_mut (sG2.trans (same_new hv)) hD2, acc2 ++ [.ref v], upd_same, by simp [hlen2], fun m x hm => ?_⟩
        by_cases c : m < acc2.length
        · rw [List.getElem?_append_left c] at hm
          obtain ⟨t', z, e1, e2, e3⟩ := hall2 m x hm
          have n1 : t' ≠ v := fun e => by rw [e, hv] at e3; cases e3
          have n2 : t' ≠ D2 := fun e => by rw [e, hacc2] at e3; cases e3
          exact ⟨t', z, e1, e2, by rw [upd_ne n2, upd_ne n1]; exact e3⟩
        · rw [List.getElem?_append_right (by omega)] at hm
          have : m - acc2.length = 0 := by
            cases e : m - acc2.length with
            | zero => rfl
            | succ k => rw [e] at hm; simp at hm
          rw [this] at hm
          simp at hm
          have em : m = k := by omega
          subst em
          exact ⟨v, (i, j), hm.symm, hpk, by rw [upd_ne nvD, upd_same]⟩
      · rintro G2 ⟨sG2, acc2, hacc2, hlen2, hall2⟩
        refine ⟨D2, acc2, prV G2, rfl, sl_of hacc2, fun x hx => ?_, fun ws pw srt2 stb2 hpw => ?_⟩
        · obtain ⟨i, hi⟩ := List.getElem?_of_mem hx
          obtain ⟨t', z, e1, _, e3⟩ := hall2 i x hi
          exact ⟨t', e1, by rw [e1, prV_eq e3]; exact e3⟩
        obtain ⟨sortT, dpT⟩ := sort_pairs (by omega) hall2 srt2 stb2
        have sG2' : Same H4 (upd G2 pw (.lst ws)) := sG2.trans (same_new hpw)
        refine ⟨_, rfl, p, C, dx, _, rfl, sG2' _ _ hp4, T.cl, T.nT, (by have h1 := putF_len "_size" (.int n) []; have h2 := putF_len "_arrows" (.ref pz) (putF "_size" (.int n) []); simp at h1; omega), ?_⟩
        have keep5 : ∀ b o, b ≠ p → (upd G2 pw (.lst ws)) b = some o → (upd (upd G2 pw (.lst ws)) p (.ins C dx (putF "_ties" (.ref pw) (putF "_arrows" (.ref pz) (putF "_size" (.int n) []))))) b = some o := fun b o hb e => by rw [upd_ne hb]; exact e
        refine q _ (zs.map (prV G)) (ws.map (prV G2)) (fun b o hb e => keep5 b o hb (sG2' _ _ (keep34 b o hb (keep3 b o hb e)))) sortA sortT ?_
        refine ⟨⟨dx, pz, pw, upd_same, ?_, ?_⟩, n6, prs_perm pa sortA.1, acy_perm ac sortA.1, prs_perm pt sortT.1, fun z hz => lt z (sortT.1.mem_iff.mp hz), sortA.2, sortT.2⟩
        · exact obj_pl hp4 (fun b o hb e => keep5 b o hb (sG2' b o e)) plA
        · exact obj_pl (sG2' _ _ hp4) keep5 ⟨ws, sl_of upd_same, dps_s dpT (same_new hpw)⟩
end
end Tk

namespace Tk
/-- along the pairs one comes from a to b -/
inductive Reach (ps : List (Int × Int)) (a : Int) : Int → Prop
  | refl : Reach ps a a
  | tail {b c : Int} : Reach ps a b → (b, c) ∈ ps → Reach ps a c
theorem Reach.trans {ps : List (Int × Int)} {a b c : Int} (h : Reach ps a b) (g : Reach ps b c) : Reach ps a c := by
  induction g with
  | refl => exact h
  | tail _ hp ih => exact .tail ih hp
theorem Reach.head {ps : List (Int × Int)} {a b c : Int} (h : (a, b) ∈ ps) (g : Reach ps b c) : Reach ps a c := Reach.trans (.tail .refl h) g
theorem Reach.sub {ps qs : List (Int × Int)} {a b : Int} (h : Reach ps a b) (s : ∀ p ∈ ps, p ∈ qs) : Reach qs a b := by
  induction h with
  | refl => exact .refl
  | tail _ hp ih => exact .tail ih (s _ hp)
def swp (p : Int × Int) : Int × Int := (p.2, p.1)
theorem Reach.swap {ps : List (Int × Int)} {a b : Int} (h : Reach ps a b) : Reach (ps.map swp) b a := by
  induction h with
  | refl => exact .refl
  | @tail b c _ hp ih =>
    have : (c, b) ∈ ps.map swp := List.mem_map.mpr ⟨(b, c), hp, rfl⟩
    exact Reach.head this ih
theorem swp_swp (ps : List (Int × Int)) : (ps.map swp).map swp = ps := by
  rw [List.map_map]
  have : swp ∘ swp = id := by funext p; rfl
  rw [this, List.map_id]
theorem reach_swap {ps : List (Int × Int)} {a b : Int} : Reach (ps.map swp) a b ↔ Reach ps b a :=
  ⟨fun h => by have := h.swap; rw [swp_swp] at this; exact this, Reach.swap⟩
/-- a search on its way -/
structure RInv (n : Nat) (ps : List (Int × Int)) (st : Int) (fo wa : List Int) : Prop where
  nd : fo.Nodup
  th : ∀ x ∈ fo, x ∈ things n
  ss : st ∈ fo
  re : ∀ x ∈ fo, Reach ps st x
  wf : ∀ x ∈ wa, x ∈ fo
  cl : ∀ x ∈ fo, x ∉ wa → ∀ p ∈ ps, p.1 = x → p.2 ∈ fo
def freshL (ps : List (Int × Int)) (fo : List Int) (x : Int) : List Int := (ps.filter fun p => decide (p.1 = x) && !decide (p.2 ∈ fo)).map (·.2)
theorem mem_freshL {ps : List (Int × Int)} {fo : List Int} {x y : Int} : y ∈ freshL ps fo x ↔ (x, y) ∈ ps ∧ y ∉ fo := by
  unfold freshL
  simp only [List.mem_map, List.mem_filter, Bool.and_eq_true, decide_eq_true_eq, Bool.not_eq_true', decide_eq_false_iff_not]
  constructor
  · rintro ⟨⟨a, b⟩, ⟨h1, h2, h3⟩, rfl⟩
    simp at h2
    subst h2
    exact ⟨h1, h3⟩
  · rintro ⟨h1, h2⟩
    exact ⟨(x, y), ⟨h1, rfl, h2⟩, rfl⟩
theorem freshL_nodup {ps : List (Int × Int)} (hn : ps.Nodup) (fo : List Int) (x : Int) : (freshL ps fo x).Nodup := by
  unfold freshL
  show List.Pairwise _ _
  rw [List.pairwise_map]
  have h : (ps.filter fun p => decide (p.1 = x) && !decide (p.2 ∈ fo)).Nodup := hn.filter _
  refine List.Pairwise.imp_of_mem (fun {a b} ha hb hne e => hne ?_) h
  have h1 := (List.mem_filter.mp ha).2
  have h2 := (List.mem_filter.mp hb).2
  simp at h1 h2
  exact Prod.ext (h1.1.trans h2.1.symm) e
theorem rinv_0 {n : Nat} {ps : List (Int × Int)} {st : Int} (h : st ∈ things n) : RInv n ps st [st] [st] :=
  ⟨by simp, (fun x hx => by simp at hx; exact hx ▸ h), by simp, (fun x hx => by simp at hx; rw [hx]; exact .refl), (fun x hx => hx), (fun x hx hw => absurd hx hw)⟩
theorem rinv_step {n : Nat} {ps : List (Int × Int)} {st x : Int} {fo wa : List Int} (h : RInv n ps st fo (wa ++ [x])) (hn : ps.Nodup) (hr : ∀ p ∈ ps, p.2 ∈ things n) :
    RInv n ps st (fo ++ freshL ps fo x) (wa ++ freshL ps fo x) := by
  have hx : x ∈ fo := h.wf x (by simp)
  refine ⟨?_, ?_, ?_, ?_, ?_, ?_⟩
  · rw [List.nodup_append]
    refine ⟨h.nd, freshL_nodup hn fo x, ?_⟩
    intro a ha b hb e
    subst e
    exact (mem_freshL.mp hb).2 ha
  · intro y hy
    rcases List.mem_append.mp hy with q | q
    · exact h.th y q
    · exact hr _ (mem_freshL.mp q).1
  · exact List.mem_append_left _ h.ss
  · intro y hy
    rcases List.mem_append.mp hy with q | q
    · exact h.re y q
    · exact .tail (h.re x hx) (mem_freshL.mp q).1
  · intro y hy
    rcases List.mem_append.mp hy with q | q
    · exact List.mem_append_left _ (h.wf y (List.mem_append_left _ q))
    · exact List.mem_append_right _ q
  · intro y hy hw p hp e
    have hw1 : y ∉ wa := fun q => hw (List.mem_append_left _ q)
    have hw2 : y ∉ freshL ps fo x := fun q => hw (List.mem_append_right _ q)
    have hy' : y ∈ fo := by
      rcases List.mem_append.mp hy with q | q
      · exact q
      · exact absurd q hw2
    by_cases c : y = x
    · by_cases d : p.2 ∈ fo
      · exact List.mem_append_left _ d
      · refine List.mem_append_right _ (mem_freshL.mpr ⟨?_, d⟩)
        have : (x, p.2) = p := Prod.ext (by show x = p.1; rw [e, c]) rfl
        rw [this]; exact hp
    · refine List.mem_append_left _ (h.cl y hy' (fun q => ?_) p hp e)
      rcases List.mem_append.mp q with q | q
      · exact hw1 q
      · simp at q
        exact c q
theorem rinv_end {n : Nat} {ps : List (Int × Int)} {st : Int} {fo : List Int} (h : RInv n ps st fo []) (y : Int) : y ∈ fo ↔ Reach ps st y := by
  refine ⟨h.re y, fun r => ?_⟩
  induction r with
  | refl => exact h.ss
  | tail _ hp ih => exact h.cl _ ih (by simp) _ hp rfl
theorem rinv_len {n : Nat} {ps : List (Int × Int)} {st : Int} {fo wa : List Int} (h : RInv n ps st fo wa) : fo.length ≤ n := by
  have := nodup_le h.nd (m := things n) (fun x hx => h.th x hx)
  rw [things_len] at this
  exact this
/-- two rising lists with the same members -/
theorem rise_eq : ∀ {l m : List Int}, l.Pairwise (· < ·) → m.Pairwise (· < ·) → (∀ x, x ∈ l ↔ x ∈ m) → l = m
  | [], [], _, _, _ => rfl
  | [], y :: m, _, _, h => absurd ((h y).mpr (List.mem_cons_self ..)) (by simp)
  | x :: l, [], _, _, h => absurd ((h x).mp (List.mem_cons_self ..)) (by simp)
  | x :: l, y :: m, hl, hm, h => by
    have hl' := List.pairwise_cons.mp hl
    have hm' := List.pairwise_cons.mp hm
    have e : x = y := by
      have h1 := (h x).mp (List.mem_cons_self ..)
      have h2 := (h y).mpr (List.mem_cons_self ..)
      rcases List.mem_cons.mp h1 with q | q
      · exact q
      · rcases List.mem_cons.mp h2 with r | r
        · exact r.symm
        · have a := hm'.1 x q
          have b := hl'.1 y r
          omega
    subst e
    refine congrArg (x :: ·) (rise_eq hl'.2 hm'.2 fun z => ?_)
    constructor
    · intro hz
      rcases List.mem_cons.mp ((h z).mp (List.mem_cons_of_mem _ hz)) with q | q
      · have := hl'.1 z hz
        omega
      · exact q
    · intro hz
      rcases List.mem_cons.mp ((h z).mpr (List.mem_cons_of_mem _ hz)) with q | q
      · have := hm'.1 z hz
        omega
      · exact q
theorem things_rise (n : Nat) : (things n).Pairwise (· < ·) := by
  unfold things
  rw [List.pairwise_map]
  exact List.Pairwise.imp (fun h => by simpa using h) (List.pairwise_lt_range (n := n))
theorem le_nodup_lt {l : List Int} (h : l.Pairwise (· ≤ ·)) (n : l.Nodup) : l.Pairwise (· < ·) := by
  have : l.Pairwise (fun a b => a ≤ b ∧ a ≠ b) := List.Pairwise.and h n
  exact this.imp fun h => by omega
/-- earlier in the order -/
theorem topo_reach {n : Nat} {ps : List (Int × Int)} {o : List Int} (h : Topo n ps o) (hr : ∀ p ∈ ps, p.1 ∈ things n ∧ p.2 ∈ things n) {a b : Int} (r : Reach ps a b) (ha : a ∈ things n) :
    b ∈ things n ∧ (a ≠ b → ∀ i j : Nat, o[i]? = some a → o[j]? = some b → i < j) := by
  induction r with
  | refl => exact ⟨ha, fun q => absurd rfl q⟩
  | @tail b c _ hp ih =>
    refine ⟨(hr _ hp).2, fun _ i j hi hj => ?_⟩
    obtain ⟨k, hk⟩ := List.getElem?_of_mem ((h.mem b).mpr ih.1)
    have kj := h.at_ _ hp k j hk hj
    by_cases e : a = b
    · subst e
      have ik : i = k := by
        have hi' := List.getElem?_eq_some_iff.mp hi
        have hk' := List.getElem?_eq_some_iff.mp hk
        obtain ⟨hi1, hi2⟩ := hi'
        obtain ⟨hk1, hk2⟩ := hk'
        exact (List.getElem_inj h.nd).mp (hi2.trans hk2.symm)
      omega
    · have := ih.2 e i k hi hk
      omega
theorem acy_irr {ps : List (Int × Int)} (h : Acy ps) {a b : Int} (r1 : Reach ps a b) (r2 : Reach ps b a) : a = b := by
  obtain ⟨r, hr⟩ := h
  have le : ∀ {x y : Int}, Reach ps x y → x = y ∨ r x < r y := by
    intro x y q
    induction q with
    | refl => exact .inl rfl
    | tail _ hp ih =>
      have := hr _ hp
      simp at this
      rcases ih with e | l
      · right; rw [e]; exact this
      · right; omega
  rcases le r1 with e | l1
  · exact e
  · rcases le r2 with e | l2
    · exact e.symm
    · omega
end Tk

namespace Tk
open PySem PySem.Spec PyProof.Rows L2
/-- tuples that stand for the first k pairs -/
def TA (G : Hp) (acc : List V) (ps : List (Int × Int)) (k : Nat) : Prop :=
  acc.length = k ∧ ∀ (i : Nat) (x : V), acc[i]? = some x → ∃ (t : Addr) (z : Int × Int), x = V.ref t ∧ ps[i]? = some z ∧ G t = some (.tup [.int z.1, .int z.2])
theorem ta_0 (G : Hp) (ps : List (Int × Int)) : TA G [] ps 0 := ⟨rfl, fun i x h => by simp at h⟩
theorem ta_put {G : Hp} {acc : List V} {ps : List (Int × Int)} {k : Nat} {D v : Addr} {z : Int × Int} {o : List V} (h : TA G acc ps k) (hD : G D = some (.lst o)) (hv : G v = none) (hz : ps[k]? = some z) :
    TA (upd (upd G v (.tup [.int z.1, .int z.2])) D (.lst (acc ++ [.ref v]))) (acc ++ [.ref v]) ps (k + 1) := by
  obtain ⟨hl, ha⟩ := h
  have nvD : v ≠ D := fun e => by rw [e, hD] at hv; cases hv
  refine ⟨by simp [hl], fun m x hm => ?_⟩
  by_cases c : m < acc.length
  · rw [List.getElem?_append_left c] at hm
    obtain ⟨t, w, e1, e2, e3⟩ := ha m x hm
    have n1 : t ≠ v := fun e => by rw [e, hv] at e3; cases e3
    have n2 : t ≠ D := fun e => by rw [e, hD] at e3; cases e3
    exact ⟨t, w, e1, e2, by rw [upd_ne n2, upd_ne n1]; exact e3⟩
  · rw [List.getElem?_append_right (by omega)] at hm
    have m0 : m - acc.length = 0 := by
      cases e : m - acc.length with
      | zero => rfl
      | succ k => rw [e] at hm; simp at hm
    rw [m0] at hm
    simp at hm
    have em : m = k := by omega
    subst em
    exact ⟨v, z, hm.symm, hz, by rw [upd_ne nvD, upd_same]⟩
theorem ta_dps {K : PySem.W.Frag} {G : Hp} : ∀ {acc : List V} {ps : List (Int × Int)}, TA G acc ps ps.length → DpAll K G acc (ps.map dP) := by
  intro acc ps
  induction ps generalizing acc with
  | nil =>
    intro h
    have : acc = [] := List.length_eq_zero_iff.mp h.1
    subst this
    exact .nil
  | cons p ps ih =>
    intro h
    cases acc with
    | nil => have := h.1; simp at this
    | cons x acc =>
      obtain ⟨t, z, e1, e2, e3⟩ := h.2 0 x (by simp)
      simp at e2
      subst e2
      rw [e1]
      refine .cons (dP_mk (st_of e3)) (ih ⟨by have := h.1; simpa using this, fun i y hy => ?_⟩)
      obtain ⟨t', z', f1, f2, f3⟩ := h.2 (i + 1) y (by simpa using hy)
      exact ⟨t', z', f1, by simpa using f2, f3⟩
theorem ta_s {G G' : Hp} {acc : List V} {ps : List (Int × Int)} {k : Nat} (h : TA G acc ps k) (e : Same G G') : TA G' acc ps k :=
  ⟨h.1, fun i x hx => let ⟨t, z, a, b, c⟩ := h.2 i x hx; ⟨t, z, a, b, e _ _ c⟩⟩

/-- a list, new or not, of pairs -/
abbrev PM (K : PySem.W.Frag) (H : Hp) (a : Addr) (ps : List (Int × Int)) : Prop := ∃ xs, H a = some (.lst xs) ∧ DpAll K H xs (ps.map dP)
theorem pm_pl {K : PySem.W.Frag} {H : Hp} {a : Addr} {ps : List (Int × Int)} (h : PM K H a ps) : PL K H a ps := let ⟨xs, h1, h2⟩ := h; ⟨xs, sl_of h1, h2⟩
theorem pm_s {K : PySem.W.Frag} {H H' : Hp} {a : Addr} {ps : List (Int × Int)} (h : PM K H a ps) (e : Same H H') : PM K H' a ps := let ⟨xs, h1, h2⟩ := h; ⟨xs, e _ _ h1, dps_s h2 e⟩
def spReached (K : PySem.W.Frag) : Sp := fun vs H Q _ => ∃ (n : Nat) (a : Addr) (st : Int) (ps : List (Int × Int)), vs = [.ref a, .int st] ∧ PL K H a ps ∧ n ≤ 60 ∧ Prs n ps ∧ st ∈ things n ∧
  ∀ (H' : Hp) (p : Addr) (fo : List Int), Same H H' → H p = none → H' p = some (.lst (fo.map V.int)) → fo.Nodup → (∀ x ∈ fo, x ∈ things n) → (∀ y, y ∈ fo ↔ Reach ps st y) → Q (.ref p) H'
def spArr (K : PySem.W.Frag) (C : Addr) : Sp := fun vs H Q _ => ∃ (p : Addr) (n : Nat) (as ts : List (Int × Int)), vs = [.ref p] ∧ PlanAt K C H p n as ts ∧ ∀ H' l, Same H H' → H l = none → PM K H' l as → Q (.ref l) H'
def spChkPlan (C : Addr) : Sp := fun vs H Q _ => ∃ (p dx : Addr) (fs : List (Str × V)), vs = [.ref p] ∧ H p = some (.ins C dx fs) ∧ Q .non H
section
variable {P : Program} {w : World} {K : PySem.W.Frag} {mg : Str → Option Value} {base : Heap}
abbrev nReach : List Str := ["pairs", "start", "found", "waiting", "thing", "fresh", "here", "end"]
theorem sc_reached : FnScope nReach ["pairs", "start"] (defScope sReached) := ⟨rfl, rfl, rfl, by decide +kernel, rfl, by decide +kernel, by decide +kernel⟩
theorem ok_reached {f : Addr} {fd : FuncData} (F : Fun K "reached" "reached" sReached f fd) (B : Bl mg) : FnOk P w K mg base CX0 1 f fd ["pairs", "start"] (spReached K) := by
  refine F.ok sc_reached (fun vs H Q E h => ?_) (fun cdv A outer s H vs Q E hr h => ?_)
  · obtain ⟨n, a, st, ps, rfl, _⟩ := h
    rfl
  · obtain ⟨n, a, st, ps, rfl, ⟨xs, hxs, hd⟩, hn, hps, hst, q⟩ := h
    refine ⟨_, pss_cons (ps_set (i := 2) sc_reached.nd rfl (Or.inr rfl) (pe_lst (pa_cons (pv 1) pa_nil)))
      (pss_cons (ps_set (i := 3) sc_reached.nd rfl (Or.inl rfl) (pe_lst (pa_cons (pv 1) pa_nil)))
      (pss_cons (ps_while PassesOwn.never (pt_truth (pv 3) (fun _ => rfl))
        (pss_cons (ps_set (i := 4) sc_reached.nd rfl (Or.inr rfl) (pe_bm0 PySem.F.plainAttrs_list PySem.F.slot_list_pop PySem.F.type_list_pop mt_pop (pv 3)))
        (pss_cons (ps_setLc (i := 5) (own := [("here", 6), ("end", 7)]) (g := gTup K 2 (gCons (gName 6) (gCons (gName 7) gNil))) (tt := tAnd (tTest (tOp rEq (tVar 6) (tVar 4))) (tTest (tOp (rIn K true) (tVar 7) (tVar 2)))) rfl sc_reached.nd rfl rfl (sw_true rfl rfl rfl (by decide +kernel)) (pi_list (pv 0)) (blkOk_by (N := nReach) (sc := defScope sReached) (by decide +kernel))
            (fun _ _ _ _ _ => pg_tup rfl (pgs_cons (pg_name (i := 6) sc_reached.nd rfl (Or.inl rfl)) (pgs_cons (pg_name (i := 7) sc_reached.nd rfl (Or.inl rfl)) pgs_nil)))
            (fun _ _ _ _ _ => pts_one (PW.pt (pw_and (pt_cmpR op_eq (pv 6) (pv 4) (nomark _)) (pw_and1 (pt_cmpR op_notIn_seq (pv 7) (pv 2) (by rfl))))))
            (fun _ _ _ _ _ => pv 7))
        (pss_cons (ps_expr (pe_bm PySem.F.plainAttrs_list PySem.F.slot_list_extend PySem.F.type_list_extend mt_extend (pv 2) (pa_cons (pv 5) pa_nil)))
        (pss_one (ps_expr (pe_bm PySem.F.plainAttrs_list PySem.F.slot_list_extend PySem.F.type_list_extend mt_extend (pv 3) (pa_cons (pv 5) pa_nil))))))))
      (pss_one (ps_ret (pv 2))))), ?_⟩
    have hl : xs.length = ps.length := by rw [dps_len hd, List.length_map]
    refine ⟨_, rfl, szle (by show 1 ≤ 100000; decide), fun pf hpf => ?_⟩
    refine ⟨_, rfl, szle (by show 1 ≤ 100000; decide), fun pw hpw => ?_⟩
    have npw : pf ≠ pw := fun e => by rw [e, upd_same] at hpw; cases hpw
    have hpw0 : H pw = none := by rw [upd_ne npw.symm] at hpw; exact hpw
    refine ⟨fun m σ H1 => ∃ (fo wa : List Int) (v4 v5 v6 v7 : Option V), σ = [some (V.ref a), some (V.int st), some (V.ref pf), some (V.ref pw), v4, v5, v6, v7] ∧ Same H H1 ∧ H1 pf = some (.lst (fo.map V.int)) ∧ H1 pw = some (.lst (wa.map V.int)) ∧ RInv n ps st fo wa ∧ wa.length ≤ fo.length ∧ 2 * (n - fo.length) + wa.length = m,
      ⟨_, [st], [st], none, none, none, none, rfl, ?_, ?_, ?_, rinv_0 hst, Nat.le_refl _, rfl⟩, ?_⟩
    · exact (same_new hpf).trans (same_new hpw)
    · rw [upd_ne npw, upd_same]; rfl
    · rw [upd_same]; rfl
    rintro m σ H1 ⟨fo, wa, v4, v5, v6, v7, rfl, s1, hf, hw, inv, wle, rfl⟩
    refine ⟨_, rfl, _, .inl ⟨_, sl_of hw, rfl⟩, ?_⟩
    rcases List.eq_nil_or_concat wa with rfl | ⟨wb, x, rfl⟩
    · exact ⟨_, rfl, q H1 pf fo s1 hpf hf inv.nd inv.th (rinv_end inv)⟩
    · have lem : (!((wb.concat x).map V.int).isEmpty) = true := by simp
      rw [lem]
      rw [List.concat_eq_append] at *
      refine ⟨_, fun σ' H' z => z, ?_⟩
      have xfo : x ∈ fo := inv.wf x (by simp)
      -- thing = waiting.pop()
      refine ⟨_, rfl, .inl ⟨rfl, _, sl_of hw⟩, pw, _, V.int x, rfl, rfl, hw, (by simp), ?_⟩
      have edl : ((wb ++ [x]).map V.int).dropLast = wb.map V.int := by simp
      rw [edl]
      generalize hH2 : upd H1 pw (.lst (wb.map V.int)) = H2
      have s02 : Same H H2 := by rw [← hH2]; exact same_mut s1 hpw0
      have hf2 : H2 pf = some (.lst (fo.map V.int)) := by rw [← hH2, upd_ne npw]; exact hf
      have hw2 : H2 pw = some (.lst (wb.map V.int)) := by rw [← hH2, upd_same]
      have hfol := rinv_len inv
      -- fresh
      refine ⟨_, rfl, a, rfl, ⟨xs, same_l s02 hxs⟩, fun D hD => ?_⟩
      refine lc_list (xs := xs) (LcP H2 D fun k => (freshL (ps.take k) fo x).map V.int) (lcp_0 hD rfl) (fun k H3 _ p => same_l (s02.trans p.1) hxs) ?_ ?_
      · intro k y H3 hx p
        obtain ⟨⟨i, j⟩, t, hpk, rfl, ht⟩ := pl_at (dps_s hd (s02.trans p.1)) hx
        have short : ((freshL (ps.take k) fo x).map V.int).length < 100000 := by
          have h1 := hps.2.1
          have h2 : (freshL (ps.take k) fo x).length ≤ (ps.take k).length := by unfold freshL; rw [List.length_map]; exact List.length_filter_le ..
          rw [List.length_take] at h2
          rw [List.length_map]; omega
        have et : freshL (ps.take (k + 1)) fo x = if i = x ∧ j ∉ fo then freshL (ps.take k) fo x ++ [j] else freshL (ps.take k) fo x := by
          unfold freshL
          rw [take_at hpk, List.filter_append, List.map_append]
          by_cases c : i = x ∧ j ∉ fo
          · rw [if_pos c]; simp [c.1, c.2]
          · rw [if_neg c]
            by_cases c1 : i = x
            · have c2 : j ∈ fo := Classical.byContradiction fun z => c ⟨c1, z⟩
              simp [c2]
            · simp [c1]
        refine ⟨t, _, rfl, ht, rfl, _, _, rfl, _, _, rfl, rfl, rfl, _, rfl, _, rfl, rfl, decide (i = x), dec_bl, ?_⟩
        by_cases c1 : i = x
        · rw [decide_eq_true c1]
          refine ⟨_, rfl, _, rfl, pf, _, rfl, .inl (sl_of (p.1 _ _ hf2)), rfl, flat_ints fo, _, notin_bl, ?_⟩
          by_cases c2 : j ∈ fo
          · rw [decide_eq_true c2]
            refine iteF (lcp_no p ?_)
            rw [et, if_neg (fun z => z.2 c2)]
          · rw [decide_eq_false c2]
            refine ⟨_, rfl, ?_⟩
            refine lcp_put hD p ?_ short
            rw [et, if_pos ⟨c1, c2⟩, List.map_append]; rfl
        · rw [decide_eq_false c1]
          refine iteF (lcp_no p ?_)
          rw [et, if_neg (fun z => c1 z.1)]
      · intro H3 p
        have hD3 : H3 D = some (.lst ((freshL (ps.take xs.length) fo x).map V.int)) := p.2
        rw [take_all hl.symm] at hD3
        have s3 : Same H2 H3 := p.1
        have hf3 : H3 pf = some (.lst (fo.map V.int)) := s3 _ _ hf2
        have hw3 : H3 pw = some (.lst (wb.map V.int)) := s3 _ _ hw2
        have nDf : D ≠ pf := fun e => by rw [e, hf2] at hD; cases hD
        have nDw : D ≠ pw := fun e => by rw [e, hw2] at hD; cases hD
        have inv2 := rinv_step inv hps.1 (fun p hp => mem_things.mpr ⟨(hps.2.2 p hp).2.2.1, (hps.2.2 p hp).2.2.2.1⟩)
        have l2 := rinv_len inv2
        rw [List.length_append] at l2
        have wl : wb.length + (freshL ps fo x).length ≤ 1000 := by
          have h2 : (freshL ps fo x).length ≤ 60 := by omega
          simp at wle
          omega
        refine ⟨_, rfl, .inl ⟨rfl, _, sl_of hf3⟩, _, rfl, pf, D, _, _, rfl, rfl, hf3, hD3, szle (by simp; omega), ?_⟩
        have hD4 : (upd H3 pf (.lst (fo.map V.int ++ (freshL ps fo x).map V.int))) D = some (.lst ((freshL ps fo x).map V.int)) := by rw [upd_ne nDf]; exact hD3
        have hw4 : (upd H3 pf (.lst (fo.map V.int ++ (freshL ps fo x).map V.int))) pw = some (.lst (wb.map V.int)) := by rw [upd_ne npw.symm]; exact hw3
        refine ⟨_, rfl, .inl ⟨rfl, _, sl_of hw4⟩, _, rfl, pw, D, _, _, rfl, rfl, hw4, hD4, szle (by simp; omega), ?_⟩
        refine ⟨_, ?_, fo ++ freshL ps fo x, wb ++ freshL ps fo x, _, _, _, _, rfl, ?_, ?_, ?_, inv2, (by simp at wle ⊢; omega), rfl⟩
        · simp only [List.length_append, List.length_cons, List.length_nil]
          omega
        · exact same_mut (same_mut (s02.trans s3) hpf) hpw0
        · rw [upd_ne npw, upd_same, List.map_append]
        · rw [upd_same, List.map_append]
end
end Tk

/-! plain mathematics of lots -/
namespace Tk
def turnL (ps : List (Int × Int)) : List (Int × Int) := ps.map swp
def both (ps : List (Int × Int)) : List (Int × Int) := ps ++ turnL ps
def withinL (ps : List (Int × Int)) (lot : List Int) : List (Int × Int) := ps.filter fun p => decide (p.1 ∈ lot) && decide (p.2 ∈ lot)
theorem mem_turnL {ps : List (Int × Int)} {x y : Int} : (x, y) ∈ turnL ps ↔ (y, x) ∈ ps := by
  unfold turnL
  rw [List.mem_map]
  constructor
  · rintro ⟨⟨a, b⟩, h, e⟩
    have e1 : b = x := congrArg Prod.fst e
    have e2 : a = y := congrArg Prod.snd e
    rw [← e1, ← e2]; exact h
  · intro h
    exact ⟨(y, x), h, rfl⟩
theorem mem_both {ps : List (Int × Int)} {x y : Int} : (x, y) ∈ both ps ↔ (x, y) ∈ ps ∨ (y, x) ∈ ps := by
  unfold both
  rw [List.mem_append, mem_turnL]
theorem mem_withinL {ps : List (Int × Int)} {lot : List Int} {x y : Int} : (x, y) ∈ withinL ps lot ↔ (x, y) ∈ ps ∧ x ∈ lot ∧ y ∈ lot := by
  unfold withinL
  simp
theorem both_sym {ps : List (Int × Int)} {a b : Int} (h : Reach (both ps) a b) : Reach (both ps) b a := by
  induction h with
  | refl => exact .refl
  | tail _ hp ih => exact Reach.head (mem_both.mpr ((mem_both.mp hp).symm)) ih
/-- who leads to whom within a lot, turned about -/
def upIn (as : List (Int × Int)) (lot : List Int) : List (Int × Int) := turnL (withinL as lot)
theorem mem_upIn {as : List (Int × Int)} {lot : List Int} {x y : Int} : (x, y) ∈ upIn as lot ↔ (y, x) ∈ as ∧ y ∈ lot ∧ x ∈ lot := by
  unfold upIn
  rw [mem_turnL, mem_withinL]
theorem reach_in {ps : List (Int × Int)} {lot : List Int} {a b : Int} (h : Reach ps a b) (ha : a ∈ lot) (s : ∀ p ∈ ps, p.2 ∈ lot) : b ∈ lot := by
  cases h with
  | refl => exact ha
  | tail _ hp => exact s _ hp
theorem up_in {as : List (Int × Int)} {lot : List Int} {a b : Int} (h : Reach (upIn as lot) a b) (ha : a ∈ lot) : b ∈ lot :=
  reach_in h ha fun ⟨x, y⟩ hp => (mem_upIn.mp hp).2.1
/-- all of the lot lead to x within it -/
def IsHead (as : List (Int × Int)) (lot : List Int) (x : Int) : Prop := ∀ y ∈ lot, Reach (upIn as lot) x y
noncomputable def headB (as : List (Int × Int)) (lot : List Int) (x : Int) : Bool := @decide (IsHead as lot x) (Classical.propDecidable _)
theorem headB_iff {as : List (Int × Int)} {lot : List Int} {x : Int} : headB as lot x = true ↔ IsHead as lot x := by
  unfold headB
  exact @decide_eq_true_iff _ (Classical.propDecidable _)
noncomputable def headsL (as : List (Int × Int)) (lot : List Int) : List Int := lot.filter (headB as lot)
/-- a search from x that ended has as many as the lot just if all of the lot are met -/
theorem met_all {ps : List (Int × Int)} {lot fo : List Int} {x : Int} (nl : lot.Nodup) (nf : fo.Nodup) (hf : ∀ y, y ∈ fo ↔ Reach ps x y) (inn : ∀ y, Reach ps x y → y ∈ lot) : fo.length = lot.length ↔ ∀ y ∈ lot, Reach ps x y := by
  constructor
  · intro e y hy
    refine (hf y).mp (Classical.byContradiction fun c => ?_)
    have := nodup_le (l := y :: fo) (m := lot) (List.nodup_cons.mpr ⟨c, nf⟩) (fun z hz => by
      rcases List.mem_cons.mp hz with q | q
      · exact q ▸ hy
      · exact inn z ((hf z).mp q))
    rw [List.length_cons] at this
    omega
  · intro h
    exact nodup_eq nf nl fun y => ⟨fun hy => inn y ((hf y).mp hy), fun hy => (hf y).mpr (h y hy)⟩
theorem le_lt {l : List Int} (h : l.Pairwise (· ≤ ·)) (n : l.Nodup) : l.Pairwise (· < ·) := by
  induction l with
  | nil => exact .nil
  | cons x l ih =>
    have h1 := List.pairwise_cons.mp h
    have n1 := List.nodup_cons.mp n
    refine List.pairwise_cons.mpr ⟨fun y hy => ?_, ih h1.2 n1.2⟩
    have a := h1.1 y hy
    have b : x ≠ y := fun e => n1.1 (e ▸ hy)
    omega
theorem lt_nd {l : List Int} (h : l.Pairwise (· < ·)) : l.Nodup := List.Pairwise.imp (fun {a b} c e => by omega) h
/-- sorted, it is the lot just if all of the lot are met -/
theorem met_sorted {ps : List (Int × Int)} {lot fo ns : List Int} {x : Int} (rl : lot.Pairwise (· < ·)) (nf : fo.Nodup) (hf : ∀ y, y ∈ fo ↔ Reach ps x y) (inn : ∀ y, Reach ps x y → y ∈ lot) (pm : ns.Perm fo) (so : ns.Pairwise (· ≤ ·)) : ns = lot ↔ ∀ y ∈ lot, Reach ps x y := by
  constructor
  · rintro rfl y hy
    exact (hf y).mp (pm.mem_iff.mp hy)
  · intro h
    refine rise_eq (le_lt so (pm.nodup_iff.mpr nf)) rl fun y => ?_
    rw [pm.mem_iff, hf]
    exact ⟨inn y, h y⟩
theorem reach_iff {ps qs : List (Int × Int)} {lot : List Int} {a b : Int} (ha : a ∈ lot) (sp : ∀ x y, x ∈ lot → ((x, y) ∈ ps ↔ (x, y) ∈ qs)) (inn : ∀ p ∈ qs, p.2 ∈ lot) : Reach ps a b ↔ Reach qs a b := by
  constructor
  · intro h
    induction h with
    | refl => exact .refl
    | tail _ hp ih => exact .tail ih ((sp _ _ (reach_in ih ha inn)).mp hp)
  · intro h
    induction h with
    | refl => exact .refl
    | tail g hp ih => exact .tail ih ((sp _ _ (reach_in g ha inn)).mpr hp)
/-- the law's pairs: from each to what leads to it and lies in the lot -/
def upLaw (as : List (Int × Int)) (lot : List Int) : List (Int × Int) := turnL (as.filter fun p => decide (p.1 ∈ lot))
theorem mem_upLaw {as : List (Int × Int)} {lot : List Int} {x y : Int} : (x, y) ∈ upLaw as lot ↔ (y, x) ∈ as ∧ y ∈ lot := by
  unfold upLaw
  rw [mem_turnL]
  simp
theorem up_law {as : List (Int × Int)} {lot : List Int} {a b : Int} (ha : a ∈ lot) : Reach (upLaw as lot) a b ↔ Reach (upIn as lot) a b :=
  reach_iff ha (fun x y hx => by rw [mem_upLaw, mem_upIn]; exact ⟨fun h => ⟨h.1, h.2, hx⟩, fun h => ⟨h.1, h.2.1⟩⟩) fun ⟨x, y⟩ hp => (mem_upIn.mp hp).2.1
def tieIn (ts : List (Int × Int)) (lot : List Int) : List (Int × Int) := both (withinL ts lot)
theorem mem_tieIn {ts : List (Int × Int)} {lot : List Int} {x y : Int} : (x, y) ∈ tieIn ts lot ↔ ((x, y) ∈ ts ∨ (y, x) ∈ ts) ∧ x ∈ lot ∧ y ∈ lot := by
  unfold tieIn
  rw [mem_both, mem_withinL, mem_withinL]
  constructor
  · rintro (h | h)
    · exact ⟨.inl h.1, h.2⟩
    · exact ⟨.inr h.1, h.2.2, h.2.1⟩
  · rintro ⟨h | h, hx, hy⟩
    · exact .inl ⟨h, hx, hy⟩
    · exact .inr ⟨h, hy, hx⟩
theorem tie_in {ts : List (Int × Int)} {lot : List Int} {a b : Int} (h : Reach (tieIn ts lot) a b) (ha : a ∈ lot) : b ∈ lot := reach_in h ha fun ⟨x, y⟩ hp => (mem_tieIn.mp hp).2.2
def tieLaw (ts : List (Int × Int)) (lot : List Int) : List (Int × Int) := (both ts).filter fun p => decide (p.2 ∈ lot)
theorem mem_tieLaw {ts : List (Int × Int)} {lot : List Int} {x y : Int} : (x, y) ∈ tieLaw ts lot ↔ ((x, y) ∈ ts ∨ (y, x) ∈ ts) ∧ y ∈ lot := by
  unfold tieLaw
  rw [List.mem_filter, mem_both]
  simp
theorem tie_law {ts : List (Int × Int)} {lot : List Int} {a b : Int} (ha : a ∈ lot) : Reach (tieLaw ts lot) a b ↔ Reach (tieIn ts lot) a b :=
  reach_iff ha (fun x y hx => by rw [mem_tieLaw, mem_tieIn]; exact ⟨fun h => ⟨h.1, hx, h.2⟩, fun h => ⟨h.1, h.2.2⟩⟩) fun ⟨x, y⟩ hp => (mem_tieIn.mp hp).2.2
def HangsP (ts : List (Int × Int)) : List Int → Prop
  | [] => True
  | x :: l => ∀ y ∈ x :: l, Reach (tieIn ts (x :: l)) x y
noncomputable def hangB (ts : List (Int × Int)) (lot : List Int) : Bool := @decide (HangsP ts lot) (Classical.propDecidable _)
theorem hangB_iff {ts : List (Int × Int)} {lot : List Int} : hangB ts lot = true ↔ HangsP ts lot := by
  unfold hangB
  exact @decide_eq_true_iff _ (Classical.propDecidable _)
/-- two heads of one lot are one -/
theorem up_rank {as : List (Int × Int)} {lot : List Int} {r : Int → Nat} (hr : ∀ p ∈ as, r p.1 < r p.2) {a b : Int} (h : Reach (upIn as lot) a b) : a = b ∨ r b < r a := by
  induction h with
  | refl => exact .inl rfl
  | tail _ hp ih =>
    have := hr _ (mem_upIn.mp hp).1
    rcases ih with e | e
    · subst e; exact .inr this
    · exact .inr (Nat.lt_trans this e)
theorem head_one {as : List (Int × Int)} {lot : List Int} (ac : Acy as) {x y : Int} (hx : x ∈ lot) (hy : y ∈ lot) (h1 : IsHead as lot x) (h2 : IsHead as lot y) : x = y := by
  obtain ⟨r, hr⟩ := ac
  rcases up_rank hr (h1 y hy) with e | e
  · exact e
  · rcases up_rank hr (h2 x hx) with e2 | e2
    · exact e2.symm
    · omega
theorem filter_one {l : List Int} {f : Int → Bool} (nd : l.Nodup) (h : ∀ x ∈ l, ∀ y ∈ l, f x = true → f y = true → x = y) : (l.filter f).length ≤ 1 := by
  have n := nd.filter f
  cases e : l.filter f with
  | nil => simp
  | cons a t =>
    cases t with
    | nil => simp
    | cons b t =>
      rw [e] at n
      have ha : a ∈ l.filter f := by rw [e]; simp
      have hb : b ∈ l.filter f := by rw [e]; simp
      have := h a (List.mem_filter.mp ha).1 b (List.mem_filter.mp hb).1 (List.mem_filter.mp ha).2 (List.mem_filter.mp hb).2
      exact absurd this (by have := (List.nodup_cons.mp n).1; simp at this; exact this.1)
theorem heads_one {as : List (Int × Int)} {lot : List Int} (ac : Acy as) (nd : lot.Nodup) : (headsL as lot).length ≤ 1 :=
  filter_one nd fun _ hx _ hy h1 h2 => head_one ac hx hy (headB_iff.mp h1) (headB_iff.mp h2)
/-- the first of a list for which f holds -/
def firstOf (f : Int → Bool) (l : List Int) : Option Int := (l.filter f).head?
/-! searches with a place behind which all is done -/
structure LInv (n : Nat) (ps : List (Int × Int)) (st : Int) (fo : List Int) (k : Nat) : Prop where
  nd : fo.Nodup
  th : ∀ x ∈ fo, x ∈ things n
  ss : st ∈ fo
  re : ∀ x ∈ fo, Reach ps st x
  cl : ∀ (i : Nat) (x : Int), i < k → fo[i]? = some x → ∀ p ∈ ps, p.1 = x → p.2 ∈ fo
  kl : k ≤ fo.length
theorem linv_0 {n : Nat} {ps : List (Int × Int)} {st : Int} (h : st ∈ things n) : LInv n ps st [st] 0 :=
  ⟨by simp, (fun x hx => by simp at hx; exact hx ▸ h), by simp, (fun x hx => by simp at hx; rw [hx]; exact .refl), (fun i x hi => by omega), by simp⟩
theorem linv_len {n : Nat} {ps : List (Int × Int)} {st : Int} {fo : List Int} {k : Nat} (h : LInv n ps st fo k) : fo.length ≤ n := by
  have := nodup_le h.nd (m := things n) (fun x hx => h.th x hx)
  rw [things_len] at this
  exact this
theorem linv_more {n : Nat} {ps : List (Int × Int)} {st x : Int} {fo fr : List Int} {k : Nat} (h : LInv n ps st fo k) (hx : fo[k]? = some x) (nd : fr.Nodup) (hr : ∀ p ∈ ps, p.2 ∈ things n) (hf : ∀ y, y ∈ fr ↔ (x, y) ∈ ps ∧ y ∉ fo) : LInv n ps st (fo ++ fr) (k + 1) := by
  have xm : x ∈ fo := List.mem_of_getElem? hx
  have kl : k < fo.length := (List.getElem?_eq_some_iff.mp hx).1
  refine ⟨?_, ?_, List.mem_append_left _ h.ss, ?_, ?_, ?_⟩
  · rw [List.nodup_append]
    exact ⟨h.nd, nd, fun a ha b hb e => ((hf b).mp hb).2 (e ▸ ha)⟩
  · intro y hy
    rcases List.mem_append.mp hy with q | q
    · exact h.th y q
    · exact hr _ ((hf y).mp q).1
  · intro y hy
    rcases List.mem_append.mp hy with q | q
    · exact h.re y q
    · exact .tail (h.re x xm) ((hf y).mp q).1
  · intro i y hi hy p hp e
    rw [List.getElem?_append_left (by omega)] at hy
    by_cases c : i = k
    · subst c
      rw [hx] at hy
      have exy : x = y := Option.some.inj hy
      by_cases d : p.2 ∈ fo
      · exact List.mem_append_left _ d
      · refine List.mem_append_right _ ((hf p.2).mpr ⟨?_, d⟩)
        have : (x, p.2) = p := Prod.ext (by show x = p.1; rw [e, exy]) rfl
        rw [this]; exact hp
    · exact List.mem_append_left _ (h.cl i y (by omega) hy p hp e)
  · rw [List.length_append]; omega
theorem linv_end {n : Nat} {ps : List (Int × Int)} {st : Int} {fo : List Int} {k : Nat} (h : LInv n ps st fo k) (hk : ¬ k < fo.length) (y : Int) : y ∈ fo ↔ Reach ps st y := by
  refine ⟨h.re y, fun r => ?_⟩
  induction r with
  | refl => exact h.ss
  | tail _ hp ih =>
    obtain ⟨i, hi⟩ := List.getElem?_of_mem ih
    have : i < fo.length := (List.getElem?_eq_some_iff.mp hi).1
    exact h.cl i _ (by omega) hi _ hp rfl
/-- the same, one by one: what is put while the ends of x are gone through -/
structure HInv (n : Nat) (ps : List (Int × Int)) (st x : Int) (fo0 fo : List Int) (dn : List (Int × Int)) : Prop where
  pre : fo0 <+: fo
  nd : fo.Nodup
  th : ∀ y ∈ fo, y ∈ things n
  re : ∀ y ∈ fo, Reach ps st y
  cl : ∀ p ∈ dn, p.1 = x → p.2 ∈ fo
theorem hinv_0 {n : Nat} {ps : List (Int × Int)} {st x : Int} {fo : List Int} {k : Nat} (h : LInv n ps st fo k) : HInv n ps st x fo fo [] := ⟨List.prefix_refl _, h.nd, h.th, h.re, fun _ hp => nomatch hp⟩
theorem hinv_put {n : Nat} {ps : List (Int × Int)} {st x y : Int} {fo0 fo : List Int} {dn : List (Int × Int)} (h : HInv n ps st x fo0 fo dn) (hx : Reach ps st x) (hp : (x, y) ∈ ps) (hy : y ∈ things n) (nf : y ∉ fo) : HInv n ps st x fo0 (fo ++ [y]) (dn ++ [(x, y)]) := by
  refine ⟨h.pre.trans (List.prefix_append _ _), ?_, ?_, ?_, ?_⟩
  · rw [List.nodup_append]
    exact ⟨h.nd, by simp, fun a ha b hb e => nf (by rw [← List.mem_singleton.mp hb, ← e]; exact ha)⟩
  · intro z hz
    rcases List.mem_append.mp hz with q | q
    · exact h.th z q
    · rw [List.mem_singleton.mp q]; exact hy
  · intro z hz
    rcases List.mem_append.mp hz with q | q
    · exact h.re z q
    · rw [List.mem_singleton.mp q]; exact .tail hx hp
  · intro p hp' e
    rcases List.mem_append.mp hp' with q | q
    · exact List.mem_append_left _ (h.cl p q e)
    · rw [List.mem_singleton.mp q]; simp
theorem hinv_no {n : Nat} {ps : List (Int × Int)} {st x : Int} {fo0 fo : List Int} {dn : List (Int × Int)} (h : HInv n ps st x fo0 fo dn) {p : Int × Int} (c : p.1 = x → p.2 ∈ fo) : HInv n ps st x fo0 fo (dn ++ [p]) :=
  ⟨h.pre, h.nd, h.th, h.re, fun q hq e => by
    rcases List.mem_append.mp hq with z | z
    · exact h.cl q z e
    · rw [List.mem_singleton.mp z] at e ⊢; exact c e⟩
theorem pre_at {fo0 fo : List Int} (h : fo0 <+: fo) {i : Nat} {x : Int} (e : fo0[i]? = some x) : fo[i]? = some x := by
  obtain ⟨t, rfl⟩ := h
  rw [List.getElem?_append_left (List.getElem?_eq_some_iff.mp e).1]
  exact e
theorem hinv_end {n : Nat} {ps : List (Int × Int)} {st x : Int} {fo0 fo : List Int} {dn : List (Int × Int)} {k : Nat} (h0 : LInv n ps st fo0 k) (hx : fo0[k]? = some x) (h : HInv n ps st x fo0 fo dn) (full : ∀ p ∈ ps, p.1 = x → p ∈ dn) : LInv n ps st fo (k + 1) := by
  have kl : k < fo0.length := (List.getElem?_eq_some_iff.mp hx).1
  refine ⟨h.nd, h.th, h.pre.subset h0.ss, h.re, ?_, Nat.le_trans kl h.pre.length_le⟩
  intro i y hi hy p hp e
  by_cases c : i = k
  · subst c
    rw [pre_at h.pre hx] at hy
    have exy : x = y := Option.some.inj hy
    exact h.cl p (full p hp (by rw [e, exy])) (by rw [e, exy])
  · have hi0 : i < fo0.length := by omega
    have e0 : fo0[i]? = some fo0[i] := List.getElem?_eq_getElem hi0
    rw [pre_at h.pre e0] at hy
    exact h.pre.subset (h0.cl i y (by omega) (by rw [e0]; exact hy) p hp e)
/-! all lots -/
def Lot (n : Nat) (l : List Int) : Prop := l.Pairwise (· < ·) ∧ ∀ x ∈ l, x ∈ things n
def allLots : Nat → List (List Int)
  | 0 => [[]]
  | k + 1 => allLots k ++ (allLots k).map (· ++ [Int.ofNat k])
theorem allLots_len : ∀ n, (allLots n).length = 2 ^ n
  | 0 => rfl
  | k + 1 => by
    unfold allLots
    rw [List.length_append, List.length_map, allLots_len k, Nat.pow_succ]
    omega
theorem lot_up {k : Nat} {l : List Int} (h : Lot k l) : Lot (k + 1) l := ⟨h.1, fun x hx => by
  have := mem_things.mp (h.2 x hx)
  exact mem_things.mpr ⟨this.1, by omega⟩⟩
theorem lot_put {k : Nat} {l : List Int} (h : Lot k l) : Lot (k + 1) (l ++ [Int.ofNat k]) := by
  refine ⟨List.pairwise_append.mpr ⟨h.1, by simp, fun a ha b hb => ?_⟩, fun x hx => ?_⟩
  · rw [List.mem_singleton.mp hb]
    exact (mem_things.mp (h.2 a ha)).2
  · rcases List.mem_append.mp hx with q | q
    · exact (lot_up h).2 x q
    · rw [List.mem_singleton.mp q]
      exact mem_things.mpr ⟨Int.ofNat_nonneg k, by show (k : Int) < ((k + 1 : Nat) : Int); omega⟩
theorem allLots_lot : ∀ {n : Nat} {l : List Int}, l ∈ allLots n → Lot n l
  | 0, l, h => by
    unfold allLots at h
    rw [List.mem_singleton.mp h]
    exact ⟨.nil, fun _ hx => nomatch hx⟩
  | k + 1, l, h => by
    unfold allLots at h
    rcases List.mem_append.mp h with q | q
    · exact lot_up (allLots_lot q)
    · obtain ⟨m, hm, rfl⟩ := List.mem_map.mp q
      exact lot_put (allLots_lot hm)
theorem lot_allLots : ∀ {n : Nat} {l : List Int}, Lot n l → l ∈ allLots n
  | 0, l, h => by
    cases l with
    | nil => exact List.mem_singleton.mpr rfl
    | cons x l =>
      have := mem_things.mp (h.2 x (List.mem_cons_self ..))
      omega
  | k + 1, l, h => by
    unfold allLots
    rcases List.eq_nil_or_concat l with rfl | ⟨m, x, rfl⟩
    · exact List.mem_append_left _ (lot_allLots ⟨.nil, fun _ hx => nomatch hx⟩)
    · rw [List.concat_eq_append] at h ⊢
      obtain ⟨a, b, c⟩ := List.pairwise_append.mp h.1
      have hx := mem_things.mp (h.2 x (by simp))
      have hm : ∀ y ∈ m, y ∈ things k := fun y hy => by
        have h1 := mem_things.mp (h.2 y (List.mem_append_left _ hy))
        have h2 := c y hy x (by simp)
        exact mem_things.mpr ⟨h1.1, by omega⟩
      by_cases e : x = Int.ofNat k
      · refine List.mem_append_right _ (List.mem_map.mpr ⟨m, lot_allLots ⟨a, hm⟩, by rw [e]⟩)
      · refine List.mem_append_left _ (lot_allLots ⟨h.1, fun y hy => ?_⟩)
        rcases List.mem_append.mp hy with q | q
        · exact hm y q
        · rw [List.mem_singleton.mp q]
          have e' : ¬ x = (k : Int) := e
          exact mem_things.mpr ⟨hx.1, by omega⟩
theorem mem_allLots {n : Nat} {l : List Int} : l ∈ allLots n ↔ Lot n l := ⟨allLots_lot, lot_allLots⟩
theorem lot_len {n : Nat} {l : List Int} (h : Lot n l) : l.length ≤ n := by
  have := nodup_le (lt_nd h.1) (m := things n) h.2
  rw [things_len] at this
  exact this
end Tk

namespace Tk
open PySem PySem.Spec PyProof.Rows L2
theorem units65 {k : Nat} {A : Around} (r : Room k A) : A.units + 65 < cLine := by have := r.un; omega
/-! lists of lists -/
def LsAt (G : Hp) : List V → List (List Int) → Prop
  | [], [] => True
  | x :: xs, o :: os => (∃ r : Addr, x = .ref r ∧ G r = some (.lst (o.map V.int))) ∧ LsAt G xs os
  | _, _ => False
theorem ls_s {G G' : Hp} (e : Same G G') : ∀ {xs : List V} {os : List (List Int)}, LsAt G xs os → LsAt G' xs os
  | [], [], _ => trivial
  | x :: xs, o :: os, ⟨⟨r, h1, h2⟩, h3⟩ => ⟨⟨r, h1, e _ _ h2⟩, ls_s e h3⟩
  | [], _ :: _, h => h.elim
  | _ :: _, [], h => h.elim
theorem ls_app {G : Hp} : ∀ {xs ys : List V} {os ps : List (List Int)}, LsAt G xs os → LsAt G ys ps → LsAt G (xs ++ ys) (os ++ ps)
  | [], _, [], _, _, h => h
  | x :: xs, _, o :: os, _, ⟨h1, h2⟩, h => ⟨h1, ls_app h2 h⟩
  | [], _, _ :: _, _, h, _ => h.elim
  | _ :: _, _, [], _, h, _ => h.elim
theorem ls_len {G : Hp} : ∀ {xs : List V} {os : List (List Int)}, LsAt G xs os → xs.length = os.length
  | [], [], _ => rfl
  | x :: xs, o :: os, ⟨_, h2⟩ => by simp [ls_len h2]
  | [], _ :: _, h => h.elim
  | _ :: _, [], h => h.elim
theorem ls_at {G : Hp} : ∀ {xs : List V} {os : List (List Int)}, LsAt G xs os → ∀ {i : Nat} {x : V}, xs[i]? = some x → ∃ (o : List Int) (r : Addr), os[i]? = some o ∧ x = .ref r ∧ G r = some (.lst (o.map V.int))
  | [], [], _, _, _, h => by simp at h
  | x :: xs, o :: os, ⟨⟨r, h1, h2⟩, h3⟩, i, y, h => by
    cases i with
    | zero => simp at h; subst h; exact ⟨o, r, by simp, h1, h2⟩
    | succ i => simp at h; simpa using ls_at h3 h
  | [], _ :: _, h, _, _, _ => h.elim
  | _ :: _, [], h, _, _, _ => h.elim
theorem ls_mut {G : Hp} {D : Addr} {u : HO} : ∀ {xs : List V} {os : List (List Int)}, LsAt G xs os → (∀ x ∈ xs, x ≠ .ref D) → LsAt (upd G D u) xs os
  | [], [], _, _ => trivial
  | x :: xs, o :: os, ⟨⟨r, h1, h2⟩, h3⟩, n => ⟨⟨r, h1, by
      have : r ≠ D := fun e => n x (List.mem_cons_self ..) (by rw [h1, e])
      rw [upd_ne this]; exact h2⟩, ls_mut h3 fun y hy => n y (List.mem_cons_of_mem _ hy)⟩
  | [], _ :: _, h, _ => h.elim
  | _ :: _, [], h, _ => h.elim
theorem ls_dp {K : PySem.W.Frag} {G : Hp} : ∀ {xs : List V} {os : List (List Int)}, LsAt G xs os → DpAll K G xs (os.map fun o => PyData.list (o.map .int))
  | [], [], _ => .nil
  | x :: xs, o :: os, ⟨⟨r, h1, h2⟩, h3⟩ => by
    rw [h1]
    exact .cons (.lst (sl_of h2) (dps_ints o)) (ls_dp h3)
  | [], _ :: _, h => h.elim
  | _ :: _, [], h => h.elim
/-- the lists stand at places that are new -/
def FreshL (H : Hp) (xs : List V) : Prop := xs.Nodup ∧ ∀ x ∈ xs, ∃ r : Addr, x = .ref r ∧ H r = none
theorem things_succ (k : Nat) : things (k + 1) = things k ++ [Int.ofNat k] := by
  unfold things
  rw [List.range_succ, List.map_append]; rfl
theorem any_pairs {x y : Int} : ∀ {ps : List (Int × Int)}, ((ps.map dP).any fun z => PyData.eqv z (dP (x, y))) = decide ((x, y) ∈ ps)
  | [] => by simp
  | p :: ps => by
    have ih := any_pairs (x := x) (y := y) (ps := ps)
    rw [List.map_cons, List.any_cons, ih]
    have e : PyData.eqv (dP p) (dP (x, y)) = decide ((x, y) = p) := by
      obtain ⟨u, v⟩ := p
      simp [dP, PyData.eqv, PyData.eqvAll]
      by_cases c1 : u = x
      · subst c1
        by_cases c2 : v = y
        · subst c2; simp
        · have : ¬ y = v := fun e => c2 e.symm
          simp [c2, this]
      · have : ¬ x = u := fun e => c1 e.symm
        simp [c1, this]
    rw [e]
    simp [List.mem_cons]
theorem shaped_pair (p : Int × Int) : SeqAt.shaped (dP p) = true := by
  simp [SeqAt.shaped, dP, PyData.canLay0, PyData.canLayAll0, PyData.depth, PyData.depthAll]
theorem plain_pairs : ∀ ps : List (Int × Int), PyData.canLayAll0 (ps.map dP) = true
  | [] => rfl
  | p :: ps => by
    show (PyData.canLay0 (dP p) && PyData.canLayAll0 (ps.map dP)) = true
    rw [plain_pairs ps]; rfl
theorem depth_pairs : ∀ ps : List (Int × Int), PyData.depthAll (ps.map dP) ≤ 3
  | [] => by simp [PyData.depthAll]
  | p :: ps => by
    have h := depth_pairs ps
    have h2 : PyData.depth (dP p) ≤ 3 := by simp [dP, PyData.depth, PyData.depthAll]
    simp only [List.map_cons, PyData.depthAll]
    omega
theorem shaped_pairs (ps : List (Int × Int)) : SeqAt.shaped (.list (ps.map dP)) = true := by
  unfold SeqAt.shaped
  rw [Bool.and_eq_true_iff]
  refine ⟨by rw [PyData.canLay0]; exact plain_pairs ps, decide_eq_true ?_⟩
  have := depth_pairs ps
  rw [PyData.depth]
  omega
theorem prs_mk {n : Nat} {ps : List (Int × Int)} (n6 : n ≤ 6) (nd : ps.Nodup) (h : ∀ p ∈ ps, 0 ≤ p.1 ∧ p.1 < n ∧ 0 ≤ p.2 ∧ p.2 < n ∧ p.1 ≠ p.2) : Prs n ps := by
  refine ⟨nd, ?_, h⟩
  have h1 := nodup_le nd (m := (things n).flatMap fun x => (things n).map fun y => (x, y)) (fun p hp => by
    obtain ⟨a, b, c, d, _⟩ := h p hp
    exact List.mem_flatMap.mpr ⟨p.1, mem_things.mpr ⟨a, b⟩, List.mem_map.mpr ⟨p.2, mem_things.mpr ⟨c, d⟩, rfl⟩⟩)
  have h2 : ∀ l : List Int, (l.flatMap fun x => (things n).map fun y => (x, y)).length = l.length * n := by
    intro l
    induction l with
    | nil => simp
    | cons x l ih =>
      rw [List.flatMap_cons, List.length_append, ih, List.length_map, things_len, List.length_cons, Nat.succ_mul]
      omega
  rw [h2, things_len] at h1
  have h3 : n * n ≤ 6 * 6 := Nat.mul_le_mul n6 n6
  omega
theorem prs_both {n : Nat} {ts : List (Int × Int)} (n6 : n ≤ 6) (h : Prs n ts) (lt : ∀ p ∈ ts, p.1 < p.2) : Prs n (both ts) := by
  refine prs_mk n6 ?_ ?_
  · unfold both
    rw [List.nodup_append]
    refine ⟨h.1, ?_, ?_⟩
    · unfold turnL
      show List.Pairwise _ _
      rw [List.pairwise_map]
      refine List.Pairwise.imp (fun {a b} hne e => hne ?_) h.1
      have e' := congrArg swp e
      exact e'
    · intro a ha b hb e
      obtain ⟨c, hc, rfl⟩ := List.mem_map.mp hb
      subst e
      have h1 := lt _ ha
      have h2 := lt _ hc
      simp [swp] at h1
      omega
  · intro p hp
    rcases mem_both.mp hp with c | c
    · exact h.2.2 p c
    · obtain ⟨a1, a2, a3, a4, a5⟩ := h.2.2 _ c
      exact ⟨a3, a4, a1, a2, fun e => a5 e.symm⟩
def spTies (K : PySem.W.Frag) (C : Addr) : Sp := fun vs H Q _ => ∃ (p : Addr) (n : Nat) (as ts : List (Int × Int)), vs = [.ref p] ∧ PlanAt K C H p n as ts ∧ ∀ H' l, Same H H' → H l = none → PM K H' l ts → Q (.ref l) H'
/-- what the class gives, further -/
structure PlM (K : PySem.W.Frag) (mg : Str → Option Value) (C pW gW fA fT : Addr) (fdW fdA fdT : FuncData) : Prop where
  c : PlC K mg C
  ins : C8.InsC K C
  prop : PropOf K C "width" pW gW
  FW : Fun K "width" "Plan.width" sWidth gW fdW
  bW : Binds K fdW ["self"] []
  mA : Meth K C "arrows" fA
  FA : Fun K "arrows" "Plan.arrows" sArrows fA fdA
  bA : Binds K fdA ["self"] []
  mT : Meth K C "ties" fT
  FT : Fun K "ties" "Plan.ties" sTies fT fdT
  bT : Binds K fdT ["self"] []
section
variable {P : Program} {w : World} {K : PySem.W.Frag} {mg : Str → Option Value} {base : Heap}
theorem sc_width : FnScope ["self"] ["self"] (defScope sWidth) := ⟨rfl, rfl, rfl, by decide +kernel, rfl, by decide +kernel, by decide +kernel⟩
theorem ok_width {f C : Addr} {fd : FuncData} (F : Fun K "width" "Plan.width" sWidth f fd) (T : PlC K mg C) : FnOk P w K mg base CX0 1 f fd ["self"] (getSp C "_size") := by
  refine F.ok sc_width (fun vs H Q E h => ?_) (fun cdv A outer s H vs Q E hr h => ?_)
  · obtain ⟨a, dx, fs, v, rfl, _⟩ := h
    rfl
  · obtain ⟨a, dx, fs, v, rfl, ha, hl, q⟩ := h
    refine ⟨_, pss_one (ps_ret (pe_fld (pv 0) rfl)), ?_⟩
    exact ⟨_, rfl, a, C, dx, fs, v, rfl, ha, T.cl, T.nS, hl, q⟩
theorem sc_arrows : FnScope ["self"] ["self"] (defScope sArrows) := ⟨rfl, rfl, rfl, by decide +kernel, rfl, by decide +kernel, by decide +kernel⟩
theorem ok_arrows {f C : Addr} {fd : FuncData} (F : Fun K "arrows" "Plan.arrows" sArrows f fd) (T : PlC K mg C) (B : Bl mg) : FnOk P w K mg base CX0 1 f fd ["self"] (spArr K C) := by
  refine F.ok sc_arrows (fun vs H Q E h => ?_) (fun cdv A outer s H vs Q E hr h => ?_)
  · obtain ⟨p, n, as, ts, rfl, _⟩ := h
    rfl
  · obtain ⟨p, n, as, ts, rfl, ⟨⟨dx, a, t, hp, ⟨xs, h1, h2⟩, ht⟩, _⟩, q⟩ := h
    refine ⟨_, pss_one (ps_ret (pe_callTy call_list_of (by rfl) B.list PyProof.Rows.boot_list (pa_cons (pe_fld (pv 0) rfl) pa_nil))), ?_⟩
    refine ⟨_, rfl, p, C, dx, _, _, rfl, hp, T.cl, T.nA, pf_arr _ _ _, a, xs, rfl, .inl h1, fun l hl => ?_⟩
    exact q _ l (same_new hl) hl ⟨xs, upd_same, dps_s h2 (same_new hl)⟩
theorem sc_ties : FnScope ["self"] ["self"] (defScope sTies) := ⟨rfl, rfl, rfl, by decide +kernel, rfl, by decide +kernel, by decide +kernel⟩
theorem ok_ties {f C : Addr} {fd : FuncData} (F : Fun K "ties" "Plan.ties" sTies f fd) (T : PlC K mg C) (B : Bl mg) : FnOk P w K mg base CX0 1 f fd ["self"] (spTies K C) := by
  refine F.ok sc_ties (fun vs H Q E h => ?_) (fun cdv A outer s H vs Q E hr h => ?_)
  · obtain ⟨p, n, as, ts, rfl, _⟩ := h
    rfl
  · obtain ⟨p, n, as, ts, rfl, ⟨⟨dx, a, t, hp, ha, ⟨xs, h1, h2⟩⟩, _⟩, q⟩ := h
    refine ⟨_, pss_one (ps_ret (pe_callTy call_list_of (by rfl) B.list PyProof.Rows.boot_list (pa_cons (pe_fld (pv 0) rfl) pa_nil))), ?_⟩
    refine ⟨_, rfl, p, C, dx, _, _, rfl, hp, T.cl, T.nT, pf_ties _ _ _, t, xs, rfl, .inl h1, fun l hl => ?_⟩
    exact q _ l (same_new hl) hl ⟨xs, upd_same, dps_s h2 (same_new hl)⟩
theorem sc_chkPlan : FnScope ["plan"] ["plan"] (defScope sChkPlan) := ⟨rfl, rfl, rfl, by decide +kernel, rfl, by decide +kernel, by decide +kernel⟩
theorem ok_chkPlan {f C : Addr} {fd : FuncData} (F : Fun K "check_plan" "check_plan" sChkPlan f fd) (T : PlC K mg C) (I : C8.InsC K C) (B : Bl mg) : FnOk P w K mg base CX0 1 f fd ["plan"] (spChkPlan C) := by
  refine F.ok sc_chkPlan (fun vs H Q E h => ?_) (fun cdv A outer s H vs Q E hr h => ?_)
  · obtain ⟨p, dx, fs, rfl, _⟩ := h
    rfl
  · obtain ⟨p, dx, fs, rfl, hp, q⟩ := h
    refine ⟨_, pss_one (ps_if (pt_not (pt_val (pe_callB (C8.call_isC I) (by rfl) B.isi PyProof.Rows.boot_isinstance (pa_cons (pv 0) (pa_cons (pe_glob (v := .ref C) rfl T.mgC rfl) pa_nil))))) pss_never pss_nil), ?_⟩
    exact ⟨_, rfl, p, dx, fs, rfl, hp, true, rfl, iteF q⟩
end
end Tk

namespace Tk
open PySem PySem.Spec PyProof.Rows L2
theorem prs_sub {n : Int} {ps qs : List (Int × Int)} (h : Prs n ps) (s : qs.Sublist ps) : Prs n qs := ⟨h.1.sublist s, Nat.lt_of_le_of_lt s.length_le h.2.1, fun p hp => h.2.2 p (s.subset hp)⟩
theorem prs_turn {n : Int} {ps : List (Int × Int)} (h : Prs n ps) : Prs n (turnL ps) := by
  refine ⟨?_, by unfold turnL; rw [List.length_map]; exact h.2.1, fun p hp => ?_⟩
  · unfold turnL
    show List.Pairwise _ _
    rw [List.pairwise_map]
    refine List.Pairwise.imp (fun {a b} hne e => hne ?_) h.1
    have e' := congrArg swp e
    exact e'
  · obtain ⟨q, hq, rfl⟩ := List.mem_map.mp hp
    obtain ⟨a1, a2, a3, a4, a5⟩ := h.2.2 q hq
    exact ⟨a3, a4, a1, a2, fun e => a5 e.symm⟩
/-- ints read off values, where all are ints -/
def EachV (K : PySem.W.Frag) (H : Hp) : List V → List (Option Int) → Prop
  | [], [] => True
  | x :: xs, o :: os => IntV K H x o ∧ EachV K H xs os
  | _, _ => False
theorem each_len {K : PySem.W.Frag} {H : Hp} : ∀ {xs : List V} {os : List (Option Int)}, EachV K H xs os → xs.length = os.length
  | [], [], _ => rfl
  | x :: xs, o :: os, ⟨_, h⟩ => by simp [each_len h]
  | [], _ :: _, h => h.elim
  | _ :: _, [], h => h.elim
theorem each_at {K : PySem.W.Frag} {H : Hp} : ∀ {xs : List V} {os : List (Option Int)}, EachV K H xs os → ∀ {i : Nat} {x : V}, xs[i]? = some x → ∃ o, os[i]? = some o ∧ IntV K H x o
  | [], [], _, _, _, h => by simp at h
  | x :: xs, o :: os, ⟨h1, h2⟩, i, y, h => by
    cases i with
    | zero => simp at h; subst h; exact ⟨o, by simp, h1⟩
    | succ i => simp at h; simpa using each_at h2 h
  | [], _ :: _, h, _, _, _ => h.elim
  | _ :: _, [], h, _, _, _ => h.elim
theorem each_s {K : PySem.W.Frag} {H H' : Hp} (e : Same H H') : ∀ {xs : List V} {os : List (Option Int)}, EachV K H xs os → EachV K H' xs os
  | [], [], _ => trivial
  | x :: xs, o :: os, ⟨h1, h2⟩ => ⟨intv_s h1 e, each_s e h2⟩
  | [], _ :: _, h => h.elim
  | _ :: _, [], h => h.elim
theorem each_ints {K : PySem.W.Frag} {H : Hp} : ∀ (l : List Int), EachV K H (l.map V.int) (l.map some)
  | [] => trivial
  | x :: l => ⟨.int x, each_ints l⟩
theorem each_some {K : PySem.W.Frag} {H : Hp} : ∀ {xs : List V} {os : List (Option Int)}, EachV K H xs os → (∀ o ∈ os, o.isSome = true) → ∃ l : List Int, xs = l.map V.int ∧ os = l.map some
  | [], [], _, _ => ⟨[], rfl, rfl⟩
  | x :: xs, o :: os, ⟨h1, h2⟩, h => by
    obtain ⟨l, rfl, rfl⟩ := each_some h2 fun z hz => h z (List.mem_cons_of_mem _ hz)
    have ho := h o (List.mem_cons_self ..)
    cases h1 with
    | int i => exact ⟨i :: l, rfl, rfl⟩
    | bl b => cases ho
    | oth h k => cases ho
  | [], _ :: _, h, _ => h.elim
  | _ :: _, [], h, _ => h.elim
theorem some_inj : ∀ {l m : List Int}, l.map some = m.map some → l = m
  | [], [], _ => rfl
  | [], _ :: _, h => nomatch h
  | _ :: _, [], h => nomatch h
  | a :: l, b :: m, h => by
    have h1 := List.cons.inj h
    rw [Option.some.inj h1.1, some_inj h1.2]
/-- what is asked of a value that may be a lot: what it is, and a bound on its length -/
inductive LotV (K : PySem.W.Frag) (H : Hp) : V → Option (List (Option Int)) → Prop
  | sq {a : Addr} {xs : List V} {os : List (Option Int)} (h : SqA K H a xs) (e : EachV K H xs os) (few : xs.length < 60) : LotV K H (.ref a) (some os)
  | no {v : V} (h : SqV K H v none) : LotV K H v none
theorem lotv_s {K : PySem.W.Frag} {H H' : Hp} {v : V} {o : Option (List (Option Int))} (h : LotV K H v o) (e : Same H H') : LotV K H' v o := by
  cases h with
  | sq h g few => exact .sq (same_a e h) (each_s e g) few
  | no h => exact .no (sqv_s h e)
theorem lotv_lot {K : PySem.W.Frag} {H : Hp} {a : Addr} {l : List Int} (h : SqA K H a (l.map V.int)) (few : l.length < 60) : LotV K H (.ref a) (some (l.map some)) := .sq h (each_ints l) (by rw [List.length_map]; exact few)
/-- unlike things -/
def ThingsO (n : Nat) (o : Option (List (Option Int))) (l : List Int) : Prop := o = some (l.map some) ∧ l.Nodup ∧ ∀ x ∈ l, x ∈ things n
def spAreThings (K : PySem.W.Frag) : Sp := fun vs H Q _ => ∃ (n : Nat) (v : V) (o : Option (List (Option Int))), vs = [.int n, v] ∧ LotV K H v o ∧ ∀ (H' : Hp) (b : Bool), Same H H' → (b = true ↔ ∃ l, ThingsO n o l) → Q (.bl b) H'
/-- a lot -/
def LotO (n : Nat) (o : Option (List (Option Int))) (l : List Int) : Prop := o = some (l.map some) ∧ Lot n l
def spIsRising (K : PySem.W.Frag) : Sp := fun vs H Q _ => ∃ (n : Nat) (v : V) (o : Option (List (Option Int))), vs = [.int n, v] ∧ n ≤ 6 ∧ LotV K H v o ∧ ∀ (H' : Hp) (b : Bool), Same H H' → (b = true ↔ ∃ l, LotO n o l) → Q (.bl b) H'
def spIsLotOf (K : PySem.W.Frag) (C : Addr) : Sp := fun vs H Q _ => ∃ (p : Addr) (n : Nat) (as ts : List (Int × Int)) (v : V) (o : Option (List (Option Int))), vs = [.ref p, v] ∧ PlanAt K C H p n as ts ∧ LotV K H v o ∧
  ∀ (H' : Hp) (b : Bool), Same H H' → (b = true ↔ ∃ l, LotO n o l) → Q (.bl b) H'
def spChkLot (K : PySem.W.Frag) (C : Addr) : Sp := fun vs H Q _ => ∃ (p a : Addr) (n : Nat) (as ts : List (Int × Int)) (l : List Int), vs = [.ref p, .ref a] ∧ PlanAt K C H p n as ts ∧ SqA K H a (l.map V.int) ∧ Lot n l ∧ ∀ H', Same H H' → Q .non H'
def spTurned (K : PySem.W.Frag) : Sp := fun vs H Q _ => ∃ (a : Addr) (ps : List (Int × Int)), vs = [.ref a] ∧ PL K H a ps ∧ ps.length < 60 ∧ ∀ H' p, Same H H' → H p = none → PM K H' p (turnL ps) → Q (.ref p) H'
def spBoth (K : PySem.W.Frag) : Sp := fun vs H Q _ => ∃ (a : Addr) (ps : List (Int × Int)), vs = [.ref a] ∧ PM K H a ps ∧ ps.length < 60 ∧ ∀ H' p, Same H H' → H p = none → PM K H' p (both ps) → Q (.ref p) H'
def spWithin (K : PySem.W.Frag) : Sp := fun vs H Q _ => ∃ (a b : Addr) (ps : List (Int × Int)) (l : List Int), vs = [.ref a, .ref b] ∧ PL K H a ps ∧ ps.length < 60 ∧ SqA K H b (l.map V.int) ∧ ∀ H' p, Same H H' → H p = none → PM K H' p (withinL ps l) → Q (.ref p) H'
theorem inA_bl {K : PySem.W.Frag} {H : Hp} {b : Addr} {l : List Int} (h : SqA K H b (l.map V.int)) : SqL K H b (l.map V.int) ∨ SqT K H b (l.map V.int) := h
section
variable {P : Program} {w : World} {K : PySem.W.Frag} {mg : Str → Option Value} {base : Heap}
theorem sc_turned : FnScope ["pairs", "start", "end"] ["pairs"] (defScope sTurned) := ⟨rfl, rfl, rfl, by decide +kernel, rfl, by decide +kernel, by decide +kernel⟩
theorem ok_turned {f : Addr} {fd : FuncData} (F : Fun K "turned" "turned" sTurned f fd) : FnOk P w K mg base CX0 1 f fd ["pairs"] (spTurned K) := by
  refine F.ok sc_turned (fun vs H Q E h => ?_) (fun cdv A outer s H vs Q E hr h => ?_)
  · obtain ⟨a, ps, rfl, _⟩ := h
    rfl
  · obtain ⟨a, ps, rfl, ⟨xs, hxs, hd⟩, few, q⟩ := h
    refine ⟨_, pss_one (ps_ret (pe_lc (own := [("start", 1), ("end", 2)]) (g := gTup K 2 (gCons (gName 1) (gCons (gName 2) gNil))) (tt := tYes) rfl sc_turned.nd (pi_list (pv 0)) (blkOk_by (N := ["pairs", "start", "end"]) (sc := defScope sTurned) (by decide +kernel))
            (fun _ _ _ _ _ => pg_tup rfl (pgs_cons (pg_name (i := 1) sc_turned.nd rfl (Or.inl rfl)) (pgs_cons (pg_name (i := 2) sc_turned.nd rfl (Or.inl rfl)) pgs_nil))) (fun _ _ _ _ _ => pts_nil)
            (fun _ _ _ _ _ => pe_tup (pa_cons (pv 2) (pa_cons (pv 1) pa_nil))))), ?_⟩
    have lx : xs.length = ps.length := by rw [dps_len hd, List.length_map]
    refine ⟨_, rfl, a, rfl, ⟨xs, hxs⟩, fun D hD => ?_⟩
    refine lc_list (xs := xs) (fun k G => Same H G ∧ ∃ acc, G D = some (.lst acc) ∧ TA G acc (turnL ps) k) ⟨same_new hD, [], upd_same, ta_0 _ _⟩ (fun k G _ z => same_l z.1 hxs) ?_ ?_
    · rintro k x G hx ⟨sG, acc, hacc, ta⟩
      obtain ⟨⟨i, j⟩, t, hpk, rfl, ht⟩ := pl_at (dps_s hd sG) hx
      have hk := lt_of_at hpk
      refine ⟨t, _, rfl, ht, rfl, _, _, rfl, _, _, rfl, rfl, rfl, _, rfl, _, rfl, szle (by show 2 ≤ 100000; decide), fun v hv => ?_⟩
      have nvD : D ≠ v := fun e => by rw [← e, hacc] at hv; cases hv
      refine ⟨acc, by rw [upd_ne nvD]; exact hacc, szlt (by have := ta.1; omega), same_mut (sG.trans (same_new hv)) hD, acc ++ [.ref v], upd_same, ?_⟩
      exact ta_put (z := (j, i)) ta hacc hv (by unfold turnL; rw [List.getElem?_map, hpk]; rfl)
    · rintro G ⟨sG, acc, hacc, ta⟩
      have e : xs.length = (turnL ps).length := by unfold turnL; rw [List.length_map]; exact lx
      rw [e] at ta
      exact q G D sG hD ⟨acc, hacc, ta_dps ta⟩
theorem sc_both : FnScope ["ties"] ["ties"] (defScope sBothWays) := ⟨rfl, rfl, rfl, by decide +kernel, rfl, by decide +kernel, by decide +kernel⟩
theorem ok_both {f f1 : Addr} {fd fd1 : FuncData} (F : Fun K "both_ways" "both_ways" sBothWays f fd) (D1 : Df K mg "turned" sTurned ["pairs"] f1 fd1) : FnOk P w K mg base CX0 2 f fd ["ties"] (spBoth K) := by
  have G1 : FnOk P w K mg base CX0 1 f1 fd1 ["pairs"] (spTurned K) := ok_turned D1.F
  refine F.ok sc_both (fun vs H Q E h => ?_) (fun cdv A outer s H vs Q E hr h => ?_)
  · obtain ⟨a, ps, rfl, _⟩ := h
    rfl
  · obtain ⟨a, ps, rfl, hp, few, q⟩ := h
    refine ⟨_, pss_one (ps_ret (pe_op op_cat (pv 0) (pe_call G1 hr rfl D1.g D1.F.kp D1.b .nil pass0 (pa_cons (pv 0) pa_nil)))), ?_⟩
    refine ⟨_, rfl, _, rfl, a, ps, rfl, pm_pl hp, few, fun H1 p s1 hp0 ⟨ys, hys, dy⟩ => ?_⟩
    obtain ⟨xs, hxs, dx⟩ := pm_s hp s1
    have lx : xs.length = ps.length := by rw [dps_len dx, List.length_map]
    have ly : ys.length = ps.length := by rw [dps_len dy, List.length_map]; unfold turnL; rw [List.length_map]
    refine ⟨a, p, xs, ys, rfl, rfl, hxs, hys, szle (by omega), fun r hr' => ?_⟩
    refine q _ r (s1.trans (same_new hr')) (s1.free hr') ⟨_, upd_same, ?_⟩
    unfold both
    rw [List.map_append]
    exact dps_app (dps_s dx (same_new hr')) (dps_s dy (same_new hr'))
theorem sc_within : FnScope ["pairs", "things", "start", "end"] ["pairs", "things"] (defScope sWithin) := ⟨rfl, rfl, rfl, by decide +kernel, rfl, by decide +kernel, by decide +kernel⟩
theorem within_take {ps : List (Int × Int)} {l : List Int} {i : Nat} {p : Int × Int} (h : ps[i]? = some p) : withinL (ps.take (i + 1)) l = if p.1 ∈ l ∧ p.2 ∈ l then withinL (ps.take i) l ++ [p] else withinL (ps.take i) l := by
  unfold withinL
  rw [take_at h, List.filter_append]
  by_cases c : p.1 ∈ l ∧ p.2 ∈ l
  · rw [if_pos c]; simp [c.1, c.2]
  · rw [if_neg c]
    by_cases c1 : p.1 ∈ l
    · have c2 : ¬ p.2 ∈ l := fun z => c ⟨c1, z⟩
      simp [c2]
    · simp [c1]
theorem ok_within {f : Addr} {fd : FuncData} (F : Fun K "within" "within" sWithin f fd) : FnOk P w K mg base CX0 1 f fd ["pairs", "things"] (spWithin K) := by
  refine F.ok sc_within (fun vs H Q E h => ?_) (fun cdv A outer s H vs Q E hr h => ?_)
  · obtain ⟨a, b, ps, l, rfl, _⟩ := h
    rfl
  · obtain ⟨a, b, ps, l, rfl, ⟨xs, hxs, hd⟩, few, hl, q⟩ := h
    refine ⟨_, pss_one (ps_ret (pe_lc (own := [("start", 2), ("end", 3)]) (g := gTup K 2 (gCons (gName 2) (gCons (gName 3) gNil))) (tt := tAnd (tTest (tOp (rIn K false) (tVar 2) (tVar 1))) (tTest (tOp (rIn K false) (tVar 3) (tVar 1)))) rfl sc_within.nd (pi_list (pv 0)) (blkOk_by (N := ["pairs", "things", "start", "end"]) (sc := defScope sWithin) (by decide +kernel))
            (fun _ _ _ _ _ => pg_tup rfl (pgs_cons (pg_name (i := 2) sc_within.nd rfl (Or.inl rfl)) (pgs_cons (pg_name (i := 3) sc_within.nd rfl (Or.inl rfl)) pgs_nil)))
            (fun _ _ _ _ _ => pts_one (PW.pt (pw_and (pt_cmpR op_in_seq (pv 2) (pv 1) (by rfl)) (pw_and1 (pt_cmpR op_in_seq (pv 3) (pv 1) (by rfl))))))
            (fun _ _ _ _ _ => pe_tup (pa_cons (pv 2) (pa_cons (pv 3) pa_nil))))), ?_⟩
    have lx : xs.length = ps.length := by rw [dps_len hd, List.length_map]
    refine ⟨_, rfl, a, rfl, ⟨xs, hxs⟩, fun D hD => ?_⟩
    refine lc_list (xs := xs) (fun k G => Same H G ∧ ∃ acc, G D = some (.lst acc) ∧ TA G acc (withinL (ps.take k) l) (withinL (ps.take k) l).length) ⟨same_new hD, [], upd_same, ta_0 _ _⟩ (fun k G _ z => same_l z.1 hxs) ?_ ?_
    · rintro k x G hx ⟨sG, acc, hacc, ta⟩
      obtain ⟨⟨i, j⟩, t, hpk, rfl, ht⟩ := pl_at (dps_s hd sG) hx
      have hk := lt_of_at hpk
      have wt := within_take (l := l) hpk
      have wl : (withinL (ps.take k) l).length ≤ k := by
        unfold withinL
        refine Nat.le_trans (List.length_filter_le ..) ?_
        rw [List.length_take]; omega
      refine ⟨t, _, rfl, ht, rfl, _, _, rfl, _, _, rfl, rfl, rfl, _, rfl, _, rfl, b, _, rfl, same_a sG hl, rfl, flat_ints l, _, in_bl, ?_⟩
      by_cases c1 : i ∈ l
      · rw [decide_eq_true c1]
        refine ⟨_, rfl, _, rfl, b, _, rfl, same_a sG hl, rfl, flat_ints l, _, in_bl, ?_⟩
        by_cases c2 : j ∈ l
        · rw [decide_eq_true c2]
          refine ⟨_, rfl, _, rfl, szle (by show 2 ≤ 100000; decide), fun v hv => ?_⟩
          have nvD : D ≠ v := fun e => by rw [← e, hacc] at hv; cases hv
          refine ⟨acc, by rw [upd_ne nvD]; exact hacc, szlt (by have := ta.1; omega), same_mut (sG.trans (same_new hv)) hD, acc ++ [.ref v], upd_same, ?_⟩
          have wt' : withinL (ps.take (k + 1)) l = withinL (ps.take k) l ++ [(i, j)] := by rw [wt, if_pos ⟨c1, c2⟩]
          rw [wt', List.length_append]
          exact ta_put (z := (i, j)) ⟨ta.1, fun m x hm => let ⟨t, z, e1, e2, e3⟩ := ta.2 m x hm; ⟨t, z, e1, by rw [List.getElem?_append_left (lt_of_at e2)]; exact e2, e3⟩⟩ hacc hv (by simp)
        · rw [decide_eq_false c2]
          refine iteF ⟨sG, acc, hacc, ?_⟩
          have wt' : withinL (ps.take (k + 1)) l = withinL (ps.take k) l := by rw [wt, if_neg fun z => c2 z.2]
          rw [wt']; exact ta
      · rw [decide_eq_false c1]
        refine iteF ⟨sG, acc, hacc, ?_⟩
        have wt' : withinL (ps.take (k + 1)) l = withinL (ps.take k) l := by rw [wt, if_neg fun z => c1 z.1]
        rw [wt']; exact ta
    · rintro G ⟨sG, acc, hacc, ta⟩
      rw [take_all lx.symm] at ta
      exact q G D sG hD ⟨acc, hacc, ta_dps ta⟩
end
end Tk

namespace Tk
open PySem PySem.Spec PyProof.Rows L2
def topV : List Int → V
  | [] => .non
  | x :: _ => .int x
def spHead (K : PySem.W.Frag) (C : Addr) : Sp := fun vs H Q _ => ∃ (p a : Addr) (n : Nat) (as ts : List (Int × Int)) (l : List Int), vs = [.ref p, .ref a] ∧ PlanAt K C H p n as ts ∧ SqA K H a (l.map V.int) ∧ Lot n l ∧ ∀ H', Same H H' → Q (topV (headsL as l)) H'
def spHangs (K : PySem.W.Frag) (C : Addr) : Sp := fun vs H Q _ => ∃ (p a : Addr) (n : Nat) (as ts : List (Int × Int)) (l : List Int), vs = [.ref p, .ref a] ∧ PlanAt K C H p n as ts ∧ SqA K H a (l.map V.int) ∧ Lot n l ∧ ∀ H', Same H H' → Q (.bl (hangB ts l)) H'
theorem eqv_ints : ∀ {l m : List Int}, PyData.eqvAll (l.map .int) (m.map .int) = decide (l = m)
  | [], [] => by simp [PyData.eqvAll]
  | [], _ :: _ => by simp [PyData.eqvAll]
  | _ :: _, [] => by simp [PyData.eqvAll]
  | a :: l, b :: m => by
    rw [List.map_cons, List.map_cons, PyData.eqvAll, eqv_ints (l := l) (m := m)]
    have e : PyData.eqv (.int a) (.int b) = decide (a = b) := by
      rw [PyData.eqv]
      by_cases c : a = b
      · subst c; simp
      · simp [c]
    rw [e]
    by_cases c : a = b
    · simp [c]
    · simp [c]
theorem eqv_lints {l m : List Int} : PyData.eqv (.list (l.map .int)) (.list (m.map .int)) = decide (l = m) := by
  rw [PyData.eqv, eqv_ints]
theorem shaped_ints (l : List Int) : SeqAt.shaped (.list (l.map .int)) = true := by
  unfold SeqAt.shaped
  rw [Bool.and_eq_true_iff]
  have h1 : PyData.canLayAll0 (l.map .int) = true := by
    induction l with
    | nil => rfl
    | cons a l ih => rw [List.map_cons, PyData.canLayAll0, ih]; rfl
  have h2 : PyData.depthAll (l.map .int) = 0 := by
    induction l with
    | nil => rfl
    | cons a l ih =>
      rw [List.map_cons, PyData.depthAll]
      have h3 : PyData.canLayAll0 (l.map .int) = true := by
        rw [List.map_cons, PyData.canLayAll0] at h1
        exact (Bool.and_eq_true_iff.mp h1).2
      rw [ih h3]; rfl
  refine ⟨by rw [PyData.canLay0]; exact h1, decide_eq_true ?_⟩
  rw [PyData.depth, h2]
  decide
theorem lot_sorted {n : Nat} {l s : List Int} (th : l.Nodup ∧ ∀ x ∈ l, x ∈ things n) (pm : s.Perm l) (so : s.Pairwise (· ≤ ·)) : l = s ↔ Lot n l := by
  constructor
  · intro e
    subst e
    exact ⟨le_lt so th.1, th.2⟩
  · intro h
    exact rise_eq h.1 (le_lt so (pm.nodup_iff.mpr th.1)) fun x => pm.mem_iff.symm
end Tk

namespace Tk
open PySem PySem.Spec PyProof.Rows L2
section
variable {P : Program} {w : World} {K : PySem.W.Frag} {mg : Str → Option Value} {base : Heap}
abbrev nATh : List Str := ["size", "value", "thing"]
theorem sc_areThings : FnScope nATh ["size", "value"] (defScope sAreThings) := ⟨rfl, rfl, rfl, by decide +kernel, rfl, by decide +kernel, by decide +kernel⟩
theorem ok_areThings {f f1 f2 f3 f5 : Addr} {fd fd1 fd2 fd3 fd5 : FuncData} (F : Fun K "are_things" "are_things" sAreThings f fd) (D1 : Df K mg "is_integer" sIsInt ["value"] f1 fd1) (D2 : Df K mg "is_count" sIsCnt ["value"] f2 fd2)
    (D3 : Df K mg "is_thing" sIsThg ["size", "value"] f3 fd3) (D5 : Df K mg "is_list" sIsLst ["value"] f5 fd5) (B : Bl mg) : FnOk P w K mg base CX0 4 f fd ["size", "value"] (spAreThings K) := by
  have G3 : FnOk P w K mg base CX0 3 f3 fd3 ["size", "value"] (spIsThg K) := ok_isThg D3.F D1 D2 B
  have G5 : FnOk P w K mg base CX0 1 f5 fd5 ["value"] (spIsLst K) := ok_isLst D5.F B
  refine F.ok sc_areThings (fun vs H Q E h => ?_) (fun cdv A outer s H vs Q E hr h => ?_)
  · obtain ⟨n, v, o, rfl, _⟩ := h
    rfl
  · obtain ⟨n, v, o, rfl, hv, q⟩ := h
    refine ⟨_, pss_cons (ps_if (PW.pt (pw_or (pt_not (pt_val (pe_call G5 (hr.mono (by decide)) rfl D5.g D5.F.kp D5.b .nil pass0 (pa_cons (pv 1) pa_nil))))
        (pw_or1 (pt_not (pt_val (pe_callB (cr_all rfl) (by rfl) B.all PyProof.Rows.boot_all (pa_cons
          (pe_lc (own := [("thing", 2)]) (g := gName 2) (tt := tYes) rfl sc_areThings.nd (pi_sq (pv 1)) (blkOk_by (N := nATh) (sc := defScope sAreThings) (by decide +kernel))
            (fun _ _ _ _ _ => pg_name (i := 2) sc_areThings.nd rfl (Or.inl rfl)) (fun _ _ _ _ _ => pts_nil)
            (fun _ _ _ _ _ => pe_call G3 hr rfl D3.g D3.F.kp D3.b .nil pass0 (pa_cons (pv 0) (pa_cons (pv 2) pa_nil)))) pa_nil))))))) (pss_one (ps_ret pe_bl)) pss_nil)
      (pss_one (ps_ret (pe_cmpR op_eq (pe_callB cr_lenN (by rfl) B.len PySem.boot_len (pa_cons (pe_callTy (cr_setIA rfl) (by rfl) B.set PySem.Pv.boot_set (pa_cons (pv 1) pa_nil)) pa_nil))
        (pe_callB call_len_seq (by rfl) B.len PySem.boot_len (pa_cons (pv 1) pa_nil)) (nomark _)))), ?_⟩
    cases hv with
    | no h =>
      refine ⟨_, rfl, v, none, rfl, h, fun H1 s1 => ⟨false, rfl, iteT ?_⟩⟩
      exact q H1 false s1 ⟨fun z => (nomatch z), fun ⟨l, e, _⟩ => nomatch e⟩
    | @sq a xs os h he few =>
      refine ⟨_, rfl, .ref a, some xs, rfl, .sq h, fun H1 s1 => ⟨true, rfl, iteF ?_⟩⟩
      refine ⟨_, rfl, a, xs, rfl, same_a s1 h, fun it hit D hD => ?_⟩
      have el := each_len he
      refine lc_sq hit (LcP H1 D fun k => ((os.take k).map (thgO n)).map V.bl) (lcp_0 hD rfl) (fun k H2 _ p => p.1) ?_ ?_
      · intro k x H2 hx p
        have hk := lt_of_at hx
        obtain ⟨o, ho, hi⟩ := each_at he hx
        refine ⟨rfl, _, rfl, _, rfl, n, x, o, rfl, intv_s hi (s1.trans p.1), ?_⟩
        exact lcp_put hD p (by rw [take_at ho, List.map_append, List.map_append]; rfl) (by rw [List.length_map, List.length_map, List.length_take]; omega)
      · intro H2 p
        have hD2 : H2 D = some (.lst (((os.take xs.length).map (thgO n)).map V.bl)) := p.2
        rw [take_all el.symm] at hD2
        refine ⟨D, os.map (thgO n), rfl, sl_of hD2, _, rfl, ?_⟩
        have s2 := s1.trans p.1
        by_cases c : ((os.map (thgO n)).all id) = true
        · rw [c]
          refine iteF ?_
          have each : ∀ o ∈ os, thgO n o = true := fun o ho => List.all_eq_true.mp c _ (List.mem_map.mpr ⟨o, ho, rfl⟩)
          obtain ⟨l, rfl, rfl⟩ := each_some (each_s s2 he) (fun o ho => by
            have := each o ho
            cases o with
            | none => cases this
            | some i => rfl)
          have th : ∀ x ∈ l, x ∈ things n := fun x hx => by
            have := each (some x) (List.mem_map.mpr ⟨x, hx, rfl⟩)
            simp [thgO] at this
            exact mem_things.mpr this
          rw [List.length_map] at few
          refine ⟨_, rfl, a, l, rfl, same_a s2 h, by omega, fun z L hz nd mm => ?_⟩
          refine ⟨z, L.length, rfl, upd_same, ?_⟩
          have s3 := s2.trans (same_new (o := SetN z L.length) hz)
          refine ⟨_, rfl, a, _, rfl, same_a s3 h, rfl, ?_⟩
          refine q _ _ s3 ?_
          rw [List.length_map]
          constructor
          · intro e
            have e' : (L.length : Int) = (l.length : Int) := by simpa using e
            refine ⟨l, rfl, Classical.byContradiction fun no => ?_, th⟩
            obtain ⟨x, hx, hy⟩ := dup_erase no
            have := nodup_le nd (m := l.erase x) fun y hy' => hy y ((mm y).mp hy')
            have h1 := List.length_erase_of_mem hx
            have h2 : 0 < l.length := List.length_pos_of_mem hx
            omega
          · rintro ⟨l', e, nl, _⟩
            have el : l = l' := by
              have := Option.some.inj e
              exact some_inj this
            subst el
            have := nodup_eq nd nl mm
            rw [this]
            simp
        · have c' : ((os.map (thgO n)).all id) = false := by simpa using c
          rw [c']
          refine iteT ?_
          refine q H2 false s2 ⟨fun z => (nomatch z), ?_⟩
          rintro ⟨l, e, nl, th⟩
          cases e
          refine absurd (List.all_eq_true.mpr fun b hb => ?_) c
          obtain ⟨o, ho, rfl⟩ := List.mem_map.mp hb
          obtain ⟨x, hx, rfl⟩ := List.mem_map.mp ho
          have := mem_things.mp (th x hx)
          simp [thgO, this]
end
end Tk

namespace Tk
open PySem PySem.Spec PyProof.Rows L2
section
variable {P : Program} {w : World} {K : PySem.W.Frag} {mg : Str → Option Value} {base : Heap}
theorem sc_isRising : FnScope ["size", "value"] ["size", "value"] (defScope sIsRising) := ⟨rfl, rfl, rfl, by decide +kernel, rfl, by decide +kernel, by decide +kernel⟩
theorem ok_isRising {f f4 : Addr} {fd fd4 : FuncData} (F : Fun K "is_rising" "is_rising" sIsRising f fd)
    (D4 : Df K mg "are_things" sAreThings ["size", "value"] f4 fd4) (G4 : FnOk P w K mg base CX0 4 f4 fd4 ["size", "value"] (spAreThings K)) (B : Bl mg) : FnOk P w K mg base CX0 5 f fd ["size", "value"] (spIsRising K) := by
  refine F.ok sc_isRising (fun vs H Q E h => ?_) (fun cdv A outer s H vs Q E hr h => ?_)
  · obtain ⟨n, v, o, rfl, _⟩ := h
    rfl
  · obtain ⟨n, v, o, rfl, n6, hv, q⟩ := h
    refine ⟨_, pss_one (ps_ret (pe_and (pe_call G4 hr rfl D4.g D4.F.kp D4.b .nil pass0 (pa_cons (pv 0) (pa_cons (pv 1) pa_nil)))
      (pe_one (pe_cmpR (op_eqD hr.units) (pe_callTy call_list_of (by rfl) B.list PyProof.Rows.boot_list (pa_cons (pv 1) pa_nil)) (pe_callB cr_sortedIA (by rfl) B.sorted PyProof.Rows.boot_sorted (pa_cons (pv 1) pa_nil)) (nomark _))))), ?_⟩
    refine ⟨_, rfl, _, rfl, n, v, o, rfl, hv, fun H1 b s1 hb => ⟨b, rfl, ?_⟩⟩
    cases b with
    | false =>
      refine iteF (q H1 false s1 ⟨fun z => (nomatch z), ?_⟩)
      rintro ⟨l, e, hl⟩
      exact nomatch hb.mpr ⟨l, e, lt_nd hl.1, hl.2⟩
    | true =>
      obtain ⟨l, e, nd, th⟩ := hb.mp rfl
      cases lotv_s hv s1 with
      | no h => cases e
      | @sq a xs os h he few =>
        cases e
        obtain ⟨l', rfl, e'⟩ := each_some he fun o ho => by
          obtain ⟨x, _, rfl⟩ := List.mem_map.mp ho
          rfl
        have := some_inj e'
        subst this
        refine iteT ⟨_, rfl, a, _, rfl, h, fun c hc => ⟨_, rfl, a, l, rfl, same_a (same_new hc) h, fun s' r pm so hr' => ?_⟩⟩
        have s2 : Same H1 (upd (upd H1 c (.lst (l.map V.int))) r (.lst (s'.map V.int))) := (same_new hc).trans (same_new hr')
        have ncr : c ≠ r := fun z => by rw [← z, upd_same] at hr'; cases hr'
        refine ⟨.list (l.map .int), .list (s'.map .int), .lst (sl_of (by rw [upd_ne ncr, upd_same])) (dps_ints l), .lst (sl_of upd_same) (dps_ints s'), shaped_ints l, shaped_ints s', ?_⟩
        rw [eqv_lints]
        refine q _ _ (s1.trans s2) ?_
        rw [decide_eq_true_eq, lot_sorted ⟨nd, th⟩ pm so]
        constructor
        · exact fun h => ⟨l, rfl, h⟩
        · rintro ⟨m, e, h⟩
          rw [some_inj (Option.some.inj e)]
          exact h
theorem sc_isLotOf : FnScope ["plan", "value"] ["plan", "value"] (defScope sIsLotOf) := ⟨rfl, rfl, rfl, by decide +kernel, rfl, by decide +kernel, by decide +kernel⟩
theorem ok_isLotOf {f f4 C pW gW fA fT : Addr} {fd fd4 fdW fdA fdT : FuncData} (F : Fun K "is_lot_of" "is_lot_of" sIsLotOf f fd) (M : PlM K mg C pW gW fA fT fdW fdA fdT)
    (D4 : Df K mg "is_rising" sIsRising ["size", "value"] f4 fd4) (G4 : FnOk P w K mg base CX0 5 f4 fd4 ["size", "value"] (spIsRising K)) (B : Bl mg) : FnOk P w K mg base CX0 6 f fd ["plan", "value"] (spIsLotOf K C) := by
  have GW : FnOk P w K mg base CX0 1 gW fdW ["self"] (getSp C "_size") := ok_width M.FW M.c
  refine F.ok sc_isLotOf (fun vs H Q E h => ?_) (fun cdv A outer s H vs Q E hr h => ?_)
  · obtain ⟨p, n, as, ts, v, o, rfl, _⟩ := h
    rfl
  · obtain ⟨p, n, as, ts, v, o, rfl, hP, hv, q⟩ := h
    have hr2 : Room 2 _ := hr.mono (by decide)
    refine ⟨_, pss_one (ps_ret (pe_call G4 hr rfl D4.g D4.F.kp D4.b .nil pass0 (pa_cons (pe_prop (pv 0) M.c.cl M.prop GW hr2 M.bW .nil pass0 rfl) (pa_cons (pv 1) pa_nil)))), ?_⟩
    obtain ⟨⟨dx, a0, t0, hp, _⟩, n6, _, _, _, _⟩ := id hP
    exact ⟨_, rfl, p, dx, _, rfl, hp, p, dx, _, _, rfl, hp, pf_size _ _ _, _, rfl, n, v, o, rfl, n6, hv, q⟩
theorem sc_chkLot : FnScope ["plan", "lot"] ["plan", "lot"] (defScope sChkLot) := ⟨rfl, rfl, rfl, by decide +kernel, rfl, by decide +kernel, by decide +kernel⟩
theorem ok_chkLot {f f5 C : Addr} {fd fd5 : FuncData} (F : Fun K "check_lot" "check_lot" sChkLot f fd) (D5 : Df K mg "is_lot_of" sIsLotOf ["plan", "value"] f5 fd5) (G5 : FnOk P w K mg base CX0 6 f5 fd5 ["plan", "value"] (spIsLotOf K C)) :
    FnOk P w K mg base CX0 7 f fd ["plan", "lot"] (spChkLot K C) := by
  refine F.ok sc_chkLot (fun vs H Q E h => ?_) (fun cdv A outer s H vs Q E hr h => ?_)
  · obtain ⟨p, a, n, as, ts, l, rfl, _⟩ := h
    rfl
  · obtain ⟨p, a, n, as, ts, l, rfl, hP, hl, lot, q⟩ := h
    refine ⟨_, pss_one (ps_if (pt_not (pt_val (pe_call G5 hr rfl D5.g D5.F.kp D5.b .nil pass0 (pa_cons (pv 0) (pa_cons (pv 1) pa_nil))))) pss_never pss_nil), ?_⟩
    have ll := lot_len lot
    have n6 := hP.n6
    refine ⟨_, rfl, _, rfl, p, n, as, ts, _, _, rfl, hP, lotv_lot hl (by omega), fun H1 b s1 hb => ?_⟩
    have : b = true := hb.mpr ⟨l, rfl, lot⟩
    subst this
    exact ⟨true, rfl, iteF (q H1 s1)⟩
abbrev nHead : List Str := ["plan", "lot", "against", "thing"]
theorem sc_head : FnScope nHead ["plan", "lot"] (defScope sHead) := ⟨rfl, rfl, rfl, by decide +kernel, rfl, by decide +kernel, by decide +kernel⟩
theorem heads_at {as : List (Int × Int)} {l : List Int} {k : Nat} {x : Int} (hx : l[k]? = some x) (none : ∀ y ∈ l.take k, headB as l y = false) (h : headB as l x = true) : topV (headsL as l) = .int x := by
  have hk := lt_of_at hx
  have e : l = l.take k ++ x :: l.drop (k + 1) := by
    have e1 := (List.take_append_drop k l).symm
    have e2 : l.drop k = x :: l.drop (k + 1) := by
      rw [List.drop_eq_getElem_cons hk]
      rw [List.getElem?_eq_getElem hk] at hx
      rw [Option.some.inj hx]
    rw [e2] at e1
    exact e1
  have f1 : (l.take k).filter (headB as l) = [] := List.filter_eq_nil_iff.mpr fun y hy => by rw [none y hy]; simp
  unfold headsL
  have : l.filter (headB as l) = (l.take k ++ x :: l.drop (k + 1)).filter (headB as l) := congrArg (List.filter (headB as l)) e
  rw [this, List.filter_append, f1, List.filter_cons_of_pos h]
  rfl
theorem heads_none {as : List (Int × Int)} {l : List Int} (none : ∀ y ∈ l, headB as l y = false) : topV (headsL as l) = .non := by
  unfold headsL
  rw [List.filter_eq_nil_iff.mpr fun y hy => by rw [none y hy]; simp]
  rfl
theorem ok_head {f f1 f2 f3 f6 f7 C pW gW fA fT : Addr} {fd fd1 fd2 fd3 fd6 fd7 fdW fdA fdT : FuncData} (F : Fun K "head" "head" sHead f fd) (M : PlM K mg C pW gW fA fT fdW fdA fdT) (D1 : Df K mg "check_plan" sChkPlan ["plan"] f1 fd1)
    (D6 : Df K mg "check_lot" sChkLot ["plan", "lot"] f6 fd6) (G6 : FnOk P w K mg base CX0 7 f6 fd6 ["plan", "lot"] (spChkLot K C)) (D2 : Df K mg "within" sWithin ["pairs", "things"] f2 fd2) (D3 : Df K mg "turned" sTurned ["pairs"] f3 fd3)
    (D7 : Df K mg "reached" sReached ["pairs", "start"] f7 fd7) (B : Bl mg) : FnOk P w K mg base CX0 8 f fd ["plan", "lot"] (spHead K C) := by
  have G1 : FnOk P w K mg base CX0 1 f1 fd1 ["plan"] (spChkPlan C) := ok_chkPlan D1.F M.c M.ins B
  have G2 : FnOk P w K mg base CX0 1 f2 fd2 ["pairs", "things"] (spWithin K) := ok_within D2.F
  have G3 : FnOk P w K mg base CX0 1 f3 fd3 ["pairs"] (spTurned K) := ok_turned D3.F
  have G7 : FnOk P w K mg base CX0 1 f7 fd7 ["pairs", "start"] (spReached K) := ok_reached D7.F B
  have GA : FnOk P w K mg base CX0 1 fA fdA ["self"] (spArr K C) := ok_arrows M.FA M.c B
  refine F.ok sc_head (fun vs H Q E h => ?_) (fun cdv A outer s H vs Q E hr h => ?_)
  · obtain ⟨p, a, n, as, ts, l, rfl, _⟩ := h
    rfl
  · obtain ⟨p, a, n, as, ts, l, rfl, hP, hl, lot, q⟩ := h
    have hr1 : Room 1 _ := hr.mono (by decide)
    refine ⟨_, pss_cons (ps_expr (pe_call G1 hr1 rfl D1.g D1.F.kp D1.b .nil pass0 (pa_cons (pv 0) pa_nil)))
      (pss_cons (ps_expr (pe_call G6 hr rfl D6.g D6.F.kp D6.b .nil pass0 (pa_cons (pv 0) (pa_cons (pv 1) pa_nil))))
      (pss_cons (ps_set (i := 2) sc_head.nd rfl (Or.inl rfl) (pe_call G3 hr1 rfl D3.g D3.F.kp D3.b .nil pass0 (pa_cons (pe_call G2 hr1 rfl D2.g D2.F.kp D2.b .nil pass0 (pa_cons (pe_meth0 (pv 0) M.c.cl M.mA GA hr1 M.bA .nil pass0) (pa_cons (pv 1) pa_nil))) pa_nil)))
      (pss_cons (ps_for PassesOwn.never rfl (pi_sq (pv 1)) (pg_name (i := 3) sc_head.nd rfl (Or.inl rfl))
        (pss_one (ps_if (pt_cmpR op_eq (pe_callB call_len_seq (by rfl) B.len PySem.boot_len (pa_cons (pe_call G7 hr1 rfl D7.g D7.F.kp D7.b .nil pass0 (pa_cons (pv 2) (pa_cons (pv 3) pa_nil))) pa_nil)) (pe_callB call_len_seq (by rfl) B.len PySem.boot_len (pa_cons (pv 1) pa_nil)) (nomark _))
          (pss_one (ps_ret (pv 3))) pss_nil)))
      (pss_one (ps_ret pe_non))))), ?_⟩
    obtain ⟨⟨dx, a0, t0, hp, _⟩, n6, pas, acy, pts, lt⟩ := id hP
    have pfn : ∀ {m : Str}, ¬ m = "_size" → ¬ m = "_arrows" → ¬ m = "_ties" → (pf n a0 t0).lookup m = none := fun h1 h2 h3 => pf_no _ _ _ h1 h2 h3
    have few := pas.2.1
    refine ⟨_, rfl, p, dx, _, rfl, hp, ?_⟩
    refine ⟨_, rfl, _, rfl, p, a, n, as, ts, l, rfl, hP, hl, lot, fun H1 s1 => ?_⟩
    refine ⟨_, rfl, p, dx, _, rfl, s1 _ _ hp, pfn (by decide +kernel) (by decide +kernel) (by decide +kernel), p, n, as, ts, rfl, plan_s hP s1, fun H2 l2 s2 hl2 pm2 => ?_⟩
    have s12 := s1.trans s2
    refine ⟨_, rfl, l2, a, as, l, rfl, pm_pl pm2, few, same_a s12 hl, fun H3 l3 s3 hl3 pm3 => ?_⟩
    have s13 := s12.trans s3
    have wsub : (withinL as l).Sublist as := List.filter_sublist
    refine ⟨l3, withinL as l, rfl, pm_pl pm3, Nat.lt_of_le_of_lt wsub.length_le few, fun H4 l4 s4 hl4 pm4 => ?_⟩
    have s14 := s13.trans s4
    have pup : Prs n (upIn as l) := prs_turn (prs_sub pas wsub)
    refine ⟨_, rfl, a, _, rfl, same_a s14 hl, fun it hit => ?_⟩
    refine for_sq hit (fun k σ G => ∃ v3 : Option V, σ = [some (V.ref p), some (V.ref a), some (V.ref l4), v3] ∧ Same H4 G ∧ ∀ x ∈ l.take k, headB as l x = false) ⟨none, rfl, fun _ _ h => h, fun _ h => by simp at h⟩ (fun _ _ _ _ z => by obtain ⟨_, _, z, _⟩ := z; exact z) ?_ ?_
    · rintro k y σ G hy ⟨v3, rfl, sG, no⟩
      obtain ⟨x, hx, rfl⟩ := int_at hy
      have xl : x ∈ l := List.mem_of_getElem? hx
      refine ⟨_, rfl, _, rfl, n, l4, x, upIn as l, rfl, pl_s (pm_pl pm4) sG, by omega, pup, lot.2 x xl, fun H5 r fo s5 hr0 hr5 nd th re => ?_⟩
      refine ⟨r, _, rfl, .inl (sl_of hr5), ?_⟩
      refine ⟨_, rfl, a, _, rfl, same_a ((s14.trans sG).trans s5) hl, rfl, ?_⟩
      have key := met_all (lt_nd lot.1) nd re (fun y h => up_in h xl)
      have eb : decide (V.int ((fo.map V.int).length : Nat) = V.int ((l.map V.int).length : Nat)) = headB as l x := by
        rw [List.length_map, List.length_map]
        by_cases c : headB as l x = true
        · rw [c]
          have := key.mpr (headB_iff.mp c)
          rw [this]
          simp
        · have c' : headB as l x = false := by simpa using c
          rw [c']
          have n1 : ¬ fo.length = l.length := fun e => c (headB_iff.mpr (key.mp e))
          simp
          omega
      refine ⟨_, congrArg V.bl eb, ?_⟩
      refine ite2 (fun c => ?_) (fun c => ?_)
      · refine ⟨_, rfl, ?_⟩
        have := heads_at hx no c
        rw [← this]
        exact q H5 ((s14.trans sG).trans s5)
      · refine ⟨_, rfl, sG.trans s5, fun y hy => ?_⟩
        rw [take_at hx] at hy
        rcases List.mem_append.mp hy with z | z
        · exact no y z
        · rw [List.mem_singleton.mp z]; simpa using c
    · rintro σ G ⟨v3, rfl, sG, no⟩
      rw [take_all (by simp)] at no
      have := heads_none no
      show Q .non G
      rw [← this]
      exact q G (s14.trans sG)
abbrev nHangs : List Str := ["plan", "lot", "bonds"]
theorem sc_hangs : FnScope nHangs ["plan", "lot"] (defScope sHangs) := ⟨rfl, rfl, rfl, by decide +kernel, rfl, by decide +kernel, by decide +kernel⟩
theorem ok_hangs {f f1 f2 f3 f4 f6 f7 C pW gW fA fT : Addr} {fd fd1 fd2 fd3 fd4 fd6 fd7 fdW fdA fdT : FuncData} (F : Fun K "hangs" "hangs" sHangs f fd) (M : PlM K mg C pW gW fA fT fdW fdA fdT) (D1 : Df K mg "check_plan" sChkPlan ["plan"] f1 fd1)
    (D6 : Df K mg "check_lot" sChkLot ["plan", "lot"] f6 fd6) (G6 : FnOk P w K mg base CX0 7 f6 fd6 ["plan", "lot"] (spChkLot K C)) (D2 : Df K mg "within" sWithin ["pairs", "things"] f2 fd2) (D3 : Df K mg "turned" sTurned ["pairs"] f3 fd3)
    (D4 : Df K mg "both_ways" sBothWays ["ties"] f4 fd4) (D7 : Df K mg "reached" sReached ["pairs", "start"] f7 fd7) (B : Bl mg) : FnOk P w K mg base CX0 8 f fd ["plan", "lot"] (spHangs K C) := by
  have G1 : FnOk P w K mg base CX0 1 f1 fd1 ["plan"] (spChkPlan C) := ok_chkPlan D1.F M.c M.ins B
  have G2 : FnOk P w K mg base CX0 1 f2 fd2 ["pairs", "things"] (spWithin K) := ok_within D2.F
  have G4 : FnOk P w K mg base CX0 2 f4 fd4 ["ties"] (spBoth K) := ok_both D4.F D3
  have G7 : FnOk P w K mg base CX0 1 f7 fd7 ["pairs", "start"] (spReached K) := ok_reached D7.F B
  have GT : FnOk P w K mg base CX0 1 fT fdT ["self"] (spTies K C) := ok_ties M.FT M.c B
  refine F.ok sc_hangs (fun vs H Q E h => ?_) (fun cdv A outer s H vs Q E hr h => ?_)
  · obtain ⟨p, a, n, as, ts, l, rfl, _⟩ := h
    rfl
  · obtain ⟨p, a, n, as, ts, l, rfl, hP, hl, lot, q⟩ := h
    have hr1 : Room 1 _ := hr.mono (by decide)
    have hr2 : Room 2 _ := hr.mono (by decide)
    refine ⟨_, pss_cons (ps_expr (pe_call G1 hr1 rfl D1.g D1.F.kp D1.b .nil pass0 (pa_cons (pv 0) pa_nil)))
      (pss_cons (ps_expr (pe_call G6 hr rfl D6.g D6.F.kp D6.b .nil pass0 (pa_cons (pv 0) (pa_cons (pv 1) pa_nil))))
      (pss_cons (ps_set (i := 2) sc_hangs.nd rfl (Or.inl rfl) (pe_call G4 hr2 rfl D4.g D4.F.kp D4.b .nil pass0 (pa_cons (pe_call G2 hr1 rfl D2.g D2.F.kp D2.b .nil pass0 (pa_cons (pe_meth0 (pv 0) M.c.cl M.mT GT hr1 M.bT .nil pass0) (pa_cons (pv 1) pa_nil))) pa_nil)))
      (pss_one (ps_ret (pe_or (pe_cmpR op_eq (pe_callB call_len_seq (by rfl) B.len PySem.boot_len (pa_cons (pv 1) pa_nil)) pe_int (nomark _))
        (pe_one (pe_cmpR op_eq (pe_callB call_len_seq (by rfl) B.len PySem.boot_len (pa_cons (pe_call G7 hr1 rfl D7.g D7.F.kp D7.b .nil pass0 (pa_cons (pv 2) (pa_cons (pe_ix ix_seq (pv 1) pe_int (fun _ _ => rfl)) pa_nil))) pa_nil)) (pe_callB call_len_seq (by rfl) B.len PySem.boot_len (pa_cons (pv 1) pa_nil)) (nomark _)))))))), ?_⟩
    obtain ⟨⟨dx, a0, t0, hp, _⟩, n6, pas, acy, pts, lt⟩ := id hP
    have pfn : ∀ {m : Str}, ¬ m = "_size" → ¬ m = "_arrows" → ¬ m = "_ties" → (pf n a0 t0).lookup m = none := fun h1 h2 h3 => pf_no _ _ _ h1 h2 h3
    have few := pts.2.1
    refine ⟨_, rfl, p, dx, _, rfl, hp, ?_⟩
    refine ⟨_, rfl, _, rfl, p, a, n, as, ts, l, rfl, hP, hl, lot, fun H1 s1 => ?_⟩
    refine ⟨_, rfl, p, dx, _, rfl, s1 _ _ hp, pfn (by decide +kernel) (by decide +kernel) (by decide +kernel), p, n, as, ts, rfl, plan_s hP s1, fun H2 l2 s2 hl2 pm2 => ?_⟩
    have s12 := s1.trans s2
    refine ⟨_, rfl, l2, a, ts, l, rfl, pm_pl pm2, few, same_a s12 hl, fun H3 l3 s3 hl3 pm3 => ?_⟩
    have s13 := s12.trans s3
    have wsub : (withinL ts l).Sublist ts := List.filter_sublist
    refine ⟨l3, withinL ts l, rfl, pm3, Nat.lt_of_le_of_lt wsub.length_le few, fun H4 l4 s4 hl4 pm4 => ?_⟩
    have s14 := s13.trans s4
    have pup : Prs n (tieIn ts l) := prs_both n6 (prs_sub pts wsub) (fun z hz => lt z (wsub.subset hz))
    refine ⟨_, rfl, a, _, rfl, same_a s14 hl, rfl, ?_⟩
    cases l with
    | nil =>
      have : hangB ts [] = true := hangB_iff.mpr trivial
      have q' := q H4 s14
      rw [this] at q'
      exact ⟨true, rfl, iteT q'⟩
    | cons x l0 =>
      refine ⟨false, by congr 1, iteF ?_⟩
      generalize hL : x :: l0 = l at *
      have xl : x ∈ l := by rw [← hL]; exact List.mem_cons_self ..
      refine ⟨_, rfl, _, rfl, ?_⟩
      have ix : atI (l.map V.int) (0 : Int) = some (V.int x) := by rw [← hL]; exact at0
      have go : ∀ (R : V → Hp → Prop), R (V.int x) H4 → rIx K (V.ref a) (V.int 0) H4 R := fun R hR => by
        rcases same_a s14 hl with z | z
        · exact .inl ⟨a, _, _, _, rfl, rfl, z, ix, hR⟩
        · exact .inr (.inl ⟨a, _, _, _, rfl, rfl, z, ix, hR⟩)
      refine go _ ?_
      refine ⟨n, l4, x, tieIn ts l, rfl, pm_pl pm4, by omega, pup, lot.2 x xl, fun H5 r fo s5 hr0 hr5 nd th re => ?_⟩
      refine ⟨r, _, rfl, .inl (sl_of hr5), ?_⟩
      refine ⟨_, rfl, a, _, rfl, same_a (s14.trans s5) hl, rfl, ?_⟩
      have key := met_all (lt_nd lot.1) nd re (fun y h => tie_in h xl)
      have eb : decide (V.int ((fo.map V.int).length : Nat) = V.int ((l.map V.int).length : Nat)) = hangB ts l := by
        rw [List.length_map, List.length_map]
        by_cases c : hangB ts l = true
        · rw [c]
          have hg := hangB_iff.mp c
          rw [← hL] at hg
          have := key.mpr (by rw [← hL]; exact hg)
          rw [this]
          simp
        · have c' : hangB ts l = false := by simpa using c
          rw [c']
          have n1 : ¬ fo.length = l.length := fun e => c (hangB_iff.mpr (by
            have := key.mp e
            rw [← hL] at this ⊢
            exact this))
          simp
          omega
      rw [eb]
      exact q H5 (s14.trans s5)
end
end Tk

/-! plain mathematics of greatest lots -/
namespace Tk
theorem reach_mono {ps qs : List (Int × Int)} {a b : Int} (s : ∀ p ∈ ps, p ∈ qs) (h : Reach ps a b) : Reach qs a b := by
  induction h with
  | refl => exact .refl
  | tail _ hp ih => exact .tail ih (s _ hp)
theorem things_lt (n : Nat) : (things n).Pairwise (· < ·) := by
  unfold things
  rw [List.pairwise_map]
  exact List.Pairwise.imp (fun {a b} h => by show (a : Int) < (b : Int); omega) List.pairwise_lt_range
theorem up_mono {as : List (Int × Int)} {l m : List Int} (s : ∀ y ∈ l, y ∈ m) {a b : Int} (h : Reach (upIn as l) a b) : Reach (upIn as m) a b :=
  reach_mono (fun ⟨x, y⟩ hp => by rw [mem_upIn] at hp ⊢; exact ⟨hp.1, s _ hp.2.1, s _ hp.2.2⟩) h
theorem tie_mono {ts : List (Int × Int)} {l m : List Int} (s : ∀ y ∈ l, y ∈ m) {a b : Int} (h : Reach (tieIn ts l) a b) : Reach (tieIn ts m) a b :=
  reach_mono (fun ⟨x, y⟩ hp => by rw [mem_tieIn] at hp ⊢; exact ⟨hp.1, s _ hp.2.1, s _ hp.2.2⟩) h
theorem tie_sym {ts : List (Int × Int)} {l : List Int} {a b : Int} (h : Reach (tieIn ts l) a b) : Reach (tieIn ts l) b a := both_sym h
theorem reach_trans {ps : List (Int × Int)} {a b c : Int} (h : Reach ps a b) (g : Reach ps b c) : Reach ps a c := by
  induction g with
  | refl => exact h
  | tail _ hp ih => exact .tail ih hp
/-- a lot with the head x that hangs together -/
structure Good (n : Nat) (as ts : List (Int × Int)) (x : Int) (l : List Int) : Prop where
  lot : Lot n l
  mem : x ∈ l
  up : IsHead as l x
  tie : ∀ y ∈ l, Reach (tieIn ts l) x y
theorem hang_iff {ts : List (Int × Int)} {l : List Int} {x : Int} (hx : x ∈ l) : hangB ts l = true ↔ ∀ y ∈ l, Reach (tieIn ts l) x y := by
  rw [hangB_iff]
  cases l with
  | nil => cases hx
  | cons z l =>
    constructor
    · exact fun h y hy => reach_trans (tie_sym (h x hx)) (h y hy)
    · exact fun h y hy => reach_trans (tie_sym (h z (List.mem_cons_self ..))) (h y hy)
noncomputable def inGl (n : Nat) (as ts : List (Int × Int)) (x y : Int) : Bool := @decide (∃ l, Good n as ts x l ∧ y ∈ l) (Classical.propDecidable _)
noncomputable def gl (n : Nat) (as ts : List (Int × Int)) (x : Int) : List Int := (things n).filter (inGl n as ts x)
theorem mem_gl {n : Nat} {as ts : List (Int × Int)} {x y : Int} : y ∈ gl n as ts x ↔ ∃ l, Good n as ts x l ∧ y ∈ l := by
  unfold gl
  rw [List.mem_filter]
  unfold inGl
  rw [@decide_eq_true_iff _ (Classical.propDecidable _)]
  exact ⟨fun h => h.2, fun h => ⟨let ⟨l, g, hy⟩ := h; g.lot.2 y hy, h⟩⟩
theorem gl_lot {n : Nat} {as ts : List (Int × Int)} {x : Int} : Lot n (gl n as ts x) := ⟨(things_lt n).sublist List.filter_sublist, fun _ hy => (List.mem_filter.mp hy).1⟩
theorem good_one {n : Nat} {as ts : List (Int × Int)} {x : Int} (hx : x ∈ things n) : Good n as ts x [x] :=
  ⟨⟨by simp, fun y hy => by rw [List.mem_singleton.mp hy]; exact hx⟩, by simp, fun y hy => by rw [List.mem_singleton.mp hy]; exact .refl, fun y hy => by rw [List.mem_singleton.mp hy]; exact .refl⟩
theorem good_sub {n : Nat} {as ts : List (Int × Int)} {x : Int} {l : List Int} (h : Good n as ts x l) : ∀ y ∈ l, y ∈ gl n as ts x := fun y hy => mem_gl.mpr ⟨l, h, hy⟩
theorem gl_good {n : Nat} {as ts : List (Int × Int)} {x : Int} (hx : x ∈ things n) : Good n as ts x (gl n as ts x) := by
  refine ⟨gl_lot, mem_gl.mpr ⟨[x], good_one hx, by simp⟩, fun y hy => ?_, fun y hy => ?_⟩
  · obtain ⟨l, g, hl⟩ := mem_gl.mp hy
    exact up_mono (good_sub g) (g.up y hl)
  · obtain ⟨l, g, hl⟩ := mem_gl.mp hy
    exact tie_mono (good_sub g) (g.tie y hl)
theorem gl_eq {n : Nat} {as ts : List (Int × Int)} {x : Int} {l : List Int} (h : Good n as ts x l) (all : ∀ m, Good n as ts x m → ∀ y ∈ m, y ∈ l) : l = gl n as ts x :=
  rise_eq h.lot.1 gl_lot.1 fun y => ⟨good_sub h y, fun hy => let ⟨m, g, hm⟩ := mem_gl.mp hy; all m g y hm⟩
/-- two lots of one head make one -/
theorem good_both {n : Nat} {as ts : List (Int × Int)} {x : Int} {l m k : List Int} (h : Good n as ts x l) (g : Good n as ts x m) (rk : k.Pairwise (· < ·)) (e : ∀ y, y ∈ k ↔ y ∈ l ∨ y ∈ m) : Good n as ts x k := by
  refine ⟨⟨rk, fun y hy => ?_⟩, (e x).mpr (.inl h.mem), fun y hy => ?_, fun y hy => ?_⟩
  · exact ((e y).mp hy).elim (h.lot.2 y) (g.lot.2 y)
  · rcases (e y).mp hy with z | z
    · exact up_mono (fun w hw => (e w).mpr (.inl hw)) (h.up y z)
    · exact up_mono (fun w hw => (e w).mpr (.inr hw)) (g.up y z)
  · rcases (e y).mp hy with z | z
    · exact tie_mono (fun w hw => (e w).mpr (.inl hw)) (h.tie y z)
    · exact tie_mono (fun w hw => (e w).mpr (.inr hw)) (g.tie y z)
/-- one step of leaving out -/
def StepG (as ts : List (Int × Int)) (x : Int) (l fo m : List Int) : Prop := (∀ y, y ∈ fo ↔ Reach (withinL (turnL as) l) x y) ∧ ∀ y, y ∈ m ↔ Reach (withinL (both ts) fo) x y
theorem wt_up {as : List (Int × Int)} {l : List Int} {a b : Int} : Reach (withinL (turnL as) l) a b ↔ Reach (upIn as l) a b := by
  constructor
  · exact reach_mono fun ⟨x, y⟩ hp => by
      rw [mem_withinL, mem_turnL] at hp
      rw [mem_upIn]
      exact ⟨hp.1, hp.2.2, hp.2.1⟩
  · exact reach_mono fun ⟨x, y⟩ hp => by
      rw [mem_withinL, mem_turnL]
      rw [mem_upIn] at hp
      exact ⟨hp.1, hp.2.2, hp.2.1⟩
theorem wb_tie {ts : List (Int × Int)} {l : List Int} {a b : Int} : Reach (withinL (both ts) l) a b ↔ Reach (tieIn ts l) a b := by
  constructor
  · exact reach_mono fun ⟨x, y⟩ hp => by
      rw [mem_withinL, mem_both] at hp
      rw [mem_tieIn]
      exact hp
  · exact reach_mono fun ⟨x, y⟩ hp => by
      rw [mem_withinL, mem_both]
      rw [mem_tieIn] at hp
      exact hp
section
variable {n : Nat} {as ts : List (Int × Int)} {x : Int} {l fo m : List Int}
theorem step_sub (h : StepG as ts x l fo m) (hx : x ∈ l) : (∀ y ∈ fo, y ∈ l) ∧ (∀ y ∈ m, y ∈ fo) ∧ x ∈ m :=
  ⟨fun y hy => up_in (wt_up.mp ((h.1 y).mp hy)) hx, fun y hy => tie_in (wb_tie.mp ((h.2 y).mp hy)) ((h.1 x).mpr .refl), (h.2 x).mpr .refl⟩
theorem step_keep (h : StepG as ts x l fo m) {k : List Int} (g : Good n as ts x k) (s : ∀ y ∈ k, y ∈ l) : ∀ y ∈ k, y ∈ m := by
  have s1 : ∀ y ∈ k, y ∈ fo := fun y hy => (h.1 y).mpr (wt_up.mpr (up_mono s (g.up y hy)))
  exact fun y hy => (h.2 y).mpr (wb_tie.mpr (tie_mono s1 (g.tie y hy)))
theorem step_fix (h : StepG as ts x l fo l) (lot : Lot n l) (hx : x ∈ l) : Good n as ts x l := by
  obtain ⟨s1, s2, _⟩ := step_sub h hx
  refine ⟨lot, hx, fun y hy => wt_up.mp ((h.1 y).mp (s2 y hy)), fun y hy => ?_⟩
  exact tie_mono s1 (wb_tie.mp ((h.2 y).mp hy))
end
/-- a lot that is barred -/
structure Bar (n : Nat) (as ts : List (Int × Int)) (l : List Int) : Prop where
  lot : Lot n l
  two : 1 < l.length
  hang : hangB ts l = true
  head : headsL as l ≠ []
theorem bar_good {n : Nat} {as ts : List (Int × Int)} {l : List Int} (h : Bar n as ts l) : ∃ x, Good n as ts x l := by
  cases e : headsL as l with
  | nil => exact absurd e h.head
  | cons x t =>
    have hx : x ∈ headsL as l := by rw [e]; exact List.mem_cons_self ..
    obtain ⟨h1, h2⟩ := List.mem_filter.mp hx
    exact ⟨x, h.lot, h1, headB_iff.mp h2, (hang_iff h1).mp h.hang⟩
theorem good_bar {n : Nat} {as ts : List (Int × Int)} {x : Int} {l : List Int} (h : Good n as ts x l) (two : 1 < l.length) : Bar n as ts l := by
  refine ⟨h.lot, two, (hang_iff h.mem).mpr h.tie, fun e => ?_⟩
  have : x ∈ headsL as l := List.mem_filter.mpr ⟨h.mem, headB_iff.mpr h.up⟩
  rw [e] at this
  cases this
/-- plain: all greatest lots are of one thing -/
def PlainP (n : Nat) (as ts : List (Int × Int)) : Prop := ∀ x ∈ things n, (gl n as ts x).length ≤ 1
noncomputable def plainB (n : Nat) (as ts : List (Int × Int)) : Bool := @decide (PlainP n as ts) (Classical.propDecidable _)
theorem plainB_iff {n : Nat} {as ts : List (Int × Int)} : plainB n as ts = true ↔ PlainP n as ts := by
  unfold plainB
  exact @decide_eq_true_iff _ (Classical.propDecidable _)
theorem plain_bars {n : Nat} {as ts : List (Int × Int)} : PlainP n as ts ↔ ∀ l, ¬ Bar n as ts l := by
  constructor
  · intro h l b
    obtain ⟨x, g⟩ := bar_good b
    have := nodup_le (lt_nd g.lot.1) (m := gl n as ts x) (good_sub g)
    have := h x (g.lot.2 x g.mem)
    have := b.two
    omega
  · intro h x hx
    refine Nat.not_lt.mp fun c => h _ (good_bar (gl_good hx) c)
end Tk

namespace Tk
open PySem PySem.Spec PyProof.Rows L2
def spIsBarred (K : PySem.W.Frag) (C : Addr) : Sp := fun vs H Q _ => ∃ (p : Addr) (n : Nat) (as ts : List (Int × Int)) (v : V) (o : Option (List (Option Int))), vs = [.ref p, v] ∧ PlanAt K C H p n as ts ∧ LotV K H v o ∧
  ∀ (H' : Hp) (b : Bool), Same H H' → (b = true ↔ ∃ l, o = some (l.map some) ∧ Bar n as ts l) → Q (.bl b) H'
section
variable {P : Program} {w : World} {K : PySem.W.Frag} {mg : Str → Option Value} {base : Heap}
theorem sc_isBarred : FnScope ["plan", "value"] ["plan", "value"] (defScope sIsBarred) := ⟨rfl, rfl, rfl, by decide +kernel, rfl, by decide +kernel, by decide +kernel⟩
theorem top_non {l : List Int} : decide (topV l = V.non) = decide (l = []) := by
  cases l with
  | nil => simp [topV]
  | cons x l => simp [topV]
theorem ok_isBarred {f f1 f5 f8 f9 C pW gW fA fT : Addr} {fd fd1 fd5 fd8 fd9 fdW fdA fdT : FuncData} (F : Fun K "is_barred" "is_barred" sIsBarred f fd) (M : PlM K mg C pW gW fA fT fdW fdA fdT) (D1 : Df K mg "check_plan" sChkPlan ["plan"] f1 fd1)
    (D5 : Df K mg "is_lot_of" sIsLotOf ["plan", "value"] f5 fd5) (G5 : FnOk P w K mg base CX0 6 f5 fd5 ["plan", "value"] (spIsLotOf K C)) (D8 : Df K mg "head" sHead ["plan", "lot"] f8 fd8) (G8 : FnOk P w K mg base CX0 8 f8 fd8 ["plan", "lot"] (spHead K C))
    (D9 : Df K mg "hangs" sHangs ["plan", "lot"] f9 fd9) (G9 : FnOk P w K mg base CX0 8 f9 fd9 ["plan", "lot"] (spHangs K C)) (B : Bl mg) : FnOk P w K mg base CX0 9 f fd ["plan", "value"] (spIsBarred K C) := by
  have G1 : FnOk P w K mg base CX0 1 f1 fd1 ["plan"] (spChkPlan C) := ok_chkPlan D1.F M.c M.ins B
  refine F.ok sc_isBarred (fun vs H Q E h => ?_) (fun cdv A outer s H vs Q E hr h => ?_)
  · obtain ⟨p, n, as, ts, v, o, rfl, _⟩ := h
    rfl
  · obtain ⟨p, n, as, ts, v, o, rfl, hP, hv, q⟩ := h
    refine ⟨_, pss_cons (ps_expr (pe_call G1 (hr.mono (by decide)) rfl D1.g D1.F.kp D1.b .nil pass0 (pa_cons (pv 0) pa_nil)))
      (pss_cons (ps_if (PW.pt (pw_or (pt_not (pt_val (pe_call G5 (hr.mono (by decide)) rfl D5.g D5.F.kp D5.b .nil pass0 (pa_cons (pv 0) (pa_cons (pv 1) pa_nil)))))
          (pw_or1 (pt_cmpR op_lt (pe_callB call_len_seq (by rfl) B.len PySem.boot_len (pa_cons (pv 1) pa_nil)) pe_int (nomark _))))) (pss_one (ps_ret pe_bl)) pss_nil)
      (pss_one (ps_ret (pe_and (pe_cmpR op_notN (pe_call G8 (hr.mono (by decide)) rfl D8.g D8.F.kp D8.b .nil pass0 (pa_cons (pv 0) (pa_cons (pv 1) pa_nil))) pe_non (nomark _))
          (pe_one (pe_call G9 (hr.mono (by decide)) rfl D9.g D9.F.kp D9.b .nil pass0 (pa_cons (pv 0) (pa_cons (pv 1) pa_nil)))))))), ?_⟩
    obtain ⟨⟨dx, a0, t0, hp, _⟩, _⟩ := id hP
    refine ⟨_, rfl, p, dx, _, rfl, hp, ?_⟩
    refine ⟨_, rfl, _, rfl, p, n, as, ts, v, o, rfl, hP, hv, fun H1 b s1 hb => ?_⟩
    cases b with
    | false =>
      refine ⟨false, rfl, iteT ?_⟩
      refine q H1 false s1 ⟨fun z => (nomatch z), ?_⟩
      rintro ⟨l, e, bar⟩
      exact absurd (hb.mpr ⟨l, e, bar.lot⟩) (by decide)
    | true =>
      obtain ⟨l, rfl, lot⟩ := hb.mp rfl
      refine ⟨true, rfl, iteF ?_⟩
      obtain ⟨a, rfl, hl⟩ : ∃ a, v = .ref a ∧ SqA K H a (l.map V.int) := by
        cases hv with
        | @sq a xs os h e few =>
          refine ⟨a, rfl, ?_⟩
          obtain ⟨m, e1, e2⟩ := each_some e (fun z hz => by
            obtain ⟨i, _, rfl⟩ := List.mem_map.mp hz
            rfl)
          rw [some_inj e2] at *
          rw [e1] at h
          exact h
      refine ⟨_, rfl, a, _, rfl, same_a s1 hl, _, _, rfl, rfl, _, rfl, ?_⟩
      refine ite2 (fun c => ?_) (fun c => ?_)
      · refine q H1 false s1 ⟨fun z => (nomatch z), ?_⟩
        rintro ⟨m, e, bar⟩
        have e' := some_inj (Option.some.inj e)
        subst e'
        have := bar.two
        simp at c
        omega
      · have two : 1 < l.length := by simp at c; omega
        refine ⟨_, rfl, _, rfl, p, a, n, as, ts, l, rfl, plan_s hP s1, same_a s1 hl, lot, fun H2 s2 => ⟨rfl, ?_⟩⟩
        rw [top_non]
        by_cases d : headsL as l = []
        · rw [decide_eq_true d]
          refine ⟨_, rfl, ?_⟩
          refine q H2 false (s1.trans s2) ⟨fun z => (nomatch z), ?_⟩
          rintro ⟨m, e, bar⟩
          have e' := some_inj (Option.some.inj e)
          subst e'
          exact absurd d bar.head
        · rw [decide_eq_false d]
          refine ⟨_, rfl, ?_⟩
          refine ⟨_, rfl, _, rfl, p, a, n, as, ts, l, rfl, plan_s hP (s1.trans s2), same_a (s1.trans s2) hl, lot, fun H3 s3 => ?_⟩
          refine q H3 _ ((s1.trans s2).trans s3) ⟨fun hh => ⟨l, rfl, lot, two, hh, d⟩, ?_⟩
          rintro ⟨m, e, bar⟩
          have e' := some_inj (Option.some.inj e)
          subst e'
          exact bar.hang
end
end Tk

namespace Tk
open PySem PySem.Spec PyProof.Rows L2
/-! ## the law's own draws -/
def PotOk (x y : Int) : Prop := 0 ≤ x ∧ 0 ≤ y ∧ y < 4294967296
/-- all but what stands at a is as it was -/
def SmX (a : Addr) (H H' : Hp) : Prop := ∀ b o, b ≠ a → H b = some o → H' b = some o
theorem SmX.refl (a : Addr) (H : Hp) : SmX a H H := fun _ _ _ h => h
theorem SmX.trans {a : Addr} {H H1 H2 : Hp} (h : SmX a H H1) (g : SmX a H1 H2) : SmX a H H2 := fun b o hb e => g b o hb (h b o hb e)
theorem smx_of {a : Addr} {H H1 : Hp} (h : Same H H1) : SmX a H H1 := fun b o _ e => h b o e
theorem smx_upd {a : Addr} {H : Hp} {o : HO} : SmX a H (upd H a o) := fun b o hb e => by rw [upd_ne hb]; exact e
theorem smx_mut {a p : Addr} {H H' : Hp} {o : HO} (e : SmX a H H') (h : H p = none) : SmX a H (upd H' p o) := by
  intro b u hb hu
  rw [upd_ne (ne_of_none hu h)]
  exact e b u hb hu
theorem smx_free {a p : Addr} {H H' : Hp} (e : SmX a H H') (hp : p ≠ a) (h : H' p = none) : H p = none := by
  cases q : H p with
  | none => rfl
  | some o => rw [e p o hp q] at h; cases h
/-- a pot of draws at a -/
def Pot (H : Hp) (a : Addr) : Prop := ∃ x y, H a = some (.lst [.int x, .int y]) ∧ PotOk x y
theorem smx_l {K : PySem.W.Frag} {a : Addr} {H H' : Hp} {p : Addr} {xs : List V} (e : SmX a H H') (n : p ≠ a) (h : SqL K H p xs) : SqL K H' p xs := by
  rcases h with (h | ⟨o, h⟩) | h
  · exact .inl (.inl (e _ _ n h))
  · exact .inl (.inr ⟨o, e _ _ n h⟩)
  · exact .inr h
theorem smx_t {K : PySem.W.Frag} {a : Addr} {H H' : Hp} {p : Addr} {xs : List V} (pa : Pot H a) (e : SmX a H H') (h : SqT K H p xs) : SqT K H' p xs := by
  obtain ⟨x, y, ha, _⟩ := pa
  rcases h with (h | ⟨o, h⟩) | h
  · exact .inl (.inl (e _ _ (fun q => by rw [q, ha] at h; cases h) h))
  · exact .inl (.inr ⟨o, e _ _ (fun q => by rw [q, ha] at h; cases h) h⟩)
  · exact .inr h
theorem fnok_weak {P : Program} {w : World} {K : PySem.W.Frag} {mg : Str → Option Value} {base : Heap} {cx : CXT} {k : Nat} {f : Addr} {fd : FuncData} {ps : List Str} {sp sp' : Sp} (h : FnOk P w K mg base cx k f fd ps sp) (wk : ∀ vs H Q E, sp' vs H Q E → sp vs H Q E) : FnOk P w K mg base cx k f fd ps sp' :=
  ⟨fun vs H Q E z => h.len vs H Q E (wk _ _ _ _ z), fun A outer s H args us vs Q E r e b v z => h.run A outer s H args us vs Q E r e b v (wk _ _ _ _ z)⟩
def spPot (K : PySem.W.Frag) : Sp := fun vs H Q _ => ∃ (a : Addr) (ns : List Int), vs = [.ref a, .int 0] ∧ SqL K H a (ns.map V.int) ∧
  ∀ (H' : Hp) (p : Addr), Same H H' → H p = none → Pot H' p → Q (.ref p) H'
def spDraw : Sp := fun vs H Q _ => ∃ (a : Addr) (m : Int), vs = [.ref a, .int m] ∧ Pot H a ∧ 0 < m ∧ m < 1073741824 ∧
  ∀ (H' : Hp) (d : Int), SmX a H H' → Pot H' a → 0 ≤ d → d < m → Q (.int d) H'
section
variable {P : Program} {w : World} {K : PySem.W.Frag} {mg : Str → Option Value} {base : Heap}
abbrev nPot : List Str := ["_law_script", "_law_k", "_law_cell"]
theorem sc_pot : FnScope nPot ["_law_script", "_law_k"] (defScope sPot) := ⟨rfl, rfl, rfl, by decide +kernel, rfl, by decide +kernel, by decide +kernel⟩
theorem potok_end (c j : Int) (m : Int) (h0 : 0 < m) (h1 : m < 4294967295) : PotOk (if j > 0 then j else 0) (c % m + 1) := by
  have a := Int.emod_nonneg c (show m ≠ 0 by omega)
  have b := Int.emod_lt_of_pos c h0
  refine ⟨?_, by omega, by omega⟩
  split <;> omega
theorem ok_pot {f : Addr} {fd : FuncData} (F : Fun K "_law_pot" "_law_pot" sPot f fd) (B : Bl mg) : FnOk P w K mg base CX0 1 f fd ["_law_script", "_law_k"] (spPot K) := by
  refine F.ok sc_pot (fun vs H Q E h => ?_) (fun cdv A outer s H vs Q E hr h => ?_)
  · obtain ⟨a, ns, rfl, _⟩ := h
    rfl
  · obtain ⟨a, ns, rfl, ha, q⟩ := h
    refine ⟨_, pss_cons (ps_set (i := 2) sc_pot.nd rfl (Or.inl rfl) (pe_ifExp (pt_cmpR op_lt (pv 1) (pe_callB call_len_seq (by rfl) B.len PySem.boot_len (pa_cons (pv 0) pa_nil)) (nomark _))
          (pe_callB call_abs (by rfl) B.abs PyProof.Rows.boot_abs (pa_cons (pe_ix ix_list (pv 0) (pv 1) (fun _ _ => rfl)) pa_nil))
          (pe_op op_add (pe_op op_mul pe_int (pv 1)) pe_int)))
      (pss_one (ps_ret (pe_lst (pa_cons (pe_callB (call_max2 rfl) (by rfl) B.max PyProof.Rows.boot_max (pa_cons pe_int (pa_cons (pe_op op_sub (pv 2) (pe_op op_pow pe_int pe_int)) pa_nil)))
        (pa_cons (pe_op op_add (pe_op op_mod (pe_callTy call_int1 (by rfl) B.int PyProof.Rows.boot_int (pa_cons (pe_op op_add (pe_op op_add (pe_op op_mul (pe_op op_mod (pe_callTy call_int1 (by rfl) B.int PyProof.Rows.boot_int (pa_cons (pv 2) pa_nil)) pe_int) pe_int) (pe_op op_mul pe_int (pv 1))) pe_int) pa_nil)) pe_int) pe_int) pa_nil))))), ?_⟩
    refine ⟨_, rfl, _, rfl, a, _, rfl, .inl ha, _, _, rfl, rfl, _, rfl, ?_⟩
    refine ite2 (fun hk => ?_) (fun hk => ?_)
    · cases ns with
      | nil => simp at hk
      | cons n ns =>
        refine ⟨_, rfl, _, rfl, a, _, _, _, rfl, rfl, ha, at0, n, rfl, ?_⟩
        refine ⟨_, rfl, _, _, rfl, rfl, ⟨by decide, by decide, by decide⟩, _, _, rfl, rfl, _, _, rfl, ?_⟩
        have b0 := Int.emod_nonneg (if n < 0 then -n else n) (show (2147483543 : Int) ≠ 0 by decide)
        have b1 := Int.emod_lt_of_pos (if n < 0 then -n else n) (show (0 : Int) < 2147483543 by decide)
        refine ⟨_, rfl, .inl ⟨_, rfl, _, _, rfl, rfl, (show (0 : Int) < 2147483543 by decide), _, _, rfl, rfl, .inl ⟨by omega, by omega⟩, _, rfl, _, _, rfl, rfl, .inl ⟨by decide, by decide⟩, _, _, rfl, rfl, _, _, rfl, rfl, .inl ⟨_, rfl, ?_⟩⟩⟩
        refine ⟨_, _, rfl, rfl, (show (0 : Int) < 2147483549 by decide), _, _, rfl, rfl, ?_⟩
        refine ⟨szle (by show 2 ≤ 100000; decide), fun r hr => ?_⟩
        exact q _ r (same_new hr) hr ⟨_, _, upd_same, potok_end _ _ 2147483549 (by decide) (by decide)⟩
    · refine ⟨_, rfl, _, _, rfl, rfl, .inl ⟨by decide, by decide⟩, _, _, rfl, rfl, ?_⟩
      refine ⟨_, rfl, _, _, rfl, rfl, ⟨by decide, by decide, by decide⟩, _, _, rfl, rfl, _, _, rfl, ?_⟩
      refine ⟨_, rfl, .inl ⟨_, rfl, _, _, rfl, rfl, (show (0 : Int) < 2147483543 by decide), _, _, rfl, rfl, .inl ⟨by decide, by decide⟩, _, rfl, _, _, rfl, rfl, .inl ⟨by decide, by decide⟩, _, _, rfl, rfl, _, _, rfl, rfl, .inl ⟨_, rfl, ?_⟩⟩⟩
      refine ⟨_, _, rfl, rfl, (show (0 : Int) < 2147483549 by decide), _, _, rfl, rfl, ?_⟩
      refine ⟨szle (by show 2 ≤ 100000; decide), fun r hr => ?_⟩
      exact q _ r (same_new hr) hr ⟨_, _, upd_same, potok_end _ _ 2147483549 (by decide) (by decide)⟩
abbrev nDraw : List Str := ["_law_pot_here", "_law_size", "_law_digit"]
theorem sc_draw : FnScope nDraw ["_law_pot_here", "_law_size"] (defScope sDraw) := ⟨rfl, rfl, rfl, by decide +kernel, rfl, by decide +kernel, by decide +kernel⟩
theorem at_0 {x y : V} : atI [x, y] (0 : Int) = some x := rfl
theorem at_1 {x y : V} : atI [x, y] (1 : Int) = some y := rfl
theorem ok_draw {f : Addr} {fd : FuncData} (F : Fun K "_law_draw" "_law_draw" sDraw f fd) (B : Bl mg) : FnOk P w K mg base CX0 1 f fd ["_law_pot_here", "_law_size"] spDraw := by
  refine F.ok sc_draw (fun vs H Q E h => ?_) (fun cdv A outer s H vs Q E hr h => ?_)
  · obtain ⟨a, m, rfl, _⟩ := h
    rfl
  · obtain ⟨a, m, rfl, ⟨x, y, ha, hx, hy0, hy1⟩, m0, m1, q⟩ := h
    refine ⟨_, pss_cons (ps_if (pt_cmpR op_gt (pe_ix ix_list (pv 0) pe_int (fun _ _ => rfl)) pe_int (nomark _))
        (pss_cons (ps_asg (pe_callB call_divmod (by rfl) B.divmod PyProof.Rows.boot_divmod (pa_cons (pe_ix ix_list (pv 0) pe_int (fun _ _ => rfl)) (pa_cons (pv 1) pa_nil)))
            (pg_tup rfl (pgs_cons (pg_sub (pv 0) pe_int set_list) (pgs_cons (pg_name (i := 2) sc_draw.nd rfl (Or.inl rfl)) pgs_nil))))
          (pss_one (ps_ret (pv 2)))) pss_nil)
      (pss_cons (ps_asg (pe_op op_mod (pe_callTy call_int1 (by rfl) B.int PyProof.Rows.boot_int (pa_cons (pe_op op_add (pe_op op_mul (pe_ix ix_list (pv 0) pe_int (fun _ _ => rfl)) pe_int) pe_int) pa_nil)) pe_int) (pg_sub (pv 0) pe_int set_list))
      (pss_one (ps_ret (pe_op op_mod (pe_callTy call_int1 (by rfl) B.int PyProof.Rows.boot_int (pa_cons (pe_op op_fdiv (pe_op op_mod (pe_callTy call_int1 (by rfl) B.int PyProof.Rows.boot_int (pa_cons (pe_op op_mul (pe_ix ix_list (pv 0) pe_int (fun _ _ => rfl)) (pe_ix ix_list (pv 0) pe_int (fun _ _ => rfl))) pa_nil)) pe_int) pe_int) pa_nil)) (pv 1))))), ?_⟩
    refine ⟨_, rfl, a, _, _, _, rfl, rfl, sl_of ha, at_0, _, _, rfl, rfl, _, rfl, ?_⟩
    refine ite2 (fun h => ?_) (fun h => ?_)
    · refine ⟨_, rfl, a, _, _, _, rfl, rfl, sl_of ha, at_0, _, rfl, _, _, rfl, ⟨m0, m1⟩, fun t ht => ?_⟩
      have nta : t ≠ a := fun e => by rw [e, ha] at ht; cases ht
      refine ⟨t, _, rfl, st_of upd_same, rfl, _, _, rfl, _, rfl, a, _, _, 0, rfl, rfl, (by rw [upd_ne nta.symm]; exact ha), rfl, _, _, rfl, rfl, ?_⟩
      refine ⟨_, rfl, q _ _ ((smx_of (same_new ht)).trans smx_upd) ⟨_, _, upd_same, ?_, hy0, hy1⟩ (Int.emod_nonneg x (by omega)) (Int.emod_lt_of_pos x m0)⟩
      exact Int.ediv_nonneg hx (by omega)
    · refine ⟨_, rfl, a, _, _, _, rfl, rfl, sl_of ha, at_1, _, _, rfl, rfl, .inl ⟨by omega, by omega⟩, _, _, rfl, rfl, .inl ⟨_, rfl, _, _, rfl, rfl, (show (0 : Int) < 2147483549 by decide), _, rfl, a, _, _, 1, rfl, rfl, ha, rfl, ?_⟩⟩
      have b0 := Int.emod_nonneg (y * 39541 + 6869) (show (2147483549 : Int) ≠ 0 by decide)
      have b1 := Int.emod_lt_of_pos (y * 39541 + 6869) (show (0 : Int) < 2147483549 by decide)
      refine ⟨_, rfl, a, _, _, _, rfl, rfl, sl_of upd_same, at_1, _, rfl, a, _, _, _, rfl, rfl, sl_of upd_same, at_1, _, _, rfl, rfl, .inl ⟨by omega, by omega⟩, .inl ⟨_, rfl, _, _, rfl, rfl, (show (0 : Int) < 2147483543 by decide), _, _, rfl, rfl, ⟨by decide, by decide⟩, .inl ⟨_, rfl, _, rfl, _, _, rfl, rfl, m0, ?_⟩⟩⟩
      exact q _ _ smx_upd ⟨_, _, upd_same, hx, b0, by omega⟩ (Int.emod_nonneg _ (by omega)) (Int.emod_lt_of_pos _ m0)
end
end Tk

namespace Tk
open PySem PySem.Spec PyProof.Rows L2
/-! ## the law's own walks within a lot -/
def freshU (as : List (Int × Int)) (l fo : List Int) (x : Int) : List Int := (as.filter fun p => decide (p.2 = x) && decide (p.1 ∈ l) && !decide (p.1 ∈ fo)).map (·.1)
theorem mem_freshU {as : List (Int × Int)} {l fo : List Int} {x y : Int} : y ∈ freshU as l fo x ↔ (x, y) ∈ upLaw as l ∧ y ∉ fo := by
  rw [mem_upLaw]
  unfold freshU
  simp only [List.mem_map, List.mem_filter, Bool.and_eq_true, decide_eq_true_eq, Bool.not_eq_true', decide_eq_false_iff_not]
  constructor
  · rintro ⟨⟨a, b⟩, ⟨h1, ⟨h2, h3⟩, h4⟩, rfl⟩
    simp at h2
    subst h2
    exact ⟨⟨h1, h3⟩, h4⟩
  · rintro ⟨⟨h1, h2⟩, h3⟩
    exact ⟨(y, x), ⟨h1, ⟨rfl, h2⟩, h3⟩, rfl⟩
theorem freshU_nd {as : List (Int × Int)} (hn : as.Nodup) (l fo : List Int) (x : Int) : (freshU as l fo x).Nodup := by
  unfold freshU
  show List.Pairwise _ _
  rw [List.pairwise_map]
  have h : (as.filter fun p => decide (p.2 = x) && decide (p.1 ∈ l) && !decide (p.1 ∈ fo)).Nodup := hn.filter _
  refine List.Pairwise.imp_of_mem (fun {a b} ha hb hne e => hne ?_) h
  have h1 := (List.mem_filter.mp ha).2
  have h2 := (List.mem_filter.mp hb).2
  simp at h1 h2
  exact Prod.ext e (h1.1.1.trans h2.1.1.symm)
theorem freshU_len (as : List (Int × Int)) (l fo : List Int) (x : Int) : (freshU as l fo x).length ≤ as.length := by
  unfold freshU
  rw [List.length_map]
  exact List.length_filter_le ..
theorem freshU_take {as : List (Int × Int)} {l fo : List Int} {x : Int} {i : Nat} {p : Int × Int} (h : as[i]? = some p) :
    freshU (as.take (i + 1)) l fo x = if p.2 = x ∧ p.1 ∈ l ∧ p.1 ∉ fo then freshU (as.take i) l fo x ++ [p.1] else freshU (as.take i) l fo x := by
  unfold freshU
  rw [take_at h, List.filter_append, List.map_append]
  by_cases c : p.2 = x ∧ p.1 ∈ l ∧ p.1 ∉ fo
  · rw [if_pos c]
    simp [c.1, c.2.1, c.2.2]
  · rw [if_neg c]
    by_cases c1 : p.2 = x
    · by_cases c2 : p.1 ∈ l
      · have c3 : p.1 ∈ fo := Classical.byContradiction fun z => c ⟨c1, c2, z⟩
        simp [c3]
      · simp [c2]
    · simp [c1]
theorem range_up {n : Nat} {as : List (Int × Int)} {l : List Int} (lot : Lot n l) : ∀ p ∈ upLaw as l, p.2 ∈ things n := fun ⟨x, y⟩ hp => lot.2 y (mem_upLaw.mp hp).2
theorem at_nat {l : List Int} {k : Nat} {x : Int} (h : l[k]? = some x) : atI (l.map V.int) ((k : Nat) : Int) = some (V.int x) := atI_nat (by rw [List.getElem?_map, h]; rfl)
def spLeaders (K : PySem.W.Frag) : Sp := fun vs H Q _ => ∃ (a b : Addr) (n : Nat) (as : List (Int × Int)) (l : List Int) (x : Int), vs = [.ref a, .ref b, .int x] ∧ PL K H a as ∧ n ≤ 60 ∧ Prs n as ∧ SqL K H b (l.map V.int) ∧ Lot n l ∧ x ∈ l ∧
  ∀ (H' : Hp) (r : Addr) (ns : List Int), Same H H' → H r = none → H' r = some (.lst (ns.map V.int)) → (ns = l ↔ IsHead as l x) → Q (.ref r) H'
def spHeads (K : PySem.W.Frag) : Sp := fun vs H Q _ => ∃ (a b : Addr) (n : Nat) (as : List (Int × Int)) (l : List Int), vs = [.ref a, .ref b] ∧ PL K H a as ∧ n ≤ 60 ∧ Prs n as ∧ SqL K H b (l.map V.int) ∧ Lot n l ∧
  ∀ (H' : Hp) (r : Addr), Same H H' → H r = none → H' r = some (.lst ((headsL as l).map V.int)) → Q (.ref r) H'
section
variable {P : Program} {w : World} {K : PySem.W.Frag} {mg : Str → Option Value} {base : Heap}
abbrev nLead : List Str := ["_law_arrows", "_law_lot", "_law_thing", "_law_found", "_law_ahead", "_law_one", "_law_other"]
theorem sc_leaders : FnScope nLead ["_law_arrows", "_law_lot", "_law_thing"] (defScope sLeaders) := ⟨rfl, rfl, rfl, by decide +kernel, rfl, by decide +kernel, by decide +kernel⟩
theorem ok_leaders {f : Addr} {fd : FuncData} (F : Fun K "_law_leaders" "_law_leaders" sLeaders f fd) (B : Bl mg) : FnOk P w K mg base CX0 1 f fd ["_law_arrows", "_law_lot", "_law_thing"] (spLeaders K) := by
  refine F.ok sc_leaders (fun vs H Q E h => ?_) (fun cdv A outer s H vs Q E hr h => ?_)
  · obtain ⟨a, b, n, as, l, x, rfl, _⟩ := h
    rfl
  · obtain ⟨a, b, n, as, l, st, rfl, ⟨xs, hxs, hd⟩, hn, hps, hl, lot, xl, q⟩ := h
    refine ⟨_, pss_cons (ps_asg (pe_tup (pa_cons (pe_lst (pa_cons (pv 2) pa_nil)) (pa_cons pe_int pa_nil))) (pg_tup rfl (pgs_cons (pg_name (i := 3) sc_leaders.nd rfl (Or.inr rfl)) (pgs_cons (pg_name (i := 4) sc_leaders.nd rfl (Or.inr rfl)) pgs_nil))))
      (pss_cons (ps_while PassesOwn.never (pt_cmpR op_lt (pv 4) (pe_callB call_len_seq (by rfl) B.len PySem.boot_len (pa_cons (pv 3) pa_nil)) (nomark _))
        (pss_cons (ps_expr (pe_bm PySem.F.plainAttrs_list PySem.F.slot_list_extend PySem.F.type_list_extend mt_extend (pv 3) (pa_cons
          (pe_lc (own := [("_law_one", 5), ("_law_other", 6)]) (g := gTup K 2 (gCons (gName 5) (gCons (gName 6) gNil)))
            (tt := tAnd (tTest (tOp rEq (tVar 6) (tOp (rIxL K) (tVar 3) (tVar 4)))) (tAnd (tTest (tOp (rIn K false) (tVar 5) (tVar 1))) (tTest (tOp (rIn K true) (tVar 5) (tVar 3))))) (te := tVar 5)
            rfl sc_leaders.nd (pi_list (pv 0)) (blkOk_by (N := nLead) (sc := defScope sLeaders) (by decide +kernel))
            (fun _ _ _ _ _ => pg_tup rfl (pgs_cons (pg_name (i := 5) sc_leaders.nd rfl (Or.inl rfl)) (pgs_cons (pg_name (i := 6) sc_leaders.nd rfl (Or.inl rfl)) pgs_nil)))
            (fun _ _ _ _ _ => pts_one (PW.pt (pw_and (pt_cmpR op_eq (pv 6) (pe_ix ix_list (pv 3) (pv 4) (fun _ _ => rfl)) (nomark _)) (pw_and (pt_cmpR op_in_seq (pv 5) (pv 1) (by rfl)) (pw_and1 (pt_cmpR op_notIn_seq (pv 5) (pv 3) (by rfl)))))))
            (fun _ _ _ _ _ => pv 5)) pa_nil)))
        (pss_one (ps_set (i := 4) sc_leaders.nd rfl (Or.inr rfl) (pe_op op_add (pv 4) pe_int)))))
      (pss_one (ps_ret (pe_callB cr_sortedIA (by rfl) B.sorted PyProof.Rows.boot_sorted (pa_cons (pv 3) pa_nil))))), ?_⟩
    have lx : xs.length = as.length := by rw [dps_len hd, List.length_map]
    have few := hps.2.1
    refine ⟨_, rfl, szle (by show 1 ≤ 100000; decide), fun pf hpf => ?_⟩
    refine ⟨szle (by show 2 ≤ 100000; decide), fun pt hpt => ?_⟩
    have nft : pf ≠ pt := fun e => by rw [e, upd_same] at hpt; cases hpt
    refine ⟨pt, _, rfl, st_of upd_same, rfl, _, _, rfl, _, _, rfl, rfl, ?_⟩
    refine ⟨fun m σ H1 => ∃ (fo : List Int) (k : Nat) (v5 v6 : Option V), σ = [some (V.ref a), some (V.ref b), some (V.int st), some (V.ref pf), some (V.int (k : Int)), v5, v6] ∧ Same H H1 ∧ H1 pf = some (.lst (fo.map V.int)) ∧ LInv n (upLaw as l) st fo k ∧ n - k = m,
      ⟨_, [st], 0, none, none, rfl, ?_, ?_, linv_0 (lot.2 st xl), rfl⟩, ?_⟩
    · exact (same_new hpf).trans (same_new hpt)
    · rw [upd_ne nft, upd_same]; rfl
    rintro m σ H1 ⟨fo, k, v5, v6, rfl, s1, hf, inv, rfl⟩
    have lf := linv_len inv
    refine ⟨_, rfl, _, rfl, pf, _, rfl, .inl (sl_of hf), _, _, rfl, rfl, _, rfl, ?_⟩
    refine ite2 (fun c => ?_) (fun c => ?_)
    · have kl : k < fo.length := by simpa using c
      refine ⟨_, fun σ' H' z => z, ?_⟩
      obtain ⟨x, hx⟩ : ∃ x, fo[k]? = some x := ⟨fo[k], List.getElem?_eq_getElem kl⟩
      refine ⟨_, rfl, .inl ⟨rfl, _, sl_of hf⟩, _, rfl, a, rfl, ⟨xs, same_l s1 hxs⟩, fun D hD => ?_⟩
      have hD0 : pf ≠ D := fun e => by rw [← e, hf] at hD; cases hD
      refine lc_list (xs := xs) (LcP H1 D fun i => (freshU (as.take i) l fo x).map V.int) (lcp_0 hD rfl) (fun i H3 _ p => same_l (s1.trans p.1) hxs) ?_ ?_
      · intro i y H3 hy p
        obtain ⟨⟨u, v⟩, t, hpk, rfl, ht⟩ := pl_at (dps_s hd (s1.trans p.1)) hy
        have hk := lt_of_at hpk
        have short : ((freshU (as.take i) l fo x).map V.int).length < 100000 := by
          have h2 := freshU_len (as.take i) l fo x
          rw [List.length_take] at h2
          rw [List.length_map]; omega
        have ft := freshU_take (l := l) (fo := fo) (x := x) hpk
        refine ⟨t, _, rfl, ht, rfl, _, _, rfl, _, _, rfl, rfl, rfl, _, rfl, _, rfl, _, rfl, pf, _, _, _, rfl, rfl, sl_of (p.1 _ _ hf), at_nat hx, rfl, decide (v = x), dec_bl, ?_⟩
        by_cases c1 : v = x
        · rw [decide_eq_true c1]
          refine ⟨_, rfl, _, rfl, b, _, rfl, .inl (same_l (s1.trans p.1) hl), rfl, flat_ints l, _, in_bl, ?_⟩
          by_cases c2 : u ∈ l
          · rw [decide_eq_true c2]
            refine ⟨_, rfl, _, rfl, pf, _, rfl, .inl (sl_of (p.1 _ _ hf)), rfl, flat_ints fo, _, notin_bl, ?_⟩
            by_cases c3 : u ∈ fo
            · rw [decide_eq_true c3]
              refine iteF (lcp_no p ?_)
              rw [ft, if_neg (fun z => z.2.2 c3)]
            · rw [decide_eq_false c3]
              refine ⟨_, rfl, ?_⟩
              refine lcp_put hD p ?_ short
              rw [ft, if_pos ⟨c1, c2, c3⟩, List.map_append]; rfl
          · rw [decide_eq_false c2]
            refine iteF (lcp_no p ?_)
            rw [ft, if_neg (fun z => c2 z.2.1)]
        · rw [decide_eq_false c1]
          refine iteF (lcp_no p ?_)
          rw [ft, if_neg (fun z => c1 z.1)]
      · intro H3 p
        have hD3 : H3 D = some (.lst ((freshU (as.take xs.length) l fo x).map V.int)) := p.2
        rw [take_all lx.symm] at hD3
        have inv2 := linv_more inv hx (freshU_nd hps.1 l fo x) (range_up lot) (fun y => mem_freshU)
        have l2 := linv_len inv2
        rw [List.length_append] at l2
        refine ⟨pf, D, _, _, rfl, rfl, p.1 _ _ hf, hD3, szle (by simp; omega), ?_⟩
        refine ⟨_, rfl, _, _, rfl, rfl, ?_⟩
        refine ⟨n - (k + 1), by omega, fo ++ freshU as l fo x, k + 1, _, _, rfl, ?_, ?_, inv2, rfl⟩
        · exact same_mut (s1.trans p.1) hpf
        · rw [upd_same, List.map_append]
    · have kl : ¬ k < fo.length := by simpa using c
      refine ⟨_, rfl, pf, fo, rfl, .inl (sl_of hf), fun ns r pm so hr0 => ?_⟩
      refine q _ r ns (s1.trans (same_new hr0)) ?_ upd_same ?_
      · exact s1.free hr0
      · rw [met_sorted lot.1 inv.nd (linv_end inv kl) (fun y h => up_in ((up_law xl).mp h) xl) pm so]
        unfold IsHead
        constructor
        · exact fun h y hy => (up_law xl).mp (h y hy)
        · exact fun h y hy => (up_law xl).mpr (h y hy)
theorem sc_heads : FnScope ["_law_arrows", "_law_lot", "_law_thing"] ["_law_arrows", "_law_lot"] (defScope sHeads) := ⟨rfl, rfl, rfl, by decide +kernel, rfl, by decide +kernel, by decide +kernel⟩
theorem headsL_take {as : List (Int × Int)} {l : List Int} {i : Nat} {x : Int} (h : l[i]? = some x) : (l.take (i + 1)).filter (headB as l) = if headB as l x = true then (l.take i).filter (headB as l) ++ [x] else (l.take i).filter (headB as l) := by
  rw [take_at h, List.filter_append]
  by_cases c : headB as l x = true
  · rw [if_pos c, List.filter_cons_of_pos c]; rfl
  · rw [if_neg c, List.filter_cons_of_neg c]; simp
theorem ok_heads {f f1 : Addr} {fd fd1 : FuncData} (F : Fun K "_law_heads" "_law_heads" sHeads f fd) (D1 : Df K mg "_law_leaders" sLeaders ["_law_arrows", "_law_lot", "_law_thing"] f1 fd1) (B : Bl mg) :
    FnOk P w K mg base CX0 2 f fd ["_law_arrows", "_law_lot"] (spHeads K) := by
  have G1 : FnOk P w K mg base CX0 1 f1 fd1 ["_law_arrows", "_law_lot", "_law_thing"] (spLeaders K) := ok_leaders D1.F B
  refine F.ok sc_heads (fun vs H Q E h => ?_) (fun cdv A outer s H vs Q E hr h => ?_)
  · obtain ⟨a, b, n, as, l, rfl, _⟩ := h
    rfl
  · obtain ⟨a, b, n, as, l, rfl, hp, hn, hps, hl, lot, q⟩ := h
    refine ⟨_, pss_one (ps_ret (pe_lc (own := [("_law_thing", 2)]) (g := gName 2)
            (tt := tTest (tOp (rEqD K) (tCall (spLeaders K) [] E0 (tCons (tVar 0) (tCons (tVar 1) (tCons (tVar 2) tNil)))) (tVar 1))) (te := tVar 2)
            rfl sc_heads.nd (pi_list (pv 1)) (blkOk_by (N := ["_law_arrows", "_law_lot", "_law_thing"]) (sc := defScope sHeads) (by decide +kernel))
            (fun _ _ _ _ _ => pg_name (i := 2) sc_heads.nd rfl (Or.inl rfl))
            (fun _ _ _ _ _ => pts_one (pt_cmpR (op_eqD hr.units) (pe_call G1 hr rfl D1.g D1.F.kp D1.b .nil pass0 (pa_cons (pv 0) (pa_cons (pv 1) (pa_cons (pv 2) pa_nil)))) (pv 1) (nomark _)))
            (fun _ _ _ _ _ => pv 2))), ?_⟩
    refine ⟨_, rfl, b, rfl, ⟨_, hl⟩, fun D hD => ?_⟩
    have ll := lot_len lot
    refine lc_list (xs := l.map V.int) (LcP H D fun i => ((l.take i).filter (headB as l)).map V.int) (lcp_0 hD rfl) (fun i H3 _ p => same_l p.1 hl) ?_ ?_
    · intro i y H3 hy p
      obtain ⟨x, hx, rfl⟩ := int_at hy
      have xl : x ∈ l := List.mem_of_getElem? hx
      have short : (((l.take i).filter (headB as l)).map V.int).length < 100000 := by
        have h2 := List.length_filter_le (headB as l) (l.take i)
        rw [List.length_take] at h2
        rw [List.length_map]; omega
      refine ⟨rfl, _, rfl, _, rfl, _, rfl, a, b, n, as, l, x, rfl, pl_s hp p.1, hn, hps, same_l p.1 hl, lot, xl, fun G2 r ns s2 hr0 hr2 key => ?_⟩
      refine ⟨_, rfl, .list (ns.map .int), .list (l.map .int), .lst (sl_of hr2) (dps_ints ns), .lst (same_l (p.1.trans s2) hl) (dps_ints l), shaped_ints _, shaped_ints _, _, rfl, ?_⟩
      rw [eqv_lints]
      have ht := headsL_take (as := as) hx
      refine ite2 (fun c => ?_) (fun c => ?_)
      · have c' : headB as l x = true := headB_iff.mpr (key.mp (by simpa using c))
        refine ⟨_, rfl, lcp_put hD (lcp_s p s2) (by rw [ht, if_pos c', List.map_append]; rfl) short⟩
      · have c' : ¬ headB as l x = true := fun z => c (by simpa using key.mpr (headB_iff.mp z))
        exact lcp_no (lcp_s p s2) (by rw [ht, if_neg c'])
    · intro H3 p
      have hD3 : H3 D = some (.lst (((l.take (l.map V.int).length).filter (headB as l)).map V.int)) := p.2
      rw [take_all (by simp)] at hD3
      exact q H3 D p.1 hD hD3
end
end Tk

namespace Tk
open PySem PySem.Spec PyProof.Rows L2
def one1 (l : List Int) (p : Int × Int) : List (Int × Int) := if p.2 ∈ l then [p] else []
def dnT (l : List Int) (ts : List (Int × Int)) : List (Int × Int) := ts.flatMap fun p => one1 l p ++ one1 l (swp p)
theorem dnT_take {l : List Int} {ts : List (Int × Int)} {i : Nat} {p : Int × Int} (h : ts[i]? = some p) : dnT l (ts.take (i + 1)) = dnT l (ts.take i) ++ one1 l p ++ one1 l (swp p) := by
  unfold dnT
  rw [take_at h, List.flatMap_append]
  simp
theorem dnT_full {l : List Int} {ts : List (Int × Int)} {p : Int × Int} (h : p ∈ tieLaw ts l) : p ∈ dnT l ts := by
  obtain ⟨x, y⟩ := p
  obtain ⟨h1, h2⟩ := mem_tieLaw.mp h
  unfold dnT
  rw [List.mem_flatMap]
  rcases h1 with h1 | h1
  · refine ⟨(x, y), h1, List.mem_append_left _ ?_⟩
    unfold one1
    rw [if_pos h2]; simp
  · refine ⟨(y, x), h1, List.mem_append_right _ ?_⟩
    unfold one1
    rw [if_pos (show (swp (y, x)).2 ∈ l from h2)]
    simp [swp]
theorem hinv_len {n : Nat} {ps : List (Int × Int)} {st x : Int} {fo0 fo : List Int} {dn : List (Int × Int)} (h : HInv n ps st x fo0 fo dn) : fo.length ≤ n := by
  have := nodup_le h.nd (m := things n) (fun x hx => h.th x hx)
  rw [things_len] at this
  exact this
/-- one of the two looks at a tie -/
theorem half {K : PySem.W.Frag} {D : Ends} {σ : L2.St} {G : Hp} {i k : Nat} {T : String} {b pf : Addr} {n ka : Nat} {ps dn : List (Int × Int)} {st x u v : Int} {fo0 fo1 l : List Int}
    (h1 : σ[1]? = some (some (.ref b))) (h3 : σ[3]? = some (some (.ref pf))) (h4 : σ[4]? = some (some (.int (ka : Int)))) (hi : σ[i]? = some (some (.int u))) (hk : σ[k]? = some (some (.int v)))
    (hl : SqL K G b (l.map V.int)) (hf : G pf = some (.lst (fo1.map V.int))) (e0 : fo0[ka]? = some x) (inv : HInv n ps st x fo0 fo1 dn) (hx : Reach ps st x) (hn : n ≤ 60)
    (hp : v ∈ l → (u, v) ∈ ps) (lv : ∀ y ∈ l, y ∈ things n) (hT : T = "list")
    (q : ∀ (G' : Hp) (fo2 : List Int), (G' = G ∨ ∃ o, G' = upd G pf o) → G' pf = some (.lst (fo2.map V.int)) → HInv n ps st x fo0 fo2 (dn ++ one1 l (u, v)) → D.nx σ G') :
    tIfS (tAnd (tTest (tOp rEq (tVar i) (tOp (rIxL K) (tVar 3) (tVar 4)))) (tAnd (tTest (tOp (rIn K false) (tVar k) (tVar 1))) (tTest (tOp (rIn K true) (tVar k) (tVar 3)))))
      (tDrop (tBM K T rAppend (tVar 3) (tCons (tVar k) tNil))) tNext D σ G := by
  subst hT
  have at1 : fo1[ka]? = some x := pre_at inv.pre e0
  have few := hinv_len inv
  refine ⟨_, hi, _, h3, _, h4, pf, _, _, _, rfl, rfl, sl_of hf, at_nat at1, rfl, decide (u = x), dec_bl, ?_⟩
  by_cases c1 : u = x
  · rw [decide_eq_true c1]
    refine ⟨_, hk, _, h1, b, _, rfl, .inl hl, rfl, flat_ints l, _, in_bl, ?_⟩
    by_cases c2 : v ∈ l
    · rw [decide_eq_true c2]
      have eo : one1 l (u, v) = [(u, v)] := if_pos c2
      rw [eo] at q
      refine ⟨_, hk, _, h3, pf, _, rfl, .inl (sl_of hf), rfl, flat_ints fo1, _, notin_bl, ?_⟩
      by_cases c3 : v ∈ fo1
      · rw [decide_eq_true c3]
        exact iteF (q G fo1 (.inl rfl) hf (hinv_no inv fun _ => c3))
      · rw [decide_eq_false c3]
        refine ⟨_, h3, .inl ⟨rfl, _, sl_of hf⟩, _, hk, pf, _, _, rfl, rfl, hf, szlt (by rw [List.length_map]; omega), ?_⟩
        refine q _ (fo1 ++ [v]) (.inr ⟨_, rfl⟩) (by rw [upd_same, List.map_append]; rfl) ?_
        have := hinv_put inv hx (y := v) (by rw [← c1]; exact hp c2) (lv v c2) c3
        rw [← c1] at this
        rw [← c1]
        exact this
    · rw [decide_eq_false c2]
      have eo : one1 l (u, v) = [] := if_neg c2
      rw [eo, List.append_nil] at q
      exact iteF (q G fo1 (.inl rfl) hf inv)
  · rw [decide_eq_false c1]
    refine iteF (q G fo1 (.inl rfl) hf ?_)
    unfold one1
    by_cases c2 : v ∈ l
    · rw [if_pos c2]
      exact hinv_no inv fun e => absurd e c1
    · rw [if_neg c2, List.append_nil]
      exact inv
theorem range_tie {n : Nat} {ts : List (Int × Int)} {l : List Int} (lot : Lot n l) : ∀ p ∈ tieLaw ts l, p.2 ∈ things n := fun ⟨x, y⟩ hp => lot.2 y (mem_tieLaw.mp hp).2
def spHungX (K : PySem.W.Frag) : Sp := fun vs H Q _ => ∃ (a b : Addr) (n : Nat) (ts : List (Int × Int)) (l : List Int) (x : Int), vs = [.ref a, .ref b, .int x] ∧ PL K H a ts ∧ n ≤ 60 ∧ SqL K H b (l.map V.int) ∧ Lot n l ∧ x ∈ l ∧
  ∀ (H' : Hp) (r : Addr) (ns : List Int), Same H H' → H r = none → H' r = some (.lst (ns.map V.int)) → (ns = l ↔ ∀ y ∈ l, Reach (tieIn ts l) x y) → (∀ y, y ∈ ns ↔ Reach (tieIn ts l) x y) → Q (.ref r) H'
def spHung (K : PySem.W.Frag) : Sp := fun vs H Q _ => ∃ (a b : Addr) (n : Nat) (ts : List (Int × Int)) (l : List Int) (x : Int), vs = [.ref a, .ref b, .int x] ∧ PL K H a ts ∧ n ≤ 60 ∧ SqL K H b (l.map V.int) ∧ Lot n l ∧ x ∈ l ∧
  ∀ (H' : Hp) (r : Addr) (ns : List Int), Same H H' → H r = none → H' r = some (.lst (ns.map V.int)) → (ns = l ↔ ∀ y ∈ l, Reach (tieIn ts l) x y) → Q (.ref r) H'
def spLHangs (K : PySem.W.Frag) : Sp := fun vs H Q _ => ∃ (a b : Addr) (n : Nat) (ts : List (Int × Int)) (l : List Int), vs = [.ref a, .ref b] ∧ PL K H a ts ∧ n ≤ 60 ∧ SqL K H b (l.map V.int) ∧ Lot n l ∧
  ∀ (H' : Hp), Same H H' → Q (.bl (hangB ts l)) H'
section
variable {P : Program} {w : World} {K : PySem.W.Frag} {mg : Str → Option Value} {base : Heap}
abbrev nHung : List Str := ["_law_ties", "_law_lot", "_law_thing", "_law_found", "_law_ahead", "_law_one", "_law_other"]
theorem sc_hung : FnScope nHung ["_law_ties", "_law_lot", "_law_thing"] (defScope sHung) := ⟨rfl, rfl, rfl, by decide +kernel, rfl, by decide +kernel, by decide +kernel⟩
theorem ok_hungX {f : Addr} {fd : FuncData} (F : Fun K "_law_hung" "_law_hung" sHung f fd) (B : Bl mg) : FnOk P w K mg base CX0 1 f fd ["_law_ties", "_law_lot", "_law_thing"] (spHungX K) := by
  refine F.ok sc_hung (fun vs H Q E h => ?_) (fun cdv A outer s H vs Q E hr h => ?_)
  · obtain ⟨a, b, n, as, l, x, rfl, _⟩ := h
    rfl
  · obtain ⟨a, b, n, ts, l, st, rfl, ⟨xs, hxs, hd⟩, hn, hl, lot, xl, q⟩ := h
    refine ⟨_, pss_cons (ps_par (i := 3) (j := 4) rfl sc_hung.nd rfl rfl (by decide) rfl rfl (pa_cons (pe_lst (pa_cons (pv 2) pa_nil)) (pa_cons pe_int pa_nil)) (by rfl))
      (pss_cons (ps_while PassesOwn.never (pt_cmpR op_lt (pv 4) (pe_callB call_len_seq (by rfl) B.len PySem.boot_len (pa_cons (pv 3) pa_nil)) (nomark _))
        (pss_cons (ps_for PassesOwn.never rfl (pi_list (pv 0)) (pg_tup rfl (pgs_cons (pg_name (i := 5) sc_hung.nd rfl (Or.inl rfl)) (pgs_cons (pg_name (i := 6) sc_hung.nd rfl (Or.inl rfl)) pgs_nil)))
          (pss_cons (ps_if (PW.pt (pw_and (pt_cmpR op_eq (pv 5) (pe_ix ix_list (pv 3) (pv 4) (fun _ _ => rfl)) (nomark _)) (pw_and (pt_cmpR op_in_seq (pv 6) (pv 1) (by rfl)) (pw_and1 (pt_cmpR op_notIn_seq (pv 6) (pv 3) (by rfl))))))
              (pss_one (ps_expr (pe_bm PySem.F.plainAttrs_list PySem.F.slot_list_append PySem.F.type_list_append mt_append (pv 3) (pa_cons (pv 6) pa_nil)))) pss_nil)
          (pss_one (ps_if (PW.pt (pw_and (pt_cmpR op_eq (pv 6) (pe_ix ix_list (pv 3) (pv 4) (fun _ _ => rfl)) (nomark _)) (pw_and (pt_cmpR op_in_seq (pv 5) (pv 1) (by rfl)) (pw_and1 (pt_cmpR op_notIn_seq (pv 5) (pv 3) (by rfl))))))
              (pss_one (ps_expr (pe_bm PySem.F.plainAttrs_list PySem.F.slot_list_append PySem.F.type_list_append mt_append (pv 3) (pa_cons (pv 5) pa_nil)))) pss_nil))))
        (pss_one (ps_set (i := 4) sc_hung.nd rfl (Or.inl rfl) (pe_op op_add (pv 4) pe_int)))))
      (pss_one (ps_ret (pe_callB cr_sortedIA (by rfl) B.sorted PyProof.Rows.boot_sorted (pa_cons (pv 3) pa_nil))))), ?_⟩
    have lx : xs.length = ts.length := by rw [dps_len hd, List.length_map]
    refine ⟨_, rfl, szle (by show 1 ≤ 100000; decide), fun pf hpf => ?_⟩
    refine ⟨_, _, rfl, ?_⟩
    refine ⟨fun m σ H1 => ∃ (fo : List Int) (k : Nat) (v5 v6 : Option V), σ = [some (V.ref a), some (V.ref b), some (V.int st), some (V.ref pf), some (V.int (k : Int)), v5, v6] ∧ Same H H1 ∧ H1 pf = some (.lst (fo.map V.int)) ∧ LInv n (tieLaw ts l) st fo k ∧ n - k = m,
      ⟨_, [st], 0, none, none, rfl, ?_, ?_, linv_0 (lot.2 st xl), rfl⟩, ?_⟩
    · exact same_new hpf
    · rw [upd_same]; rfl
    rintro m σ H1 ⟨fo, k, v5, v6, rfl, s1, hf, inv, rfl⟩
    have lf := linv_len inv
    refine ⟨_, rfl, _, rfl, pf, _, rfl, .inl (sl_of hf), _, _, rfl, rfl, _, rfl, ?_⟩
    refine ite2 (fun c => ?_) (fun c => ?_)
    · have kl : k < fo.length := by simpa using c
      refine ⟨_, fun σ' H' z => z, ?_⟩
      obtain ⟨x, hx⟩ : ∃ x, fo[k]? = some x := ⟨fo[k], List.getElem?_eq_getElem kl⟩
      have rx : Reach (tieLaw ts l) st x := inv.re x (List.mem_of_getElem? hx)
      refine ⟨_, rfl, a, rfl, ⟨xs, same_l s1 hxs⟩, for_list (K := K) (a := a) (xs := xs) (fun j σ G => ∃ (fo1 : List Int) (v5 v6 : Option V), σ = [some (V.ref a), some (V.ref b), some (V.int st), some (V.ref pf), some (V.int (k : Int)), v5, v6] ∧ Same H G ∧ G pf = some (.lst (fo1.map V.int)) ∧
        HInv n (tieLaw ts l) st x fo fo1 (dnT l (ts.take j))) ⟨fo, v5, v6, rfl, s1, hf, hinv_0 inv⟩ (fun _ _ _ _ z => by obtain ⟨_, _, _, _, z, _⟩ := z; exact same_l z hxs) ?_ ?_⟩
      · rintro j y σ G hy ⟨fo1, v5, v6, rfl, sG, hf1, hi⟩
        obtain ⟨⟨u, v⟩, t, hpk, rfl, ht⟩ := pl_at (dps_s hd sG) hy
        have mem : (u, v) ∈ ts := List.mem_of_getElem? hpk
        refine ⟨t, _, rfl, ht, rfl, _, _, rfl, _, _, rfl, rfl, ?_⟩
        refine half (b := b) (pf := pf) (ka := k) (u := u) (v := v) rfl rfl rfl rfl rfl (same_l sG hl) hf1 hx hi rx hn (fun hv => mem_tieLaw.mpr ⟨.inl mem, hv⟩) lot.2 rfl ?_
        intro G2 fo2 e2 hf2 hi2
        have s2 : Same H G2 := by
          rcases e2 with rfl | ⟨o, rfl⟩
          · exact sG
          · exact same_mut sG hpf
        refine half (b := b) (pf := pf) (ka := k) (u := v) (v := u) rfl rfl rfl rfl rfl (same_l s2 hl) hf2 hx hi2 rx hn (fun hv => mem_tieLaw.mpr ⟨.inr mem, hv⟩) lot.2 rfl ?_
        intro G3 fo3 e3 hf3 hi3
        have s3 : Same H G3 := by
          rcases e3 with rfl | ⟨o, rfl⟩
          · exact s2
          · exact same_mut s2 hpf
        refine ⟨fo3, _, _, rfl, s3, hf3, ?_⟩
        rw [dnT_take hpk]
        exact hi3
      · rintro σ G ⟨fo1, v5, v6, rfl, sG, hf1, hi⟩
        rw [take_all lx.symm] at hi
        have inv2 := hinv_end inv hx hi (fun p hp _ => dnT_full hp)
        refine ⟨_, rfl, _, _, rfl, rfl, ?_⟩
        have l2 := linv_len inv2
        have kl2 := inv2.kl
        exact ⟨n - (k + 1), by omega, fo1, k + 1, _, _, rfl, sG, hf1, inv2, rfl⟩
    · have kl : ¬ k < fo.length := by simpa using c
      refine ⟨_, rfl, pf, fo, rfl, .inl (sl_of hf), fun ns r pm so hr0 => ?_⟩
      refine q _ r ns (s1.trans (same_new hr0)) ?_ upd_same ?_ (fun y => by rw [pm.mem_iff, linv_end inv kl y]; exact tie_law xl)
      · exact s1.free hr0
      · rw [met_sorted lot.1 inv.nd (linv_end inv kl) (fun y h => tie_in ((tie_law xl).mp h) xl) pm so]
        constructor
        · exact fun h y hy => (tie_law xl).mp (h y hy)
        · exact fun h y hy => (tie_law xl).mpr (h y hy)
theorem ok_hung {f : Addr} {fd : FuncData} (F : Fun K "_law_hung" "_law_hung" sHung f fd) (B : Bl mg) : FnOk P w K mg base CX0 1 f fd ["_law_ties", "_law_lot", "_law_thing"] (spHung K) :=
  fnok_weak (ok_hungX F B) fun vs H Q E ⟨a, b, n, ts, l, x, h1, h2, h3, h4, h5, h6, q⟩ => ⟨a, b, n, ts, l, x, h1, h2, h3, h4, h5, h6, fun H' r ns g1 g2 g3 g4 _ => q H' r ns g1 g2 g3 g4⟩
theorem eqv_lnil (l : List Int) : PyData.eqv (.list (l.map .int)) (.list []) = decide (l = []) := by
  have := @eqv_lints l []
  exact this
theorem sc_lhangs : FnScope ["_law_ties", "_law_lot"] ["_law_ties", "_law_lot"] (defScope sLHangs) := ⟨rfl, rfl, rfl, by decide +kernel, rfl, by decide +kernel, by decide +kernel⟩
theorem ok_lhangs {f f1 : Addr} {fd fd1 : FuncData} (F : Fun K "_law_hangs" "_law_hangs" sLHangs f fd) (D1 : Df K mg "_law_hung" sHung ["_law_ties", "_law_lot", "_law_thing"] f1 fd1) (B : Bl mg) :
    FnOk P w K mg base CX0 2 f fd ["_law_ties", "_law_lot"] (spLHangs K) := by
  have G1 : FnOk P w K mg base CX0 1 f1 fd1 ["_law_ties", "_law_lot", "_law_thing"] (spHung K) := ok_hung D1.F B
  refine F.ok sc_lhangs (fun vs H Q E h => ?_) (fun cdv A outer s H vs Q E hr h => ?_)
  · obtain ⟨a, b, n, as, l, rfl, _⟩ := h
    rfl
  · obtain ⟨a, b, n, ts, l, rfl, hp, hn, hl, lot, q⟩ := h
    refine ⟨_, pss_one (ps_ret (pe_or (pe_cmpR (op_eqD hr.units) (pv 1) (pe_lst pa_nil) (nomark _))
      (pe_one (pe_cmpR (op_eqD hr.units) (pe_call G1 hr rfl D1.g D1.F.kp D1.b .nil pass0 (pa_cons (pv 0) (pa_cons (pv 1) (pa_cons (pe_ix ix_list (pv 1) pe_int (fun _ _ => rfl)) pa_nil)))) (pv 1) (nomark _))))), ?_⟩
    refine ⟨_, rfl, szle (by decide), fun z hz => ?_⟩
    have s1 : Same H (upd H z (.lst [])) := same_new hz
    refine ⟨.list (l.map .int), .list [], .lst (same_l s1 hl) (dps_ints l), .lst (sl_of upd_same) .nil, shaped_ints _, by rfl, _, rfl, ?_⟩
    rw [eqv_lnil]
    cases l with
    | nil =>
      have : hangB ts [] = true := hangB_iff.mpr trivial
      have q' := q _ s1
      rw [this] at q'
      exact q'
    | cons x l0 =>
      refine iteF ?_
      generalize hL : x :: l0 = l at *
      have xl : x ∈ l := by rw [← hL]; exact List.mem_cons_self ..
      have ix : atI (l.map V.int) (0 : Int) = some (V.int x) := by rw [← hL]; exact at0
      refine ⟨_, rfl, _, rfl, _, rfl, b, _, _, _, rfl, rfl, same_l s1 hl, ix, ?_⟩
      refine ⟨a, b, n, ts, l, x, rfl, pl_s hp s1, hn, same_l s1 hl, lot, xl, fun G2 r ns s2 hr0 hr2 key => ?_⟩
      refine ⟨_, rfl, .list (ns.map .int), .list (l.map .int), .lst (sl_of hr2) (dps_ints ns), .lst (same_l (s1.trans s2) hl) (dps_ints l), shaped_ints _, shaped_ints _, ?_⟩
      rw [eqv_lints]
      have e : decide (ns = l) = hangB ts l := by
        by_cases c : hangB ts l = true
        · rw [c]
          have hg := hangB_iff.mp c
          refine decide_eq_true (key.mpr ?_)
          rw [← hL] at hg ⊢
          exact hg
        · have c' : hangB ts l = false := by simpa using c
          rw [c']
          refine decide_eq_false fun z => c (hangB_iff.mpr ?_)
          have := key.mp z
          rw [← hL] at this ⊢
          exact this
      rw [e]
      exact q G2 (s1.trans s2)
end
end Tk

namespace Tk
open PySem PySem.Spec PyProof.Rows L2
/-! ## sorted, of lists of ints -/
section
open PySem.W
variable {X : Cx}
def rSortedR (K : PySem.W.Frag) : List V → Hp → VK → Prop := fun vs H Q => ∃ (a : Addr) (xs : List V) (os : List (List Int)), vs = [V.ref a] ∧ SqL K H a xs ∧ LsAt H xs os ∧
  ∀ (ys : List V) (os' : List (List Int)) (p : Addr), os'.Perm os → os'.Pairwise (· ≤ ·) → LsAt H ys os' → (∀ y ∈ ys, y ∈ xs) → H p = none → Q (.ref p) (upd H p (.lst ys))
theorem ls_zip {G : Hp} : ∀ {xs : List V} {os : List (List Int)}, LsAt G xs os → xs = (xs.zip os).map Prod.fst ∧ os = (xs.zip os).map Prod.snd ∧ ∀ b ∈ xs.zip os, ∃ r : Addr, b.1 = .ref r ∧ G r = some (.lst (b.2.map V.int))
  | [], [], _ => ⟨rfl, rfl, fun _ h => nomatch h⟩
  | x :: xs, o :: os, ⟨h1, h3⟩ => by
    obtain ⟨a, b, c⟩ := ls_zip h3
    refine ⟨by simp only [List.zip_cons_cons, List.map_cons]; rw [← a], by simp only [List.zip_cons_cons, List.map_cons]; rw [← b], fun z hz => ?_⟩
    simp only [List.zip_cons_cons] at hz
    rcases List.mem_cons.mp hz with e | e
    · rw [e]; exact h1
    · exact c z e
  | [], _ :: _, h => h.elim
  | _ :: _, [], h => h.elim
theorem ls_of {G : Hp} : ∀ {bs : List (V × List Int)}, (∀ b ∈ bs, ∃ r : Addr, b.1 = .ref r ∧ G r = some (.lst (b.2.map V.int))) → LsAt G (bs.map Prod.fst) (bs.map Prod.snd)
  | [], _ => trivial
  | b :: bs, h => ⟨h b (List.mem_cons_self ..), ls_of fun c hc => h c (List.mem_cons_of_mem _ hc)⟩
theorem each_vals : ∀ {bs : List (V × List Int)} {us : List Value}, Vals (bs.map Prod.fst) us → EachIs (fun (v : Value) (b : V × List Int) => RelV b.1 v) us bs
  | [], _, h => by cases h; exact .nil
  | b :: bs, _, h => by
    cases h with
    | cons h1 h2 => exact .cons h1 (each_vals h2)
theorem vals_each : ∀ {bs : List (V × List Int)} {us : List Value}, EachIs (fun (v : Value) (b : V × List Int) => RelV b.1 v) us bs → Vals (bs.map Prod.fst) us
  | _, _, .nil => .nil
  | _, _, .cons h1 h2 => .cons h1 (vals_each h2)
theorem cr_sortedR (hu : X.A.units + 64 < cLine) : CallR X (.builtin "sorted") (rSortedR X.K) := by
  intro pins s σ H vs us Q I r h
  obtain ⟨a, xs, os, rfl, hs, ls, q⟩ := h
  obtain ⟨its, rv, hl, hz⟩ := I.list hs
  rw [Vals.ref1 r]
  obtain ⟨e1, e2, e3⟩ := ls_zip ls
  generalize xs.zip os = bs at e1 e2 e3
  subst e1
  subst e2
  have each := each_vals rv
  have reads : EachIs (fun (v : Value) (b : V × List Int) => ∃ as, Reads s.heap v (PyData.list (b.2.map .int)) as) its bs := by
    clear q hs ls hl hz r
    induction each with
    | nil => exact .nil
    | @cons v b vs' bs' h1 h2 ih =>
      refine .cons ?_ (ih (fun c hc => e3 c (List.mem_cons_of_mem _ hc)) (by cases rv with | cons _ r2 => exact r2))
      obtain ⟨r0, er, hr⟩ := e3 b (List.mem_cons_self ..)
      rw [er] at h1
      exact Dp.reads I _ (.ref r0) v (.lst (sl_of hr) (dps_ints b.2)) h1
  refine sorted_data (enc := fun b : V × List Int => PyData.list (b.2.map .int)) (R := fun (v : Value) (b : V × List Int) => RelV b.1 v) hl.isList each reads (AllAlike.of fun b b' => by simp [alike, alike_ints]) (Sortable.others fun b => ⟨by simp, by simp⟩) (by rw [List.length_map] at hz; exact hz) (fun b hb => ?_) fun out hlen ho => ?_
  · have : PyData.depth (PyData.list (b.2.map .int)) ≤ 1 := by rw [PyData.depth, depth_ints]; exact Nat.le_refl _
    omega
  · rw [dataLe_rows (fun b : V × List Int => b.2)] at ho
    obtain ⟨ep, he'⟩ := PyProof.Rows.sortedAll_at s.heap its out.toArray
    have vo := vals_each ho
    generalize hbs : bs.mergeSort (fun p q => decide (p.2 ≤ q.2)) = bs' at ho vo
    have pm : bs'.Perm bs := by rw [← hbs]; exact List.mergeSort_perm ..
    have srt : bs'.Pairwise (fun p q => decide (p.2 ≤ q.2) = true) := by
      rw [← hbs]
      refine List.pairwise_mergeSort (fun a b c h1 h2 => ?_) (fun a b => ?_) bs
      · simp only [decide_eq_true_eq] at h1 h2 ⊢
        exact List.le_trans h1 h2
      · simp only [Bool.or_eq_true, decide_eq_true_eq]
        exact List.le_total _ _
    refine ⟨.ref _, upd H (s.heap.objs.size + 1) (.lst (bs'.map Prod.fst)), I.laid (t' := s.toks) (fun _ _ => PyProof.Rows.sortedAll_old) (Nat.le_succ _) ⟨by rw [List.length_map, pm.length_eq]; rw [List.length_map] at hz; exact hz, out, ep, vo, he'⟩, rfl, ?_⟩
    refine q _ (bs'.map Prod.snd) _ (pm.map _) ?_ (ls_of fun b hb => e3 b (pm.mem_iff.mp hb)) (fun y hy => ?_) (I.hok.fresh (Nat.le_succ _))
    · rw [List.pairwise_map]
      exact srt.imp fun h => of_decide_eq_true h
    · obtain ⟨b, hb, rfl⟩ := List.mem_map.mp hy
      exact List.mem_map.mpr ⟨b, pm.mem_iff.mp hb, rfl⟩
end
theorem perm_erase {α : Type} : ∀ {l : List α} {i : Nat} (h : i < l.length), ([l[i]] ++ l.eraseIdx i).Perm l
  | [], _, h => by simp at h
  | x :: l, 0, _ => by simp
  | x :: l, i + 1, h => by
    have ih := perm_erase (l := l) (i := i) (by simpa using h)
    simp only [List.getElem_cons_succ, List.eraseIdx_cons_succ]
    refine List.Perm.trans (List.Perm.swap x _ _) ?_
    exact List.Perm.cons x ih

/-! ## all lots, a drawn order -/
def FreshA (H : Hp) (D : Addr) (xs : List V) : Prop := ∀ x ∈ xs, ∃ r : Addr, x = .ref r ∧ H r = none ∧ r ≠ D
def spLots : Sp := fun vs H Q _ => ∃ n : Nat, vs = [.int n] ∧ n ≤ 5 ∧
  ∀ (H' : Hp) (r : Addr) (xs : List V) (os : List (List Int)), Same H H' → H r = none → H' r = some (.lst xs) → LsAt H' xs os → (∀ x ∈ xs, ∃ q : Addr, x = .ref q ∧ H q = none) → os.Perm (allLots n) → os.Pairwise (· ≤ ·) → Q (.ref r) H'
def spOrder : Sp := fun vs H Q _ => ∃ (a : Addr) (n : Nat), vs = [.ref a, .int n] ∧ Pot H a ∧ n ≤ 60 ∧
  ∀ (H' : Hp) (p : Addr) (o : List Int), SmX a H H' → Pot H' a → H p = none → p ≠ a → H' p = some (.lst (o.map V.int)) → o.Perm (things n) → Q (.ref p) H'
theorem ints_of {ys : List V} {l : List Int} (h : ys.Perm (l.map V.int)) : ∃ o : List Int, ys = o.map V.int ∧ o.Perm l := by
  refine ⟨ys.map (fun v => match v with | .int i => i | _ => 0), ?_, ?_⟩
  · rw [List.map_map]
    refine (List.map_id ys).symm.trans (List.map_congr_left fun v hv => ?_)
    obtain ⟨i, _, rfl⟩ := List.mem_map.mp (h.mem_iff.mp hv)
    rfl
  · have := h.map (fun v => match v with | V.int i => i | _ => 0)
    rw [List.map_map] at this
    have e : ((fun v => match v with | V.int i => i | _ => 0) ∘ V.int) = (id : Int → Int) := by funext z; rfl
    rw [e, List.map_id] at this
    exact this
theorem pow5 {k : Nat} (h : k ≤ 5) : 2 ^ k ≤ 32 := Nat.le_trans (Nat.pow_le_pow_right (by decide) h) (by decide)
section
variable {P : Program} {w : World} {K : PySem.W.Frag} {mg : Str → Option Value} {base : Heap}
abbrev nLots : List Str := ["_law_many", "_law_found", "_law_thing", "_law_lot"]
theorem sc_lots : FnScope nLots ["_law_many"] (defScope sLots) := ⟨rfl, rfl, rfl, by decide +kernel, rfl, by decide +kernel, by decide +kernel⟩
theorem ok_lots {f : Addr} {fd : FuncData} (F : Fun K "_law_lots" "_law_lots" sLots f fd) (B : Bl mg) : FnOk P w K mg base CX0 1 f fd ["_law_many"] spLots := by
  refine F.ok sc_lots (fun vs H Q E h => ?_) (fun cdv A outer s H vs Q E hr h => ?_)
  · obtain ⟨n, rfl, _⟩ := h
    rfl
  · obtain ⟨n, rfl, n5, q⟩ := h
    refine ⟨_, pss_cons (ps_set (i := 1) sc_lots.nd rfl (Or.inl rfl) (pe_lst (pa_cons (pe_lst pa_nil) pa_nil)))
      (pss_cons (ps_for PassesOwn.never rfl (pi_range1 rfl B.range (pa_cons (pv 0) pa_nil)) (pg_name (i := 2) sc_lots.nd rfl (Or.inr rfl))
        (pss_one (ps_set (i := 1) sc_lots.nd rfl (Or.inl rfl) (pe_op op_cat (pv 1) (pe_lc (own := [("_law_lot", 3)]) (g := gName 3) (tt := tYes) (te := tOp rCat (tVar 3) (tLst (tCons (tVar 2) tNil))) rfl sc_lots.nd (pi_list (pv 1)) (blkOk_by (N := nLots) (sc := defScope sLots) (by decide +kernel))
            (fun _ _ _ _ _ => pg_name (i := 3) sc_lots.nd rfl (Or.inl rfl)) (fun _ _ _ _ _ => pts_nil)
            (fun _ _ _ _ _ => pe_op op_cat (pv 3) (pe_lst (pa_cons (pv 2) pa_nil))))))))
      (pss_one (ps_ret (pe_callB (cr_sortedR hr.units) (by rfl) B.sorted PyProof.Rows.boot_sorted (pa_cons (pv 1) pa_nil))))), ?_⟩
    refine ⟨szle (by decide), fun e he => ⟨szle (by show 1 ≤ 100000; decide), fun p0 hp0 => ?_⟩⟩
    have nep : e ≠ p0 := fun z => by rw [← z, upd_same] at hp0; cases hp0
    refine ⟨_, rfl, n, rfl, by omega, by omega, for_range (lo := 0) (n := ((n : Nat) : Int).toNat) (fun k σ G => ∃ (pf : Addr) (xs : List V) (v2 v3 : Option V), σ = [some (V.int n), some (V.ref pf), v2, v3] ∧ Same H G ∧ G pf = some (.lst xs) ∧ LsAt G xs (allLots k) ∧ ∀ x ∈ xs, ∃ q : Addr, x = .ref q ∧ H q = none)
      ⟨p0, [.ref e], none, none, rfl, (same_new he).trans (same_new hp0), upd_same, ⟨⟨e, rfl, by rw [upd_ne nep, upd_same]; rfl⟩, trivial⟩, fun x hx => ⟨e, List.mem_singleton.mp hx, he⟩⟩ ?_ ?_⟩
    · rintro k σ G hk ⟨pf, xs, v2, v3, rfl, sG, hx, ls, fr⟩
      have hk' : k < n := by omega
      have lx := ls_len ls
      rw [allLots_len] at lx
      have p5 := pow5 (k := k) (by omega)
      refine ⟨_, rfl, _, rfl, pf, rfl, ⟨xs, sl_of hx⟩, fun D hD => ?_⟩
      have npD : pf ≠ D := fun z => by rw [z, hD] at hx; cases hx
      refine lc_list (xs := xs) (fun i G1 => Same G G1 ∧ ∃ acc, G1 D = some (.lst acc) ∧ LsAt G1 acc (((allLots k).take i).map (· ++ [Int.ofNat k])) ∧ FreshA H D acc) ⟨same_new hD, [], upd_same, trivial, fun x hx => nomatch hx⟩ (fun i G1 _ z => sl_of (z.1 _ _ hx)) ?_ ?_
      · rintro i y G1 hy ⟨s1, acc, hacc, la, fa⟩
        obtain ⟨o, r0, ho, rfl, hr0⟩ := ls_at (ls_s s1 ls) hy
        have lacc := ls_len la
        rw [List.length_map, List.length_take, allLots_len] at lacc
        have lo : o.length ≤ 6 := by
          have := lot_len (allLots_lot (List.mem_of_getElem? ho))
          omega
        refine ⟨rfl, _, rfl, _, rfl, szle (by show 1 ≤ 100000; decide), fun c hc => ?_⟩
        have nrc : r0 ≠ c := fun z => by rw [z, hc] at hr0; cases hr0
        have nDc : D ≠ c := fun z => by rw [z, hc] at hacc; cases hacc
        refine ⟨r0, c, _, _, rfl, rfl, by rw [upd_ne nrc]; exact hr0, upd_same, szle (by simp; omega), fun v hv => ?_⟩
        have nDv : D ≠ v := fun z => by rw [← z, upd_ne nDc, hacc] at hv; cases hv
        have hv1 : G1 v = none := (same_new (o := .lst [V.int (0 + (k : Int))]) hc).free hv
        have s3 : Same G1 (upd (upd G1 c (.lst [V.int (0 + (k : Int))])) v (.lst (o.map V.int ++ [V.int (0 + (k : Int))]))) := (same_new hc).trans (same_new hv)
        refine ⟨acc, by rw [upd_ne nDv, upd_ne nDc]; exact hacc, szlt (by omega), same_mut (s1.trans s3) hD, acc ++ [.ref v], upd_same, ?_, ?_⟩
        · rw [take_at ho, List.map_append]
          refine ls_app (ls_mut (ls_s s3 la) fun x hx => ?_) ⟨⟨v, rfl, ?_⟩, trivial⟩
          · obtain ⟨r, rfl, _, nr⟩ := fa x hx
            exact fun z => nr (V.ref.inj z)
          · rw [upd_ne nDv.symm, upd_same, List.map_append]
            have : (0 + (k : Int)) = Int.ofNat k := by simp
            rw [this]; rfl
        · intro x hx
          rcases List.mem_append.mp hx with z | z
          · exact fa x z
          · exact ⟨v, List.mem_singleton.mp z, sG.free (s1.free hv1), nDv.symm⟩
      · rintro G1 ⟨s1, acc, hacc, la, fa⟩
        rw [take_all (by rw [ls_len ls])] at la
        have lacc := ls_len la
        rw [List.length_map, allLots_len] at lacc
        refine ⟨pf, D, xs, acc, rfl, rfl, s1 _ _ hx, hacc, szle (by omega), fun r hr' => ?_⟩
        refine ⟨r, xs ++ acc, _, _, rfl, (sG.trans s1).trans (same_new hr'), upd_same, ?_, ?_⟩
        · exact ls_app (ls_s (s1.trans (same_new hr')) ls) (ls_s (same_new hr') la)
        · intro x hx
          rcases List.mem_append.mp hx with z | z
          · exact fr x z
          · obtain ⟨r1, e1, e2, _⟩ := fa x z
            exact ⟨r1, e1, e2⟩
    · rintro σ G ⟨pf, xs, v2, v3, rfl, sG, hx, ls, fr⟩
      rw [show ((n : Nat) : Int).toNat = n by simp] at ls
      refine ⟨_, rfl, pf, xs, _, rfl, sl_of hx, ls, fun ys os' r pm srt ls' sub hr' => ?_⟩
      exact q _ r ys os' (sG.trans (same_new hr')) (sG.free hr') upd_same (ls_s (same_new hr') ls') (fun x hx => fr x (sub x hx)) pm srt
abbrev nOrder : List Str := ["_law_pot_here", "_law_many", "_law_left", "_law_found", "_law_turn"]
theorem sc_order : FnScope nOrder ["_law_pot_here", "_law_many"] (defScope sOrder) := ⟨rfl, rfl, rfl, by decide +kernel, rfl, by decide +kernel, by decide +kernel⟩
theorem ok_order {f f1 : Addr} {fd fd1 : FuncData} (F : Fun K "_law_order" "_law_order" sOrder f fd) (D1 : Df K mg "_law_draw" sDraw ["_law_pot_here", "_law_size"] f1 fd1) (B : Bl mg) :
    FnOk P w K mg base CX0 2 f fd ["_law_pot_here", "_law_many"] spOrder := by
  have G1 : FnOk P w K mg base CX0 1 f1 fd1 ["_law_pot_here", "_law_size"] spDraw := ok_draw D1.F B
  refine F.ok sc_order (fun vs H Q E h => ?_) (fun cdv A outer s H vs Q E hr h => ?_)
  · obtain ⟨a, n, rfl, _⟩ := h
    rfl
  · obtain ⟨a, n, rfl, pa, n60, q⟩ := h
    refine ⟨_, pss_cons (ps_par (i := 2) (j := 3) rfl sc_order.nd rfl rfl (by decide) rfl rfl (pa_cons (pe_listRg rfl (by rfl) B.list (prg_1 (by rfl) B.range (pv 1))) (pa_cons (pe_lst pa_nil) pa_nil)) (by rfl))
      (pss_cons (ps_for PassesOwn.never rfl (pi_range1 rfl B.range (pa_cons (pv 1) pa_nil)) (pg_name (i := 4) sc_order.nd rfl (Or.inl rfl))
        (pss_one (ps_expr (pe_bm PySem.F.plainAttrs_list PySem.F.slot_list_append PySem.F.type_list_append mt_append (pv 3) (pa_cons
          (pe_bm PySem.F.plainAttrs_list PySem.F.slot_list_pop PySem.F.type_list_pop mt_popAt (pv 2) (pa_cons
            (pe_call G1 hr rfl D1.g D1.F.kp D1.b .nil pass0 (pa_cons (pv 0) (pa_cons (pe_callB call_len_seq (by rfl) B.len PySem.boot_len (pa_cons (pv 2) pa_nil)) pa_nil))) pa_nil)) pa_nil)))))
      (pss_one (ps_ret (pv 3)))), ?_⟩
    obtain ⟨px, py, hpa, ogp⟩ := id pa
    refine ⟨_, rfl, n, rfl, RgOk.of_le (by omega) (by omega) (by omega) (by omega), fun l hl => ⟨szle (by decide), fun fo hfo => ⟨_, _, rfl, ?_⟩⟩⟩
    rw [rgV_things] at hfo ⊢
    have nlf : l ≠ fo := fun e => by rw [e, upd_same] at hfo; cases hfo
    have hfo0 : H fo = none := by rw [upd_ne nlf.symm] at hfo; exact hfo
    have nla : l ≠ a := fun e => by rw [e, hpa] at hl; cases hl
    have nfa : fo ≠ a := fun e => by rw [e, hpa] at hfo0; cases hfo0
    refine ⟨_, rfl, n, rfl, by omega, by omega, for_range (lo := 0) (n := ((n : Nat) : Int).toNat) (fun k σ H1 => ∃ (ls fs : List V) (v4 : Option V), σ = [some (V.ref a), some (V.int n), some (V.ref l), some (V.ref fo), v4] ∧ SmX a H H1 ∧ Pot H1 a ∧ H1 l = some (.lst ls) ∧ H1 fo = some (.lst fs) ∧ (fs ++ ls).Perm ((things n).map V.int) ∧ ls.length + k = n)
      ⟨_, [], none, rfl, ?_, ?_, ?_, upd_same, List.Perm.refl _, ?_⟩ ?_ ?_⟩
    · exact smx_of ((same_new hl).trans (same_new hfo))
    · exact ⟨px, py, by rw [upd_ne nfa.symm, upd_ne nla.symm]; exact hpa, ogp⟩
    · rw [upd_ne nlf, upd_same]
    · rw [List.length_map, things_len]; rfl
    · rintro k σ H2 hk ⟨ls, fs, v4, rfl, s2, p2, hl2, hf2, pm, ll⟩
      have pl := pm.length_eq
      rw [List.length_append, List.length_map, things_len] at pl
      refine ⟨_, rfl, .inl ⟨rfl, _, sl_of hf2⟩, _, rfl, .inl ⟨rfl, _, sl_of hl2⟩, _, rfl, _, rfl, l, ls, rfl, .inl (sl_of hl2), a, _, rfl, p2, by omega, by omega, fun H3 d s3 p3 d0 d1' => ?_⟩
      have hl3 : H3 l = some (.lst ls) := s3 _ _ nla hl2
      have hf3 : H3 fo = some (.lst fs) := s3 _ _ nfa hf2
      have dlt : d.toNat < ls.length := by omega
      refine ⟨l, ls, d, d.toNat, ls[d.toNat], rfl, rfl, hl3, by omega, by omega, ?_, by simp [dlt], ?_⟩
      · unfold seqIndex?
        first
          | (simp; omega)
          | (rw [if_neg (by omega)]; simp; omega)
      have hf4 : (upd H3 l (.lst (ls.eraseIdx d.toNat))) fo = some (.lst fs) := by rw [upd_ne nlf.symm]; exact hf3
      refine ⟨fo, fs, _, rfl, rfl, hf4, szlt (by omega), ?_⟩
      refine ⟨ls.eraseIdx d.toNat, fs ++ [ls[d.toNat]], _, rfl, ?_, ?_, ?_, upd_same, ?_, ?_⟩
      · exact smx_mut (smx_mut (s2.trans s3) hl) hfo0
      · obtain ⟨u, v, g, o⟩ := p3
        exact ⟨u, v, by rw [upd_ne nfa.symm, upd_ne nla.symm]; exact g, o⟩
      · rw [upd_ne nlf, upd_same]
      · rw [List.append_assoc]
        refine List.Perm.trans ?_ pm
        refine List.Perm.append_left _ ?_
        exact perm_erase dlt
      · rw [List.length_eraseIdx_of_lt dlt]; omega
    · rintro σ H2 ⟨ls, fs, v4, rfl, s2, p2, hl2, hf2, pm, ll⟩
      have : ls = [] := List.length_eq_zero_iff.mp (by omega)
      subst this
      rw [List.append_nil] at pm
      obtain ⟨o, rfl, ho⟩ := ints_of pm
      exact ⟨_, rfl, q H2 fo o s2 p2 hfo0 nfa hf2 ho⟩
end
end Tk

namespace Tk
/-- places told so far: before (i, j) -/
structure Sn (n i j : Nat) (ix : List (Nat × Nat)) : Prop where
  nd : ix.Nodup
  bd : ∀ q ∈ ix, q.1 < q.2 ∧ q.2 < n ∧ (q.1 < i ∨ (q.1 = i ∧ q.2 < j))
theorem sn_0 (n i j : Nat) : Sn n i j [] := ⟨List.nodup_nil, (fun _ h => nomatch h)⟩
theorem sn_up {n i j i' j' : Nat} {ix : List (Nat × Nat)} (h : Sn n i j ix) (hh : i < i' ∨ (i = i' ∧ j ≤ j')) : Sn n i' j' ix :=
  ⟨h.nd, fun q hq => by
    obtain ⟨a, b, c⟩ := h.bd q hq
    refine ⟨a, b, ?_⟩
    rcases c with c | ⟨c1, c2⟩ <;> rcases hh with d | ⟨d1, d2⟩
    · left; omega
    · left; omega
    · left; omega
    · right; omega⟩
theorem sn_end {n i j : Nat} {ix : List (Nat × Nat)} (h : Sn n i j ix) (hj : n ≤ j) : Sn n (i + 1) 0 ix :=
  ⟨h.nd, fun q hq => by
    obtain ⟨a, b, c⟩ := h.bd q hq
    exact ⟨a, b, by left; omega⟩⟩
theorem sn_put {n i j : Nat} {ix : List (Nat × Nat)} (h : Sn n i j ix) (hij : i < j) (hj : j < n) : Sn n i (j + 1) (ix ++ [(i, j)]) := by
  refine ⟨?_, ?_⟩
  · rw [List.nodup_append]
    refine ⟨h.nd, by simp, ?_⟩
    intro a ha b hb e
    simp at hb
    subst hb
    subst e
    have := (h.bd _ ha).2.2
    simp at this
  · intro q hq
    rcases List.mem_append.mp hq with c | c
    · obtain ⟨a, b, d⟩ := h.bd q c
      exact ⟨a, b, by omega⟩
    · simp at c
      subst c
      exact ⟨hij, hj, by right; exact ⟨rfl, by simp⟩⟩
theorem sn_few {n i j : Nat} {ix : List (Nat × Nat)} (h : Sn n i j ix) (hn : n ≤ 6) : ix.length ≤ 36 := by
  have sub : ∀ q ∈ ix, q ∈ (List.range 6).flatMap fun a => (List.range 6).map fun b => (a, b) := fun q hq => by
    obtain ⟨a, b, _⟩ := h.bd q hq
    simp only [List.mem_flatMap, List.mem_map, List.mem_range]
    exact ⟨q.1, by omega, q.2, by omega, rfl⟩
  have := nodup_le h.nd sub
  have e : ((List.range 6).flatMap fun a => (List.range 6).map fun b => (a, b)).length = 36 := by decide
  omega
/-- the item at a place -/
def it (o : List Int) (i : Nat) : Int := o.getD i 0
def prA (o : List Int) (q : Nat × Nat) : Int × Int := (it o q.1, it o q.2)
def prT (o : List Int) (q : Nat × Nat) : Int × Int := (if it o q.2 < it o q.1 then it o q.2 else it o q.1, if it o q.2 > it o q.1 then it o q.2 else it o q.1)
theorem it_some {o : List Int} {i : Nat} (h : i < o.length) : o[i]? = some (it o i) := by
  unfold it
  rw [List.getD_eq_getElem?_getD, List.getElem?_eq_getElem h]; rfl
theorem it_mem {o : List Int} {i : Nat} (h : i < o.length) : it o i ∈ o := List.mem_of_getElem? (it_some h)
theorem it_inj {o : List Int} (hn : o.Nodup) {i j : Nat} (hi : i < o.length) (hj : j < o.length) (e : it o i = it o j) : i = j := by
  have h1 := it_some hi
  have h2 := it_some hj
  rw [e] at h1
  obtain ⟨_, a⟩ := List.getElem?_eq_some_iff.mp h1
  obtain ⟨_, b⟩ := List.getElem?_eq_some_iff.mp h2
  exact (List.getElem_inj hn).mp (a.trans b.symm)
def PrsN (n : Nat) (ps : List (Int × Int)) : Prop := ps.Nodup ∧ ps.length < 60 ∧ ∀ p ∈ ps, 0 ≤ p.1 ∧ p.1 < (n : Int) ∧ 0 ≤ p.2 ∧ p.2 < (n : Int) ∧ p.1 ≠ p.2
section
variable {n i j : Nat} {o : List Int} {ix : List (Nat × Nat)}
theorem prs_a (ho : o.Perm (things n)) (h : Sn n i j ix) (hn : n ≤ 6) : PrsN n (ix.map (prA o)) := by
  have nd : o.Nodup := ho.nodup_iff.mpr (things_nodup n)
  have ln : o.length = n := by rw [ho.length_eq, things_len]
  refine ⟨?_, by rw [List.length_map]; have := sn_few h hn; omega, ?_⟩
  · show List.Pairwise _ _
    rw [List.pairwise_map]
    refine List.Pairwise.imp_of_mem (fun {a b} ha hb hne e => hne ?_) h.nd
    obtain ⟨a1, a2, _⟩ := h.bd a ha
    obtain ⟨b1, b2, _⟩ := h.bd b hb
    have e1 := congrArg Prod.fst e
    have e2 := congrArg Prod.snd e
    exact Prod.ext (it_inj nd (by omega) (by omega) e1) (it_inj nd (by omega) (by omega) e2)
  · intro p hp
    obtain ⟨q, hq, rfl⟩ := List.mem_map.mp hp
    obtain ⟨q1, q2, _⟩ := h.bd q hq
    have m1 := mem_things.mp (ho.mem_iff.mp (it_mem (o := o) (i := q.1) (by omega)))
    have m2 := mem_things.mp (ho.mem_iff.mp (it_mem (o := o) (i := q.2) (by omega)))
    refine ⟨m1.1, m1.2, m2.1, m2.2, fun e => ?_⟩
    have := it_inj nd (by omega) (by omega) e
    omega
theorem acy_a (ho : o.Perm (things n)) (h : Sn n i j ix) : Acy (ix.map (prA o)) := by
  have nd : o.Nodup := ho.nodup_iff.mpr (things_nodup n)
  have ln : o.length = n := by rw [ho.length_eq, things_len]
  refine ⟨fun x => o.idxOf x, fun p hp => ?_⟩
  obtain ⟨q, hq, rfl⟩ := List.mem_map.mp hp
  obtain ⟨q1, q2, _⟩ := h.bd q hq
  have key : ∀ k, k < o.length → o.idxOf (it o k) = k := fun k hk => by
    have h1 : o.idxOf (it o k) < o.length := List.idxOf_lt_length_of_mem (it_mem hk)
    have h2 := List.getElem_idxOf h1
    have h3 := it_some hk
    obtain ⟨_, h4⟩ := List.getElem?_eq_some_iff.mp h3
    exact (List.getElem_inj nd).mp (h2.trans h4.symm)
  show o.idxOf (it o q.1) < o.idxOf (it o q.2)
  rw [key _ (by omega), key _ (by omega)]
  exact q1
theorem prs_t (ho : o.Perm (things n)) (h : Sn n i j ix) (hn : n ≤ 6) : PrsN n (ix.map (prT o)) ∧ ∀ p ∈ ix.map (prT o), p.1 < p.2 := by
  have nd : o.Nodup := ho.nodup_iff.mpr (things_nodup n)
  have ln : o.length = n := by rw [ho.length_eq, things_len]
  have lt : ∀ p ∈ ix.map (prT o), p.1 < p.2 := by
    intro p hp
    obtain ⟨q, hq, rfl⟩ := List.mem_map.mp hp
    obtain ⟨q1, q2, _⟩ := h.bd q hq
    have ne : it o q.1 ≠ it o q.2 := fun e => by
      have := it_inj nd (by omega) (by omega) e
      omega
    unfold prT
    split <;> split <;> simp <;> omega
  refine ⟨⟨?_, by rw [List.length_map]; have := sn_few h hn; omega, ?_⟩, lt⟩
  · show List.Pairwise _ _
    rw [List.pairwise_map]
    refine List.Pairwise.imp_of_mem (fun {a b} ha hb hne e => hne ?_) h.nd
    obtain ⟨a1, a2, _⟩ := h.bd a ha
    obtain ⟨b1, b2, _⟩ := h.bd b hb
    have e1 : (prT o a).1 = (prT o b).1 := congrArg Prod.fst e
    have e2 : (prT o a).2 = (prT o b).2 := congrArg Prod.snd e
    have both : (it o a.1 = it o b.1 ∧ it o a.2 = it o b.2) ∨ (it o a.1 = it o b.2 ∧ it o a.2 = it o b.1) := by
      simp only [prT] at e1 e2
      split at e1 <;> split at e1 <;> split at e2 <;> split at e2 <;> omega
    rcases both with ⟨c, d⟩ | ⟨c, d⟩
    · exact Prod.ext (it_inj nd (by omega) (by omega) c) (it_inj nd (by omega) (by omega) d)
    · have c' := it_inj nd (by omega) (by omega) c
      have d' := it_inj nd (by omega) (by omega) d
      omega
  · intro p hp
    have l := lt p hp
    obtain ⟨q, hq, rfl⟩ := List.mem_map.mp hp
    obtain ⟨q1, q2, _⟩ := h.bd q hq
    have m1 := mem_things.mp (ho.mem_iff.mp (it_mem (o := o) (i := q.1) (by omega)))
    have m2 := mem_things.mp (ho.mem_iff.mp (it_mem (o := o) (i := q.2) (by omega)))
    have r : 0 ≤ (prT o q).1 ∧ (prT o q).1 < (n : Int) ∧ 0 ≤ (prT o q).2 ∧ (prT o q).2 < (n : Int) := by
      simp only [prT]
      split <;> split <;> omega
    exact ⟨r.1, r.2.1, r.2.2.1, r.2.2.2, by omega⟩
end
end Tk

namespace Tk
open PySem PySem.Spec PyProof.Rows L2
theorem ta_x {a : Addr} {G G' : Hp} {acc : List V} {ps : List (Int × Int)} {k : Nat} (h : TA G acc ps k) (pa : Pot G a) (e : SmX a G G') : TA G' acc ps k :=
  ⟨h.1, fun i x hx => by
    obtain ⟨t, z, h1, h2, h3⟩ := h.2 i x hx
    obtain ⟨u, v, g, _⟩ := pa
    exact ⟨t, z, h1, h2, e _ _ (fun q => by rw [q, g] at h3; cases h3) h3⟩⟩
theorem ta_upd {G : Hp} {acc o : List V} {O : HO} {ps : List (Int × Int)} {k : Nat} {D : Addr} (h : TA G acc ps k) (hD : G D = some (.lst o)) : TA (upd G D O) acc ps k :=
  ⟨h.1, fun i x hx => by
    obtain ⟨t, z, h1, h2, h3⟩ := h.2 i x hx
    exact ⟨t, z, h1, h2, by rw [upd_ne (fun q => by rw [q, hD] at h3; cases h3)]; exact h3⟩⟩
theorem ta_more {G : Hp} {acc : List V} {ps qs : List (Int × Int)} {k : Nat} (h : TA G acc ps k) : TA G acc (ps ++ qs) k :=
  ⟨h.1, fun i x hx => by
    obtain ⟨t, z, h1, h2, h3⟩ := h.2 i x hx
    exact ⟨t, z, h1, by rw [List.getElem?_append_left (lt_of_at h2)]; exact h2, h3⟩⟩
/-- a list at D of new tuples for these pairs -/
def LT (G : Hp) (D : Addr) (ps : List (Int × Int)) : Prop := ∃ acc, G D = some (.lst acc) ∧ TA G acc ps ps.length
theorem lt_put {G : Hp} {D v : Addr} {ps : List (Int × Int)} {acc : List V} {x y : Int} (hD : G D = some (.lst acc)) (h : TA G acc ps ps.length) (hv : G v = none) :
    LT (upd (upd G v (.tup [.int x, .int y])) D (.lst (acc ++ [.ref v]))) D (ps ++ [(x, y)]) := by
  refine ⟨acc ++ [.ref v], upd_same, ?_⟩
  have := ta_put (z := (x, y)) (ta_more (qs := [(x, y)]) h) hD hv (by simp)
  rw [List.length_append]
  exact this
theorem lt_other {G : Hp} {D E v : Addr} {ps : List (Int × Int)} {O O' : HO} {e : List V} (h : LT G D ps) (ne : D ≠ E) (hE : G E = some (.lst e)) (hv : G v = none) : LT (upd (upd G v O) E O') D ps := by
  obtain ⟨acc, h1, h2⟩ := h
  have nD : D ≠ v := fun q => by rw [q, hv] at h1; cases h1
  have nE : E ≠ v := fun q => by rw [q, hv] at hE; cases hE
  refine ⟨acc, by rw [upd_ne ne, upd_ne nD]; exact h1, ?_⟩
  refine ta_upd (o := e) ?_ (by rw [upd_ne nE]; exact hE)
  exact ta_s h2 (same_new hv)
theorem lt_x {a : Addr} {G G' : Hp} {D : Addr} {ps : List (Int × Int)} (h : LT G D ps) (n : D ≠ a) (pa : Pot G a) (e : SmX a G G') : LT G' D ps :=
  let ⟨acc, h1, h2⟩ := h; ⟨acc, e _ _ n h1, ta_x h2 pa e⟩
theorem pot_s {G G' : Hp} {a : Addr} (h : Pot G a) (e : Same G G') : Pot G' a := let ⟨x, y, g, o⟩ := h; ⟨x, y, e _ _ g, o⟩
theorem plan_x {K : PySem.W.Frag} {C a : Addr} {H H' : Hp} {p : Addr} {n : Nat} {as ts : List (Int × Int)} (h : PlanAt K C H p n as ts) (pa : Pot H a) (e : SmX a H H') : PlanAt K C H' p n as ts := by
  obtain ⟨⟨dx, l, m, h1, h2, h3⟩, n6, h4, h5, h6, h7, h8, h9⟩ := h
  obtain ⟨x, y, ha, _⟩ := id pa
  have key : ∀ {l : Addr} {ps : List (Int × Int)}, PL K H l ps → PL K H' l ps := by
    rintro l ps ⟨xs, g1, g2⟩
    have g1' : SqL K H' l xs := by
      rcases g1 with (g | ⟨o, g⟩) | g
      · by_cases c : l = a
        · subst c
          rw [ha] at g
          cases g
          cases ps with
          | nil => cases g2
          | cons z zs =>
            cases g2 with
            | cons k1 _ =>
              obtain ⟨t, q, _⟩ := dP_inv k1
              cases q
        · exact .inl (.inl (e _ _ c g))
      · exact .inl (.inr ⟨o, e _ _ (fun c => by rw [c, ha] at g; cases g) g⟩)
      · exact .inr g
    refine ⟨xs, g1', ?_⟩
    clear g1 g1'
    induction ps generalizing xs with
    | nil => cases g2; exact .nil
    | cons z zs ih =>
      cases g2 with
      | cons k1 k2 =>
        obtain ⟨t, rfl, ht⟩ := dP_inv k1
        exact .cons (dP_mk (smx_t pa e ht)) (ih _ k2)
  exact ⟨⟨dx, l, m, e _ _ (fun c => by rw [c, ha] at h1; cases h1) h1, key h2, key h3⟩, n6, h4, h5, h6, h7, h8, h9⟩
theorem dps_x {K : PySem.W.Frag} {a : Addr} {G G' : Hp} {xs : List V} {ps : List (Int × Int)} (h : DpAll K G xs (ps.map dP)) (pg : Pot G a) (e : SmX a G G') : DpAll K G' xs (ps.map dP) := by
  induction ps generalizing xs with
  | nil => cases h; exact .nil
  | cons z zs ih =>
    cases h with
    | cons h1 h2 =>
      obtain ⟨t, rfl, ht⟩ := dP_inv h1
      exact .cons (dP_mk (smx_t pg e ht)) (ih h2)
/-- where the drawing of a plan stands -/
structure LP (a po pa pt : Addr) (H0 H1 : Hp) (o : List Int) (ixA ixT : List (Nat × Nat)) : Prop where
  sx : SmX a H0 H1
  pot : Pot H1 a
  ho : H1 po = some (.lst (o.map V.int))
  hA : LT H1 pa (ixA.map (prA o))
  hT : LT H1 pt (ixT.map (prT o))
structure Dist (a po pa pt : Addr) (H0 : Hp) : Prop where
  n1 : po ≠ a
  n2 : pa ≠ a
  n3 : pt ≠ a
  n4 : po ≠ pa
  n5 : po ≠ pt
  n6 : pa ≠ pt
  fA : H0 pa = none
  fT : H0 pt = none
section
variable {a po pa pt : Addr} {H0 H1 H2 : Hp} {o : List Int} {ixA ixT : List (Nat × Nat)}
theorem lp_draw (d : Dist a po pa pt H0) (h : LP a po pa pt H0 H1 o ixA ixT) (e : SmX a H1 H2) (p : Pot H2 a) : LP a po pa pt H0 H2 o ixA ixT :=
  ⟨h.sx.trans e, p, e _ _ d.n1 h.ho, lt_x h.hA d.n2 h.pot e, lt_x h.hT d.n3 h.pot e⟩
theorem lp_arr (d : Dist a po pa pt H0) (h : LP a po pa pt H0 H1 o ixA ixT) {acc : List V} (hD : H1 pa = some (.lst acc)) {v : Addr} (hv : H1 v = none) (q : Nat × Nat) :
    LP a po pa pt H0 (upd (upd H1 v (.tup [.int (it o q.1), .int (it o q.2)])) pa (.lst (acc ++ [.ref v]))) o (ixA ++ [q]) ixT := by
  obtain ⟨acc', e1, e2⟩ := h.hA
  rw [hD] at e1
  cases e1
  obtain ⟨x, y, g, gg⟩ := h.pot
  have nva : a ≠ v := fun z => by rw [z, hv] at g; cases g
  have nvo : po ≠ v := fun z => by have := h.ho; rw [z, hv] at this; cases this
  refine ⟨?_, ⟨x, y, by rw [upd_ne d.n2.symm, upd_ne nva]; exact g, gg⟩, by rw [upd_ne d.n4, upd_ne nvo]; exact h.ho, ?_, ?_⟩
  · exact smx_mut (h.sx.trans (smx_of (same_new hv))) d.fA
  · rw [List.map_append]
    exact lt_put hD e2 hv
  · exact lt_other h.hT d.n6.symm hD hv
theorem lp_tie (d : Dist a po pa pt H0) (h : LP a po pa pt H0 H1 o ixA ixT) {acc : List V} (hD : H1 pt = some (.lst acc)) {v : Addr} (hv : H1 v = none) (q : Nat × Nat) :
    LP a po pa pt H0 (upd (upd H1 v (.tup [.int (prT o q).1, .int (prT o q).2])) pt (.lst (acc ++ [.ref v]))) o ixA (ixT ++ [q]) := by
  obtain ⟨acc', e1, e2⟩ := h.hT
  rw [hD] at e1
  cases e1
  obtain ⟨x, y, g, gg⟩ := h.pot
  have nva : a ≠ v := fun z => by rw [z, hv] at g; cases g
  have nvo : po ≠ v := fun z => by have := h.ho; rw [z, hv] at this; cases this
  refine ⟨?_, ⟨x, y, by rw [upd_ne d.n3.symm, upd_ne nva]; exact g, gg⟩, by rw [upd_ne d.n5, upd_ne nvo]; exact h.ho, ?_, ?_⟩
  · exact smx_mut (h.sx.trans (smx_of (same_new hv))) d.fT
  · exact lt_other h.hA d.n6 hD hv
  · rw [List.map_append]
    exact lt_put hD e2 hv
end

theorem at_it {o : List Int} {i : Nat} (h : i < o.length) : atI (o.map V.int) (i : Int) = some (V.int (it o i)) := atI_nat (by rw [List.getElem?_map, it_some h]; rfl)
theorem dps_rev {K : PySem.W.Frag} {H : Hp} : ∀ {xs : List V} {ps : List (Int × Int)}, DpAll K H xs (ps.map dP) → DpAll K H xs.reverse (ps.reverse.map dP)
  | _, [], h => by cases h; exact .nil
  | _, p :: ps, h => by
    cases h with
    | cons h1 h2 =>
      rw [List.reverse_cons, List.reverse_cons, List.map_append]
      exact dps_app (dps_rev h2) (.cons h1 .nil)
/-- sorted, the tuples still are themselves -/
theorem ta_sort {G : Hp} {xs ys : List V} {ps : List (Int × Int)} (ta : TA G xs ps ps.length) (stb : SrtO.Stb (ltP (prV G)) ys xs) : TA G ys (ys.map (prV G)) (ys.map (prV G)).length :=
  ⟨by simp, fun i y hy => by
    obtain ⟨k, hk⟩ := List.getElem?_of_mem (stb.perm.mem_iff.mp (List.mem_of_getElem? hy))
    obtain ⟨t, p, rfl, _, h3⟩ := ta.2 k y hk
    exact ⟨t, p, rfl, by rw [List.getElem?_map, hy]; show some (prV G (.ref t)) = _; rw [prV_eq h3], h3⟩⟩
def spWorldX (K : PySem.W.Frag) : Sp := fun vs H Q _ => ∃ (a : Addr) (n : Nat), vs = [.ref a, .int n] ∧ Pot H a ∧ n ≤ 6 ∧
  ∀ (H' : Hp) (p l m : Addr) (xs ys : List V) (as ts : List (Int × Int)), SmX a H H' → Pot H' a → H' p = some (.tup [.int n, .ref l, .ref m]) → H l = none → H m = none → l ≠ m → l ≠ a → m ≠ a →
    H' l = some (.lst xs) → H' m = some (.lst ys) → DpAll K H' xs (as.map dP) → DpAll K H' ys (ts.map dP) → Prs n as → Acy as → Prs n ts → (∀ q ∈ ts, q.1 < q.2) → TA H' xs as as.length → TA H' ys ts ts.length → Q (.ref p) H'
def spWorld (K : PySem.W.Frag) : Sp := fun vs H Q _ => ∃ (a : Addr) (n : Nat), vs = [.ref a, .int n] ∧ Pot H a ∧ n ≤ 6 ∧
  ∀ (H' : Hp) (p l m : Addr) (xs ys : List V) (as ts : List (Int × Int)), SmX a H H' → Pot H' a → H' p = some (.tup [.int n, .ref l, .ref m]) → H l = none → H m = none → l ≠ m → l ≠ a → m ≠ a →
    H' l = some (.lst xs) → H' m = some (.lst ys) → DpAll K H' xs (as.map dP) → DpAll K H' ys (ts.map dP) → Prs n as → Acy as → Prs n ts → (∀ q ∈ ts, q.1 < q.2) → Q (.ref p) H'
def spMade (K : PySem.W.Frag) (C : Addr) : Sp := fun vs H Q _ => ∃ (a p l m : Addr) (n : Nat) (xs ys : List V) (as ts : List (Int × Int)), vs = [.ref a, .ref p] ∧ Pot H a ∧ H p = some (.tup [.int n, .ref l, .ref m]) ∧ l ≠ a ∧ m ≠ a ∧
  H l = some (.lst xs) ∧ H m = some (.lst ys) ∧ DpAll K H xs (as.map dP) ∧ DpAll K H ys (ts.map dP) ∧ n ≤ 6 ∧ Prs n as ∧ Acy as ∧ Prs n ts ∧ (∀ q ∈ ts, q.1 < q.2) ∧
  ∀ (H' : Hp) (x : Addr) (as' ts' : List (Int × Int)), SmX a H H' → Pot H' a → as'.Perm as → ts'.Perm ts → PlanAt K C H' x n as' ts' → Q (.ref x) H'
section
variable {P : Program} {w : World} {K : PySem.W.Frag} {mg : Str → Option Value} {base : Heap}
abbrev nWorld : List Str := ["_law_pot_here", "_law_many", "_law_order_here", "_law_arrows", "_law_ties", "_law_dense", "_law_at", "_law_to"]
theorem sc_world : FnScope nWorld ["_law_pot_here", "_law_many"] (defScope sWorld) := ⟨rfl, rfl, rfl, by decide +kernel, rfl, by decide +kernel, by decide +kernel⟩
theorem ok_worldX {f f1 f2 : Addr} {fd fd1 fd2 : FuncData} (F : Fun K "_law_world" "_law_world" sWorld f fd) (D1 : Df K mg "_law_draw" sDraw ["_law_pot_here", "_law_size"] f1 fd1)
    (D2 : Df K mg "_law_order" sOrder ["_law_pot_here", "_law_many"] f2 fd2) (B : Bl mg) : FnOk P w K mg base CX0 3 f fd ["_law_pot_here", "_law_many"] (spWorldX K) := by
  have G1 : FnOk P w K mg base CX0 1 f1 fd1 ["_law_pot_here", "_law_size"] spDraw := ok_draw D1.F B
  have G2 : FnOk P w K mg base CX0 2 f2 fd2 ["_law_pot_here", "_law_many"] spOrder := ok_order D2.F D1 B
  refine F.ok sc_world (fun vs H Q E h => ?_) (fun cdv A outer s H vs Q E hr h => ?_)
  · obtain ⟨a, n, rfl, _⟩ := h
    rfl
  · obtain ⟨a, n, rfl, pot, n6, q⟩ := h
    have hr1 : Room 1 _ := hr.mono (by decide)
    refine ⟨_, pss_cons (ps_asg (pe_tup (pa_cons (pe_call G2 hr rfl D2.g D2.F.kp D2.b .nil pass0 (pa_cons (pv 0) (pa_cons (pv 1) pa_nil))) (pa_cons (pe_lst pa_nil) (pa_cons (pe_lst pa_nil)
          (pa_cons (pe_call G1 hr1 rfl D1.g D1.F.kp D1.b .nil pass0 (pa_cons (pv 0) (pa_cons pe_int pa_nil))) pa_nil)))))
          (pg_tup rfl (pgs_cons (pg_name (i := 2) sc_world.nd rfl (Or.inl rfl)) (pgs_cons (pg_name (i := 3) sc_world.nd rfl (Or.inl rfl)) (pgs_cons (pg_name (i := 4) sc_world.nd rfl (Or.inl rfl)) (pgs_cons (pg_name (i := 5) sc_world.nd rfl (Or.inl rfl)) pgs_nil))))))
      (pss_cons (ps_for PassesOwn.never rfl (pi_range1 rfl B.range (pa_cons (pv 1) pa_nil)) (pg_name (i := 6) sc_world.nd rfl (Or.inl rfl))
        (pss_one (ps_for PassesOwn.never rfl (pi_range2 rfl B.range (pa_cons (pe_op op_add (pv 6) pe_int) (pa_cons (pv 1) pa_nil))) (pg_name (i := 7) sc_world.nd rfl (Or.inl rfl))
          (pss_cons (ps_if (pt_cmpR op_le (pe_call G1 hr1 rfl D1.g D1.F.kp D1.b .nil pass0 (pa_cons (pv 0) (pa_cons pe_int pa_nil))) (pv 5) (nomark _))
              (pss_one (ps_expr (pe_bm PySem.F.plainAttrs_list PySem.F.slot_list_append PySem.F.type_list_append mt_append (pv 3) (pa_cons (pe_tup (pa_cons (pe_ix ix_list (pv 2) (pv 6) (fun _ _ => rfl)) (pa_cons (pe_ix ix_list (pv 2) (pv 7) (fun _ _ => rfl)) pa_nil))) pa_nil)))) pss_nil)
          (pss_one (ps_if (pt_cmpR op_le (pe_call G1 hr1 rfl D1.g D1.F.kp D1.b .nil pass0 (pa_cons (pv 0) (pa_cons pe_int pa_nil))) (pv 5) (nomark _))
              (pss_one (ps_expr (pe_bm PySem.F.plainAttrs_list PySem.F.slot_list_append PySem.F.type_list_append mt_append (pv 4) (pa_cons (pe_tup (pa_cons
                (pe_callB (call_min2 rfl) (by rfl) B.min PyProof.Rows.boot_min (pa_cons (pe_ix ix_list (pv 2) (pv 6) (fun _ _ => rfl)) (pa_cons (pe_ix ix_list (pv 2) (pv 7) (fun _ _ => rfl)) pa_nil)))
                (pa_cons (pe_callB (call_max2 rfl) (by rfl) B.max PyProof.Rows.boot_max (pa_cons (pe_ix ix_list (pv 2) (pv 6) (fun _ _ => rfl)) (pa_cons (pe_ix ix_list (pv 2) (pv 7) (fun _ _ => rfl)) pa_nil))) pa_nil))) pa_nil)))) pss_nil))))))
      (pss_one (ps_ret (pe_tup (pa_cons (pv 1) (pa_cons (pe_callB cr_sortedPO (by rfl) B.sorted PyProof.Rows.boot_sorted (pa_cons (pv 3) pa_nil)) (pa_cons (pe_callB cr_sortedPO (by rfl) B.sorted PyProof.Rows.boot_sorted (pa_cons (pv 4) pa_nil)) pa_nil))))))), ?_⟩
    refine ⟨_, rfl, _, rfl, a, n, rfl, pot, by omega, fun H3 po o s3 p3 hpo npo ho hoP => ?_⟩
    refine ⟨szle (by decide), fun pa hpa => ⟨szle (by decide), fun pt hpt => ?_⟩⟩
    have lno : o.length = n := by rw [hoP.length_eq, things_len]
    have npapt : pa ≠ pt := fun z => by rw [z, upd_same] at hpt; cases hpt
    have hpt3 : H3 pt = none := by rw [upd_ne npapt.symm] at hpt; exact hpt
    obtain ⟨x3, y3, g3, gg3⟩ := id p3
    have npaa : pa ≠ a := fun z => by rw [z, g3] at hpa; cases hpa
    have npta : pt ≠ a := fun z => by rw [z, g3] at hpt3; cases hpt3
    have npoa : po ≠ pa := fun z => by rw [z, hpa] at ho; cases ho
    have npot : po ≠ pt := fun z => by rw [z, hpt3] at ho; cases ho
    have dist : Dist a po pa pt H := ⟨npo, npaa, npta, npoa, npot, npapt, smx_free s3 npaa hpa, smx_free s3 npta hpt3⟩
    have lp00 : LP a po pa pt H (upd (upd H3 pa (.lst [])) pt (.lst [])) o [] [] := by
      refine ⟨s3.trans (smx_of ((same_new hpa).trans (same_new hpt))), ⟨x3, y3, by rw [upd_ne npta.symm, upd_ne npaa.symm]; exact g3, gg3⟩, by rw [upd_ne npot, upd_ne npoa]; exact ho, ⟨[], by rw [upd_ne npapt, upd_same], ta_0 _ _⟩, ⟨[], upd_same, ta_0 _ _⟩⟩
    refine ⟨_, rfl, a, _, rfl, lp00.pot, by decide, by decide, fun H4 th s4 p4 t0 t1 => ⟨szle (by show 4 ≤ 100000; decide), fun t ht => ?_⟩⟩
    have lp04 := lp_draw dist lp00 s4 p4
    obtain ⟨x4, y4, g4, gg4⟩ := id p4
    have nta : t ≠ a := fun z => by rw [z, g4] at ht; cases ht
    have lp0 : LP a po pa pt H (upd H4 t (.tup [.ref po, .ref pa, .ref pt, .int th])) o [] [] := lp_draw dist lp04 (smx_of (same_new ht)) ⟨x4, y4, by rw [upd_ne nta.symm]; exact g4, gg4⟩
    refine ⟨t, _, rfl, st_of upd_same, rfl, _, _, rfl, _, _, rfl, _, _, rfl, _, _, rfl, rfl, ?_⟩
    -- for at in range(many)
    refine ⟨_, rfl, n, rfl, by omega, by omega, for_range (lo := 0) (n := ((n : Nat) : Int).toNat) (fun i σ G => ∃ (ixA ixT : List (Nat × Nat)) (v7 v8 : Option V), σ = [some (V.ref a), some (V.int n), some (V.ref po), some (V.ref pa), some (V.ref pt), some (V.int th), v7, v8] ∧
      LP a po pa pt H G o ixA ixT ∧ Sn n i 0 ixA ∧ Sn n i 0 ixT) ⟨[], [], none, none, rfl, lp0, sn_0 _ _ _, sn_0 _ _ _⟩ ?_ ?_⟩
    · rintro i σ G hi ⟨ixA, ixT, v7, v8, rfl, lp, sA, sT⟩
      have hi' : i < n := by omega
      refine ⟨_, rfl, _, _, rfl, rfl, _, rfl, _, _, rfl, (by omega), for_range (lo := 0 + (i : Int) + 1) (n := ((n : Int) - (0 + (i : Int) + 1)).toNat) (fun j σ G => ∃ (ixA ixT : List (Nat × Nat)) (v8 : Option V), σ = [some (V.ref a), some (V.int n), some (V.ref po), some (V.ref pa), some (V.ref pt), some (V.int th), some (V.int (0 + (i : Int))), v8] ∧
        LP a po pa pt H G o ixA ixT ∧ Sn n i (i + 1 + j) ixA ∧ Sn n i (i + 1 + j) ixT) ⟨ixA, ixT, _, rfl, lp, sn_up sA (.inr ⟨rfl, by omega⟩), sn_up sT (.inr ⟨rfl, by omega⟩)⟩ ?_ ?_⟩
      · rintro j σ G1 hj ⟨ixA, ixT, v8, rfl, lp, sA, sT⟩
        have hj' : i + 1 + j < n := by omega
        have ei : (0 + (i : Int)) = ((i : Nat) : Int) := by omega
        have ej : (0 + (i : Int) + 1 + (j : Nat)) = ((i + 1 + j : Nat) : Int) := by omega
        have atI1 : atI (o.map V.int) (0 + (i : Int)) = some (V.int (it o i)) := by rw [ei]; exact at_it (by omega)
        have atJ1 : atI (o.map V.int) (0 + (i : Int) + 1 + (j : Nat)) = some (V.int (it o (i + 1 + j))) := by rw [ej]; exact at_it (by omega)
        refine ⟨_, rfl, a, _, rfl, lp.pot, by decide, by decide, fun G2 d2 e2 pp2 _ _ => ?_⟩
        have lp2 := lp_draw dist lp e2 pp2
        refine ⟨_, rfl, _, _, rfl, rfl, _, rfl, ?_⟩
        refine ite2 (fun hd => ?_) (fun hd => ?_)
        · obtain ⟨acc, hacc, tacc⟩ := lp2.hA
          refine ⟨_, rfl, .inl ⟨rfl, _, sl_of hacc⟩, _, rfl, _, rfl, po, _, _, _, rfl, rfl, sl_of lp2.ho, atI1, _, rfl, _, rfl, po, _, _, _, rfl, rfl, sl_of lp2.ho, atJ1, szle (by show 2 ≤ 100000; decide), fun v hv => ?_⟩
          have nvp : pa ≠ v := fun z => by rw [z, hv] at hacc; cases hacc
          have few := sn_few sA (by omega)
          refine ⟨pa, acc, _, rfl, rfl, by rw [upd_ne nvp]; exact hacc, szlt (by have := tacc.1; rw [List.length_map] at this; omega), ?_⟩
          have lp3 := lp_arr dist lp2 hacc hv (i, i + 1 + j)
          have sA' := sn_put (j := i + 1 + j) sA (by omega) hj'
          refine ⟨_, rfl, a, _, rfl, lp3.pot, by decide, by decide, fun G4 d4 e4 pp4 _ _ => ?_⟩
          have lp4 := lp_draw dist lp3 e4 pp4
          refine ⟨_, rfl, _, _, rfl, rfl, _, rfl, ?_⟩
          refine ite2 (fun hd => ?_) (fun hd => ?_)
          · obtain ⟨acc, hacc, tacc⟩ := lp4.hT
            refine ⟨_, rfl, .inl ⟨rfl, _, sl_of hacc⟩, _, rfl, _, rfl, po, _, _, _, rfl, rfl, sl_of lp4.ho, atI1, _, rfl, _, rfl, po, _, _, _, rfl, rfl, sl_of lp4.ho, atJ1, _, _, rfl, _, rfl, _, rfl, po, _, _, _, rfl, rfl, sl_of lp4.ho, atI1, _, rfl, _, rfl, po, _, _, _, rfl, rfl, sl_of lp4.ho, atJ1, _, _, rfl, szle (by show 2 ≤ 100000; decide), fun v hv => ?_⟩
            have nvp : pt ≠ v := fun z => by rw [z, hv] at hacc; cases hacc
            have few := sn_few sT (by omega)
            refine ⟨pt, acc, _, rfl, rfl, by rw [upd_ne nvp]; exact hacc, szlt (by have := tacc.1; rw [List.length_map] at this; omega), ?_⟩
            have lp5 := lp_tie dist lp4 hacc hv (i, i + 1 + j)
            exact ⟨_, _, _, rfl, lp5, sA', sn_put (j := i + 1 + j) sT (by omega) hj'⟩
          · exact ⟨_, _, _, rfl, lp4, sA', sn_up sT (.inr ⟨rfl, by show i + 1 + j ≤ i + 1 + (j + 1); omega⟩)⟩
        · refine ⟨_, rfl, a, _, rfl, lp2.pot, by decide, by decide, fun G4 d4 e4 pp4 _ _ => ?_⟩
          have lp4 := lp_draw dist lp2 e4 pp4
          refine ⟨_, rfl, _, _, rfl, rfl, _, rfl, ?_⟩
          refine ite2 (fun hd => ?_) (fun hd => ?_)
          · obtain ⟨acc, hacc, tacc⟩ := lp4.hT
            refine ⟨_, rfl, .inl ⟨rfl, _, sl_of hacc⟩, _, rfl, _, rfl, po, _, _, _, rfl, rfl, sl_of lp4.ho, atI1, _, rfl, _, rfl, po, _, _, _, rfl, rfl, sl_of lp4.ho, atJ1, _, _, rfl, _, rfl, _, rfl, po, _, _, _, rfl, rfl, sl_of lp4.ho, atI1, _, rfl, _, rfl, po, _, _, _, rfl, rfl, sl_of lp4.ho, atJ1, _, _, rfl, szle (by show 2 ≤ 100000; decide), fun v hv => ?_⟩
            have nvp : pt ≠ v := fun z => by rw [z, hv] at hacc; cases hacc
            have few := sn_few sT (by omega)
            refine ⟨pt, acc, _, rfl, rfl, by rw [upd_ne nvp]; exact hacc, szlt (by have := tacc.1; rw [List.length_map] at this; omega), ?_⟩
            have lp5 := lp_tie dist lp4 hacc hv (i, i + 1 + j)
            exact ⟨_, _, _, rfl, lp5, sn_up sA (.inr ⟨rfl, by show i + 1 + j ≤ i + 1 + (j + 1); omega⟩), sn_put (j := i + 1 + j) sT (by omega) hj'⟩
          · exact ⟨_, _, _, rfl, lp4, sn_up sA (.inr ⟨rfl, by omega⟩), sn_up sT (.inr ⟨rfl, by omega⟩)⟩
      · rintro σ G1 ⟨ixA, ixT, v8, rfl, lp, sA, sT⟩
        exact ⟨ixA, ixT, _, _, rfl, lp, sn_end sA (by omega), sn_end sT (by omega)⟩
    · rintro σ G ⟨ixA, ixT, v7, v8, rfl, lp, sA, sT⟩
      obtain ⟨accA, hA1, tA⟩ := lp.hA
      obtain ⟨accT, hT1, tT⟩ := lp.hT
      have el : ∀ {acc : List V} {ps : List (Int × Int)}, TA G acc ps ps.length → ∀ x ∈ acc, ∃ t, x = V.ref t ∧ G t = some (.tup [.int (prV G x).1, .int (prV G x).2]) := fun h x hx => by
        obtain ⟨i, hi⟩ := List.getElem?_of_mem hx
        obtain ⟨t, z, h1, _, h3⟩ := h.2 i x hi
        exact ⟨t, h1, by rw [h1, prV_eq h3]; exact h3⟩
      refine ⟨_, rfl, _, rfl, pa, accA, prV G, rfl, sl_of hA1, el tA, fun xs la srtA stbA hla => ?_⟩
      have npl : pt ≠ la := fun z => by rw [← z, hT1] at hla; cases hla
      have sA1 : Same G (upd G la (.lst xs)) := same_new hla
      refine ⟨_, rfl, pt, accT, prV G, rfl, sl_of (sA1 _ _ hT1), (fun x hx => let ⟨t, e1, e2⟩ := el tT x hx; ⟨t, e1, sA1 _ _ e2⟩), fun ys lt srtT stbT hlt => ?_⟩
      refine ⟨szle (by show 3 ≤ 100000; decide), fun p hp => ?_⟩
      obtain ⟨soA, dpA⟩ := sort_pairs (K := K) tA.1 tA.2 srtA stbA
      obtain ⟨soT, dpT⟩ := sort_pairs (K := K) tT.1 tT.2 srtT stbT
      have nlm : la ≠ lt := fun z => by rw [← z, upd_same] at hlt; cases hlt
      have hlt0 : G lt = none := by rw [upd_ne nlm.symm] at hlt; exact hlt
      have sAT := sA1.trans (same_new (o := .lst ys) hlt)
      have sAll := sAT.trans (same_new (o := .tup [.int n, .ref la, .ref lt]) hp)
      have nla : la ≠ a := fun z => by obtain ⟨u, v, g, _⟩ := lp.pot; rw [z, g] at hla; cases hla
      have nlt : lt ≠ a := fun z => by obtain ⟨u, v, g, _⟩ := lp.pot; rw [z, g] at hlt0; cases hlt0
      have npla : p ≠ la := fun z => by rw [z, upd_ne nlm, upd_same] at hp; cases hp
      have nplt : p ≠ lt := fun z => by rw [z, upd_same] at hp; cases hp
      have pas := prs_a hoP sA (by omega)
      have pts := prs_t hoP sT (by omega)
      refine q _ p la lt xs ys _ _ (lp.sx.trans (smx_of sAll)) (pot_s lp.pot sAll) upd_same (smx_free lp.sx nla hla) (smx_free lp.sx nlt hlt0) nlm nla nlt ?_ ?_ (dps_s dpA sAll) (dps_s dpT sAll) (prs_perm pas soA.1) (acy_perm (acy_a hoP sA) soA.1) (prs_perm pts.1 soT.1) (fun z hz => pts.2 z (soT.1.mem_iff.mp hz)) (ta_s (ta_sort tA stbA) sAll) (ta_s (ta_sort tT stbT) sAll)
      · rw [upd_ne npla.symm, upd_ne nlm, upd_same]
      · rw [upd_ne nplt.symm, upd_same]
theorem ok_world {f f1 f2 : Addr} {fd fd1 fd2 : FuncData} (F : Fun K "_law_world" "_law_world" sWorld f fd) (D1 : Df K mg "_law_draw" sDraw ["_law_pot_here", "_law_size"] f1 fd1)
    (D2 : Df K mg "_law_order" sOrder ["_law_pot_here", "_law_many"] f2 fd2) (B : Bl mg) : FnOk P w K mg base CX0 3 f fd ["_law_pot_here", "_law_many"] (spWorld K) :=
  fnok_weak (ok_worldX F D1 D2 B) fun vs H Q E ⟨a, n, e, pot, n6, q⟩ => ⟨a, n, e, pot, n6, fun H' p l m xs ys as ts h1 h2 h3 h4 h5 h6 h7 h8 h9 h10 h11 h12 h13 h14 h15 h16 _ _ => q H' p l m xs ys as ts h1 h2 h3 h4 h5 h6 h7 h8 h9 h10 h11 h12 h13 h14 h15 h16⟩
abbrev nMade : List Str := ["_law_pot_here", "_law_world_here", "_law_arrows", "_law_ties"]
theorem sc_made : FnScope nMade ["_law_pot_here", "_law_world_here"] (defScope sMade) := ⟨rfl, rfl, rfl, by decide +kernel, rfl, by decide +kernel, by decide +kernel⟩
theorem ok_made {f f1 fI C : Addr} {fd fd1 dI : FuncData} (F : Fun K "_law_made" "_law_made" sMade f fd) (D1 : Df K mg "_law_draw" sDraw ["_law_pot_here", "_law_size"] f1 fd1)
    (MI : Mk K C fI) (gC : mg "Plan" = some (.ref C)) (bI : Binds K dI ["self", "size", "arrows", "ties"] []) (GI : FnOk P w K mg base CX0 7 fI dI ["self", "size", "arrows", "ties"] (spInit K C)) (B : Bl mg) :
    FnOk P w K mg base CX0 9 f fd ["_law_pot_here", "_law_world_here"] (spMade K C) := by
  have G1 : FnOk P w K mg base CX0 1 f1 fd1 ["_law_pot_here", "_law_size"] spDraw := ok_draw D1.F B
  refine F.ok sc_made (fun vs H Q E h => ?_) (fun cdv A outer s H vs Q E hr h => ?_)
  · obtain ⟨a, p, l, m, n, xs, ys, as, ts, rfl, _⟩ := h
    rfl
  · obtain ⟨a, p, l, m, n, xs, ys, as, ts, rfl, pot, hp, nla, nma, hl, hm, dx, dy, n6, pas, ac, pts, lt, q⟩ := h
    have hr1 : Room 1 _ := hr.mono (by decide)
    refine ⟨_, pss_cons (ps_par (i := 2) (j := 3) rfl sc_made.nd rfl rfl (by decide) rfl rfl (pa_cons (pe_callTy call_list_of (by rfl) B.list PyProof.Rows.boot_list (pa_cons (pe_ix ix_tup (pv 1) pe_int (fun _ _ => rfl)) pa_nil))
          (pa_cons (pe_callTy call_list_of (by rfl) B.list PyProof.Rows.boot_list (pa_cons (pe_ix ix_tup (pv 1) pe_int (fun _ _ => rfl)) pa_nil)) pa_nil)) (by rfl))
      (pss_cons (ps_if (pt_cmpR op_eq (pe_call G1 hr1 rfl D1.g D1.F.kp D1.b .nil pass0 (pa_cons (pv 0) (pa_cons pe_int pa_nil))) pe_int (nomark _))
          (pss_one (ps_par (i := 2) (j := 3) rfl sc_made.nd rfl rfl (by decide) rfl rfl (pa_cons (pe_revL (pv 2)) (pa_cons (pe_callTy call_tuple_of (by rfl) B.tuple PySem.Pv.boot_tuple (pa_cons (pv 3) pa_nil)) pa_nil)) (by rfl))) pss_nil)
      (pss_one (ps_ret (pe_make MI GI hr rfl gC bI .nil pass0 (pa_cons (pe_ix ix_tup (pv 1) pe_int (fun _ _ => rfl)) (pa_cons (pv 2) (pa_cons (pv 3) pa_nil))))))), ?_⟩
    obtain ⟨px, py, hpa, ogp⟩ := id pot
    have npa : p ≠ a := fun z => by rw [z, hpa] at hp; cases hp
    refine ⟨_, rfl, p, _, _, _, rfl, rfl, st_of hp, rfl, l, xs, rfl, .inl (sl_of hl), fun l2 hl2 => ?_⟩
    have s1 : Same H (upd H l2 (.lst xs)) := same_new hl2
    refine ⟨_, rfl, p, _, _, _, rfl, rfl, st_of (s1 _ _ hp), rfl, m, ys, rfl, .inl (sl_of (s1 _ _ hm)), fun m2 hm2 => ⟨_, _, rfl, ?_⟩⟩
    have s2 := s1.trans (same_new (o := .lst ys) hm2)
    have nlm2 : l2 ≠ m2 := fun z => by rw [← z, upd_same] at hm2; cases hm2
    have nl2 : l2 ≠ a := fun z => by rw [z, hpa] at hl2; cases hl2
    have nm2 : m2 ≠ a := fun z => by rw [z, s1 _ _ hpa] at hm2; cases hm2
    have hl2' : (upd (upd H l2 (.lst xs)) m2 (.lst ys)) l2 = some (.lst xs) := by rw [upd_ne nlm2, upd_same]
    have hm2' : (upd (upd H l2 (.lst xs)) m2 (.lst ys)) m2 = some (.lst ys) := upd_same
    have pot2 := pot_s pot s2
    have dx2 := dps_s dx s2
    have dy2 := dps_s dy s2
    generalize upd (upd H l2 (.lst xs)) m2 (.lst ys) = H2 at s2 hl2' hm2' pot2 dx2 dy2
    refine ⟨_, rfl, a, _, rfl, pot2, by decide, by decide, fun H3 d s3 p3 d0 d1 => ⟨rfl, _, rfl, ?_⟩⟩
    have hl3 := s3 _ _ nl2 hl2'
    have hm3 := s3 _ _ nm2 hm2'
    have dx3 := dps_x dx2 pot2 s3
    have dy3 := dps_x dy2 pot2 s3
    have hp3 : H3 p = some (.tup [.int n, .ref l, .ref m]) := s3 _ _ npa (s2 _ _ hp)
    have sx3 : SmX a H H3 := (smx_of s2).trans s3
    -- the making
    have make : ∀ (G : Hp) (u v : Addr) (as1 ts1 : List (Int × Int)), Same H3 G → PL K G u as1 → PA2 K G v ts1 → as1.Perm as → ts1.Perm ts → ∀ x dx', G x = none → G dx' = none → dx' ≠ x →
        spInit K C [.ref x, .int n, .ref u, .ref v] (upd (upd G dx' (.own x)) x (.ins C dx' [])) (fun r G2 => r = .non ∧ Q (.ref x) G2) E0 := by
      intro G u v as1 ts1 sG hu hv pA pT x dx' nx ndx nex
      have sm : Same G (upd (upd G dx' (.own x)) x (.ins C dx' [])) := fun b o e => by
        rw [upd_ne (ne_of_none e nx), upd_ne (ne_of_none e ndx)]
        exact e
      refine ⟨x, dx', u, v, n, as1, ts1, rfl, upd_same, pl_s hu sm, pa2_s hv sm, n6, prs_perm pas pA, acy_perm ac pA, prs_perm pts pT, (fun z hz => lt z (pT.mem_iff.mp hz)), fun G2 as' ts' keep sA sT PA => ⟨rfl, ?_⟩⟩
      have sG2 : Same G G2 := fun b o e => keep b o (ne_of_none e nx) (sm b o e)
      exact q G2 x as' ts' (sx3.trans (smx_of (sG.trans sG2))) (pot_s p3 (sG.trans sG2)) (sA.1.trans pA) (sT.1.trans pT) PA
    refine ite2 (fun hd => ?_) (fun hd => ?_)
    · refine ⟨_, rfl, l2, xs, rfl, sl_of hl3, fun l3 hl30 => ?_⟩
      have s4 : Same H3 (upd H3 l3 (.lst xs.reverse)) := same_new hl30
      refine ⟨_, rfl, m2, ys, rfl, .inl ⟨sl_of (s4 _ _ hm3), fun m3 hm30 => ⟨_, _, rfl, ?_⟩⟩⟩
      have s5 := s4.trans (same_new (o := .tup ys) hm30)
      have n33 : l3 ≠ m3 := fun z => by rw [← z, upd_same] at hm30; cases hm30
      refine ⟨_, rfl, p, _, _, _, rfl, rfl, st_of (s5 _ _ hp3), rfl, _, rfl, _, rfl, fun x dx' nx ndx nex => ?_⟩
      exact make _ l3 m3 as.reverse ts s5 ⟨xs.reverse, sl_of (by rw [upd_ne n33, upd_same]), dps_s (dps_rev dx3) s5⟩ ⟨ys, .inr (st_of upd_same), dps_s dy3 s5⟩ (List.reverse_perm _) (List.Perm.refl _) x dx' nx ndx nex
    · refine ⟨_, rfl, p, _, _, _, rfl, rfl, st_of hp3, rfl, _, rfl, _, rfl, fun x dx' nx ndx nex => ?_⟩
      exact make _ l2 m2 as ts (fun _ _ h => h) ⟨xs, sl_of hl3, dx3⟩ ⟨ys, .inl (sl_of hm3), dy3⟩ (List.Perm.refl _) (List.Perm.refl _) x dx' nx ndx nex
end
end Tk

namespace Tk
open PySem PySem.Spec PyProof.Rows L2
/-- what the rule of repr asks of data -/
structure RepOk (d : PyData) : Prop where
  sh : d.showable = true
  nd : d.hasDict = false
  dp : d.depth ≤ 50
  sz : d.shown.length ≤ sizeLine
theorem log2_lt {k : Nat} (h : k < 10 ^ 12) : k.log2 < 40 := by
  by_cases h0 : k = 0
  · subst h0; decide
  · have := (Nat.log2_lt h0 (k := 40)).mpr (Nat.lt_of_lt_of_le h (by decide))
    exact this
theorem ints_facts : ∀ {ns : List Int}, (∀ n ∈ ns, n.natAbs < 10 ^ 12) → PyData.showableAll (ns.map .int) = true ∧ PyData.hasDictAll (ns.map .int) = false ∧ PyData.depthAll (ns.map .int) = 0 ∧ PyData.canLayAll0 (ns.map .int) = true ∧ PyData.weightAll (ns.map .int) ≤ 42 * ns.length
  | [], _ => ⟨by simp [PyData.showableAll], by simp [PyData.hasDictAll], by simp [PyData.depthAll], by simp [PyData.canLayAll0], by simp [PyData.weightAll]⟩
  | n :: ns, h => by
    obtain ⟨a, b, c, d, e⟩ := ints_facts (ns := ns) fun m hm => h m (List.mem_cons_of_mem _ hm)
    have hn := log2_lt (h n (List.mem_cons_self ..))
    refine ⟨?_, ?_, ?_, ?_, ?_⟩
    · simp only [List.map_cons, PyData.showableAll, PyData.showable, a, Bool.and_true, decide_eq_true_eq]; omega
    · simp only [List.map_cons, PyData.hasDictAll, PyData.hasDict, b, Bool.or_false]
    · simp only [List.map_cons, PyData.depthAll, PyData.depth, c, Nat.max_self]
    · simp only [List.map_cons, PyData.canLayAll0, PyData.canLay0, d, Bool.and_true]
    · simp only [List.map_cons, PyData.weightAll, PyData.weight, List.length_cons]
      split <;> omega
theorem rep_ints {ns : List Int} (h : ∀ n ∈ ns, n.natAbs < 10 ^ 12) (hl : ns.length ≤ 1000) : RepOk (.list (ns.map .int)) := by
  obtain ⟨a, b, c, d, e⟩ := ints_facts h
  refine ⟨by simp only [PyData.showable]; exact a, by simp only [PyData.hasDict]; exact b, by simp only [PyData.depth]; omega, ?_⟩
  refine PyData.shown_fits (B := 13) (by decide) (by decide) ?_ ?_
  · simp only [PyData.leavesShort]
    exact PyData.leavesShortAll_of_canLay0 13 _ d (PyData.intsShortAll_ints ns h)
  · simp only [PyData.weight]; omega
theorem bools_facts : ∀ (bs : List Bool), PyData.showableAll (bs.map .bool) = true ∧ PyData.hasDictAll (bs.map .bool) = false ∧ PyData.depthAll (bs.map .bool) = 0 ∧ PyData.canLayAll0 (bs.map .bool) = true ∧ PyData.weightAll (bs.map .bool) ≤ 42 * bs.length
  | [] => ⟨by simp [PyData.showableAll], by simp [PyData.hasDictAll], by simp [PyData.depthAll], by simp [PyData.canLayAll0], by simp [PyData.weightAll]⟩
  | n :: ns => by
    obtain ⟨a, b, c, d, e⟩ := bools_facts ns
    refine ⟨?_, ?_, ?_, ?_, ?_⟩
    · simp only [List.map_cons, PyData.showableAll, PyData.showable, a, Bool.and_true]
    · simp only [List.map_cons, PyData.hasDictAll, PyData.hasDict, b, Bool.or_false]
    · simp only [List.map_cons, PyData.depthAll, PyData.depth, c, Nat.max_self]
    · simp only [List.map_cons, PyData.canLayAll0, PyData.canLay0, d, Bool.and_true]
    · simp only [List.map_cons, PyData.weightAll, PyData.weight, List.length_cons]
      omega
theorem rep_bools {bs : List Bool} (hl : bs.length ≤ 1000) : RepOk (.list (bs.map .bool)) := by
  obtain ⟨a, b, c, d, e⟩ := bools_facts bs
  refine ⟨by simp only [PyData.showable]; exact a, by simp only [PyData.hasDict]; exact b, by simp only [PyData.depth]; omega, ?_⟩
  refine PyData.shown_fits (B := 13) (by decide) (by decide) ?_ ?_
  · simp only [PyData.leavesShort]
    exact PyData.leavesShortAll_of_canLay0 13 _ d (PyData.intsShortAll_bools 13 bs)
  · simp only [PyData.weight]; omega

/-! ## calls with keywords alone, named in the parameters' order from behind -/
def tKwR (m : Nat) (sp : Sp) (t : L2.TA) : TE := fun σ H Q => t σ H fun zs H1 => zs.length = m ∧ sp zs.reverse H1 Q E0
section
variable {X : Cx} {k : Nat} {f : Addr} {fd : FuncData} {ps ks : List Str} {sp : Sp} {x : Str} {p pos : Pos} {kws : List Keyword} {t : L2.TA}
theorem vals_app {xs ys : List V} {us ws : List Value} (h : Vals xs us) (g : Vals ys ws) : Vals (xs ++ ys) (us ++ ws) := h.append g
theorem vals_rev : ∀ {xs : List V} {us : List Value}, Vals xs us → Vals xs.reverse us.reverse
  | _, _, .nil => .nil
  | _, _, .cons r t => by
    rw [List.reverse_cons, List.reverse_cons]
    exact (vals_rev t).append (.cons r .nil)
theorem pe_kwR (F : FnOk X.prog X.w X.K X.mg X.base CX0 k f fd ps sp) (hr : Room k X.A) (hg : Gl X x) (hm : X.mg x = some (.ref f)) (hk : PySem.W.keepIn X.K (.ref f) = true)
    (hb : ∀ (s : Shared) (ws : List Value), ws.length = ks.length → BindsTo s fd ⟨[], ks.zip ws⟩ (ps.zip ws.reverse))
    (hkw : PK X kws t) (hall : (backToKw pos (keywordEach kws X.env)).all (·.1.isSome) = true := by rfl) (hks : (backToKw pos (keywordEach kws X.env)).filterMap (·.1) = ks := by rfl) (hdb : (x == ("__debug__" : Str)) = false := by decide)
    (hpl : ((backTo pos (starEach [] X.env)).any (·.1) || (backToKw pos (keywordEach kws X.env)).any (·.1.isNone)) = false := by rfl) :
    PE X (.Call (.Name x p) [] kws pos) (tKwR ks.length sp t) := by
  constructor
  intro pins s σ H Q I h
  apply wpAny_Call_Name_kw
  apply ld_glob I hg hm _ hdb
  refine PySem.W.callWith_KW0 (h₀ := X.base) I.ok.mod.kin hk hall (thn (hkw.run pos pins s σ H _ I h) ?_) hpl
  rintro ws s1 ⟨zs, H1, I1, rv, lz, q⟩
  refine ⟨I1.kIn, ?_⟩
  rw [hks]
  have lw : ws.length = ks.length := by rw [← rv.length]; exact lz
  apply wpAny_call
  refine codeAny_mono (F.run X.A X.stack s1 H1 ⟨[], ks.zip ws⟩ ws.reverse zs.reverse Q E0 hr I1.env0 (hb s1 ws lw) (vals_rev rv) q) ?_
  intro r s' hq
  cases r with
  | error er => exact hq.elim
  | ok fl =>
    cases fl with
    | ret u => exact I1.after hq
    | next => exact hq.elim
    | brk => exact hq.elim
    | cont => exact hq.elim
end
end Tk
namespace Tk
open PySem
structure GoodD (d : PyData) (k W : Nat) : Prop where
  sh : d.showable = true
  nd : d.hasDict = false
  dp : d.depth ≤ k
  cl : d.canLay0 = true
  ish : d.intsShort 13 = true
  wt : d.weight ≤ W
structure GoodA (ds : List PyData) (k W : Nat) : Prop where
  sh : PyData.showableAll ds = true
  nd : PyData.hasDictAll ds = false
  dp : PyData.depthAll ds ≤ k
  cl : PyData.canLayAll0 ds = true
  ish : PyData.intsShortAll 13 ds = true
  wt : PyData.weightAll ds ≤ W
theorem goodA_ints {ns : List Int} (h : ∀ n ∈ ns, n.natAbs < 10 ^ 12) : GoodA (ns.map .int) 0 (42 * ns.length) := by
  obtain ⟨a, b, c, d, e⟩ := ints_facts h
  exact ⟨a, b, by omega, d, PyData.intsShortAll_ints ns h, e⟩
theorem goodD_list {ds : List PyData} {k W : Nat} (g : GoodA ds k W) : GoodD (.list ds) (k + 1) (W + 64) := by
  refine ⟨by simp only [PyData.showable]; exact g.sh, by simp only [PyData.hasDict]; exact g.nd, ?_, by simp only [PyData.canLay0]; exact g.cl, by simp only [PyData.intsShort]; exact g.ish, ?_⟩
  · have := g.dp
    simp only [PyData.depth]; omega
  · have := g.wt
    simp only [PyData.weight]; omega
theorem goodA_nil {k : Nat} : GoodA [] k 64 := ⟨by simp [PyData.showableAll], by simp [PyData.hasDictAll], by simp [PyData.depthAll], by simp [PyData.canLayAll0], by simp [PyData.intsShortAll], by simp [PyData.weightAll]⟩
theorem goodA_cons {d : PyData} {ds : List PyData} {k W1 W2 : Nat} (g : GoodD d k W1) (h : GoodA ds k W2) : GoodA (d :: ds) k (W1 + W2 + 64) := by
  refine ⟨?_, ?_, ?_, ?_, ?_, ?_⟩
  · simp only [PyData.showableAll, g.sh, h.sh]; rfl
  · simp only [PyData.hasDictAll, g.nd, h.nd]; rfl
  · have a := g.dp
    have b := h.dp
    simp only [PyData.depthAll]; omega
  · simp only [PyData.canLayAll0, g.cl, h.cl]; rfl
  · simp only [PyData.intsShortAll, g.ish, h.ish]; rfl
  · have a := g.wt
    have b := h.wt
    simp only [PyData.weightAll]; omega
theorem goodD_rep {d : PyData} {k W : Nat} (g : GoodD d k W) (hk : k ≤ 50) (hW : W ≤ 100000) : RepOk d :=
  ⟨g.sh, g.nd, Nat.le_trans g.dp hk, PyData.shown_fits (B := 13) (by decide) (by decide) (PyData.leavesShort_of_canLay0 13 d g.cl g.ish) (by have := g.wt; omega)⟩
theorem goodD_mono {d : PyData} {k W W' : Nat} (g : GoodD d k W) (h : W ≤ W') : GoodD d k W' := ⟨g.sh, g.nd, g.dp, g.cl, g.ish, Nat.le_trans g.wt h⟩
/-- short lists of small ints -/
theorem goodA_rows : ∀ {os : List (List Int)}, (∀ o ∈ os, o.length ≤ 6 ∧ ∀ x ∈ o, x.natAbs < 10 ^ 12) → GoodA (os.map fun o => PyData.list (o.map .int)) 1 (400 * os.length + 64)
  | [], _ => goodA_nil
  | o :: os, h => by
    have ho := h o (List.mem_cons_self ..)
    have g1 : GoodD (.list (o.map .int)) 1 316 := goodD_mono (goodD_list (goodA_ints ho.2)) (by have := ho.1; omega)
    have g2 := goodA_rows (os := os) fun p hp => h p (List.mem_cons_of_mem _ hp)
    have g := goodA_cons g1 g2
    refine ⟨g.sh, g.nd, g.dp, g.cl, g.ish, Nat.le_trans g.wt ?_⟩
    rw [List.length_cons]
    omega
theorem rows_rep {os : List (List Int)} (h : ∀ o ∈ os, o.length ≤ 6 ∧ ∀ x ∈ o, x.natAbs < 10 ^ 12) (hl : os.length ≤ 6) : GoodD (.list (os.map fun o => PyData.list (o.map .int))) 2 3000 := goodD_mono (goodD_list (goodA_rows h)) (by omega)
end Tk

namespace Tk
open PySem PySem.Spec PyProof.Rows L2
theorem reach_sub {ps qs : List (Int × Int)} {a b : Int} (s : ∀ p ∈ ps, p ∈ qs) (h : Reach ps a b) : Reach qs a b := by
  induction h with
  | refl => exact .refl
  | tail _ hp ih => exact .tail ih (s _ hp)
theorem heads_congr {as as' : List (Int × Int)} {l : List Int} (e : as'.Perm as) : headsL as' l = headsL as l := by
  unfold headsL
  refine List.filter_congr fun x _ => ?_
  rw [Bool.eq_iff_iff, headB_iff, headB_iff]
  unfold IsHead
  constructor
  · exact fun h y hy => reach_sub (fun ⟨u, v⟩ hp => by rw [mem_upIn] at hp ⊢; exact ⟨e.mem_iff.mp hp.1, hp.2⟩) (h y hy)
  · exact fun h y hy => reach_sub (fun ⟨u, v⟩ hp => by rw [mem_upIn] at hp ⊢; exact ⟨e.mem_iff.mpr hp.1, hp.2⟩) (h y hy)
theorem hang_congr {ts ts' : List (Int × Int)} {l : List Int} (e : ts'.Perm ts) : hangB ts' l = hangB ts l := by
  rw [Bool.eq_iff_iff, hangB_iff, hangB_iff]
  cases l with
  | nil => exact Iff.rfl
  | cons x l =>
    constructor
    · exact fun h y hy => reach_sub (fun ⟨u, v⟩ hp => by rw [mem_tieIn] at hp ⊢; rw [e.mem_iff, e.mem_iff] at hp; exact hp) (h y hy)
    · exact fun h y hy => reach_sub (fun ⟨u, v⟩ hp => by rw [mem_tieIn] at hp ⊢; rw [e.mem_iff, e.mem_iff]; exact hp) (h y hy)
theorem pl_x {K : PySem.W.Frag} {a l : Addr} {H H' : Hp} {ps : List (Int × Int)} (h : PL K H l ps) (pa : Pot H a) (e : SmX a H H') : PL K H' l ps := by
  obtain ⟨x, y, ha, _⟩ := id pa
  obtain ⟨xs, g1, g2⟩ := h
  refine ⟨xs, ?_, dps_x g2 pa e⟩
  rcases g1 with (g | ⟨o, g⟩) | g
  · by_cases c : l = a
    · subst c
      rw [ha] at g
      cases g
      cases ps with
      | nil => cases g2
      | cons z zs =>
        cases g2 with
        | cons k1 _ =>
          obtain ⟨t, q, _⟩ := dP_inv k1
          cases q
    · exact .inl (.inl (e _ _ c g))
  · exact .inl (.inr ⟨o, e _ _ (fun c => by rw [c, ha] at g; cases g) g⟩)
  · exact .inr g
theorem str_eq {d e : PyData} (h : d = e) : V.bl (decide (V.str d.shown = V.str e.shown)) = V.bl true := by subst h; simp
theorem str_ne {d e : PyData} (h : d = e) : V.bl (!decide (V.str d.shown = V.str e.shown)) = V.bl false := by subst h; simp
/-- the data of the first of a list, or None -/
def topD : List Int → PyData
  | [] => .none
  | x :: _ => .int x
theorem dp_top {K : PySem.W.Frag} {H : Hp} : ∀ (l : List Int), Dp K H (topV l) (topD l)
  | [] => .non
  | x :: _ => .int x
theorem goodD_none : GoodD .none 0 64 := ⟨by simp [PyData.showable], by simp [PyData.hasDict], by simp [PyData.depth], by simp [PyData.canLay0], by simp [PyData.intsShort], by simp [PyData.weight]⟩
theorem goodD_int {x : Int} (h : x.natAbs < 10 ^ 12) : GoodD (.int x) 0 64 := by
  have g := goodA_ints (ns := [x]) fun y hy => by rw [List.mem_singleton.mp hy]; exact h
  refine ⟨?_, by simp [PyData.hasDict], by simp [PyData.depth], by simp [PyData.canLay0], ?_, ?_⟩
  · have := g.sh
    simpa [PyData.showableAll] using this
  · have := g.ish
    simpa [PyData.intsShortAll] using this
  · have := g.wt
    simp only [List.map_cons, List.map_nil, PyData.weightAll, List.length_cons, List.length_nil] at this
    omega
theorem top_rep {l : List Int} (h : ∀ x ∈ l, x.natAbs < 10 ^ 12) : RepOk (.list [topD l, topD l]) := by
  have g : GoodD (topD l) 0 64 := by
    cases l with
    | nil => exact goodD_none
    | cons x l => exact goodD_int (h x (List.mem_cons_self ..))
  exact goodD_rep (goodD_list (goodA_cons g (goodA_cons g goodA_nil))) (by decide) (by decide)
theorem rep_tup {ns : List Int} (h : ∀ n ∈ ns, n.natAbs < 10 ^ 12) (hl : ns.length ≤ 1000) : RepOk (.tuple (ns.map .int)) := by
  obtain ⟨a, b, c, d, e⟩ := ints_facts h
  refine ⟨by simp only [PyData.showable]; exact a, by simp only [PyData.hasDict]; exact b, by simp only [PyData.depth]; omega, ?_⟩
  refine PyData.shown_fits (B := 13) (by decide) (by decide) ?_ ?_
  · simp only [PyData.leavesShort]
    exact PyData.leavesShortAll_of_canLay0 13 _ d (PyData.intsShortAll_ints ns h)
  · simp only [PyData.weight]; omega
/-- what is given stands as a tuple or as a list -/
def GivenAt (K : PySem.W.Frag) (H : Hp) (g : Addr) (l : List Int) (d : PyData) : Prop := (SqT K H g (l.map V.int) ∧ d = .tuple (l.map .int)) ∨ (SqL K H g (l.map V.int) ∧ d = .list (l.map .int))
theorem given_s {K : PySem.W.Frag} {H H' : Hp} {g : Addr} {l : List Int} {d : PyData} (h : GivenAt K H g l d) (e : Same H H') : GivenAt K H' g l d :=
  h.elim (fun z => .inl ⟨same_t e z.1, z.2⟩) (fun z => .inr ⟨same_l e z.1, z.2⟩)
theorem given_a {K : PySem.W.Frag} {H : Hp} {g : Addr} {l : List Int} {d : PyData} (h : GivenAt K H g l d) : SqA K H g (l.map V.int) := h.elim (fun z => .inr z.1) (fun z => .inl z.1)
theorem given_d {K : PySem.W.Frag} {H : Hp} {g : Addr} {l : List Int} {d : PyData} (h : GivenAt K H g l d) : Dp K H (.ref g) d := by
  rcases h with ⟨h, rfl⟩ | ⟨h, rfl⟩
  · exact .tup h (dps_ints l)
  · exact .lst h (dps_ints l)
theorem given_rep {K : PySem.W.Frag} {H : Hp} {g : Addr} {l : List Int} {d : PyData} (h : GivenAt K H g l d) (sm : ∀ n ∈ l, n.natAbs < 10 ^ 12) (hl : l.length ≤ 1000) : RepOk d := by
  rcases h with ⟨h, rfl⟩ | ⟨h, rfl⟩
  · exact rep_tup sm hl
  · exact rep_ints sm hl
theorem lot_small {n : Nat} {l : List Int} (h : Lot n l) (n6 : n ≤ 6) : ∀ x ∈ l, x.natAbs < 10 ^ 12 := fun x hx => by
  have := mem_things.mp (h.2 x hx)
  have : (10 : Nat) ^ 12 = 1000000000000 := by decide
  omega
/-! which of the bent lots are lots -/
def LotY (n : Nat) (o : Option (List (Option Int))) (b : Bool) : Prop := b = true ↔ ∃ l, LotO n o l
theorem loty_rev {n : Nat} {l : List Int} (h : Lot n l) : LotY n (some (l.reverse.map some)) (decide (l.length < 2)) := by
  unfold LotY
  rw [decide_eq_true_eq]
  constructor
  · intro hl
    refine ⟨l, ?_, h⟩
    match l, hl with
    | [], _ => rfl
    | [x], _ => rfl
  · rintro ⟨m, e, hm⟩
    have e' := some_inj (Option.some.inj e)
    subst e'
    match l, h, hm with
    | [], _, _ => simp
    | [x], _, _ => simp
    | x :: y :: l, h, hm =>
      have h1 := (List.pairwise_cons.mp h.1).1 y (by simp)
      have h2 := List.pairwise_reverse.mp hm.1
      have h3 := (List.pairwise_cons.mp h2).1 y (by simp)
      omega
theorem loty_dup {n : Nat} {l : List Int} (h : Lot n l) : LotY n (some ((l ++ l.take 1).map some)) (decide (l = [])) := by
  unfold LotY
  rw [decide_eq_true_eq]
  constructor
  · rintro rfl
    exact ⟨[], rfl, h⟩
  · rintro ⟨m, e, hm⟩
    have e' := some_inj (Option.some.inj e)
    subst e'
    cases l with
    | nil => rfl
    | cons x l =>
      have nd := lt_nd hm.1
      simp at nd
theorem loty_big {n : Nat} {l : List Int} : LotY n (some ((l ++ [(n : Int)]).map some)) false := by
  refine ⟨fun z => (nomatch z), ?_⟩
  rintro ⟨m, e, hm⟩
  have e' := some_inj (Option.some.inj e)
  subst e'
  have := mem_things.mp (hm.2 (n : Int) (by simp))
  omega
theorem loty_none {n : Nat} {os : List (Option Int)} : LotY n (some (none :: os)) false := by
  refine ⟨fun z => (nomatch z), ?_⟩
  rintro ⟨m, e, hm⟩
  cases m with
  | nil => cases Option.some.inj e
  | cons x m =>
    have := (List.cons.inj (Option.some.inj e)).1
    cases this
theorem each_app {K : PySem.W.Frag} {H : Hp} : ∀ {xs ys : List V} {os ps : List (Option Int)}, EachV K H xs os → EachV K H ys ps → EachV K H (xs ++ ys) (os ++ ps)
  | [], _, [], _, _, h => h
  | x :: xs, _, o :: os, _, ⟨h1, h2⟩, h => ⟨h1, each_app h2 h⟩
  | [], _, _ :: _, _, h, _ => h.elim
  | _ :: _, _, [], _, h, _ => h.elim
theorem tail_cut (l : List Int) : cutV (l.map V.int) (some 1) none = (l.drop 1).map V.int := by
  cases l with
  | nil => rfl
  | cons x l =>
    unfold cutV HT.sIx
    simp
    exact List.take_of_length_le (by simp)
theorem head_cut (l : List Int) : cutV (l.map V.int) none (some 1) = (l.take 1).map V.int := by
  cases l with
  | nil => rfl
  | cons n ns =>
    unfold cutV HT.sIx
    simp [List.length_map]
end Tk

namespace Tk
open PySem PySem.Spec PyProof.Rows L2
/-- values of which repr is known: None, bools, ints, lists and tuples of data -/
def ReprOk (v : V) (d : PyData) : Prop := match v with
  | .non => True
  | .bl _ => True
  | .int i => i.natAbs.log2 < 1920
  | .ref _ => RepOk d
  | _ => False
section
variable {X : Cx}
def rRepV (K : PySem.W.Frag) : List V → Hp → VK → Prop := fun xs H Q => ∃ (v : V) (d : PyData), xs = [v] ∧ Dp K H v d ∧ ReprOk v d ∧ Q (.str d.shown) H
theorem call_reprV (hgd : X.A.guards = some []) (hu : X.A.units + 64 < cLine) : CallR X (.builtin "repr") (rRepV X.K) := by
  intro pins s σ H xs us Q I r h
  obtain ⟨v, d, rfl, hd, ok, q⟩ := h
  cases hd with
  | non =>
    cases r with
    | cons r1 r2 =>
      cases r2
      cases r1
      exact PySem.P.repr_of_none ⟨.str "None", H, I.tok _, ⟨_, rfl⟩, q⟩
  | bl b =>
    cases r with
    | cons r1 r2 =>
      cases r2
      cases r1
      exact PySem.P.repr_of_bool ⟨.str (if b then "True" else "False"), H, I.tok _, ⟨_, rfl⟩, q⟩
  | int i =>
    cases r with
    | cons r1 r2 =>
      cases r2
      obtain ⟨t, rfl⟩ := r1
      exact PySem.P.repr_of_int ok ⟨.str (toString i), H, I.tok _, ⟨_, rfl⟩, q⟩
  | str x => exact ok.elim
  | @lst a xs ds h1 h2 => exact call_reprD hgd hu pins s σ H _ us Q I r ⟨a, _, rfl, .lst h1 h2, ok.sh, ok.nd, ok.dp, ok.sz, q⟩
  | @tup a xs ds h1 h2 => exact call_reprD hgd hu pins s σ H _ us Q I r ⟨a, _, rfl, .tup h1 h2, ok.sh, ok.nd, ok.dp, ok.sz, q⟩
end
end Tk

namespace Tk
open PySem PySem.Spec PyProof.Rows L2
theorem filter_snoc {α : Type} (f : α → Bool) (l : List α) (x : α) : (l ++ [x]).filter f = if f x = true then l.filter f ++ [x] else l.filter f := by
  rw [List.filter_append]
  by_cases c : f x = true
  · rw [if_pos c, List.filter_cons_of_pos c]; rfl
  · rw [if_neg c, List.filter_cons_of_neg c]; simp
theorem eqv_nil (ds : List PyData) : PyData.eqv (.list ds) (.list []) = ds.isEmpty := by
  cases ds with
  | nil => simp [PyData.eqv, PyData.eqvAll]
  | cons d ds => simp [PyData.eqv, PyData.eqvAll]
theorem shaped_good {d : PyData} {k W : Nat} (g : GoodD d k W) (h : k ≤ 64) : SeqAt.shaped d = true := by
  unfold SeqAt.shaped
  rw [Bool.and_eq_true]
  exact ⟨g.cl, decide_eq_true (Nat.le_trans g.dp h)⟩
theorem any_lints {gs : List (List Int)} {o : List Int} : ((gs.map fun o => PyData.list (o.map .int)).any fun z => PyData.eqv z (.list (o.map .int))) = decide (o ∈ gs) := by
  induction gs with
  | nil => simp
  | cons p gs ih =>
    rw [List.map_cons, List.any_cons, ih, eqv_lints]
    by_cases c : p = o
    · subst c; simp
    · have : ¬ o = p := fun e => c e.symm
      simp [c, this]
theorem ls_x {a : Addr} {H H' : Hp} (e : SmX a H H') : ∀ {xs : List V} {os : List (List Int)}, LsAt H xs os → (∀ x ∈ xs, x ≠ .ref a) → LsAt H' xs os
  | [], [], _, _ => trivial
  | x :: xs, o :: os, ⟨⟨r, h1, h2⟩, h3⟩, n => ⟨⟨r, h1, e _ _ (fun z => n x (List.mem_cons_self ..) (by rw [h1, z])) h2⟩, ls_x e h3 fun y hy => n y (List.mem_cons_of_mem _ hy)⟩
  | [], _ :: _, h, _ => h.elim
  | _ :: _, [], h, _ => h.elim
theorem bar_congr {n : Nat} {as as' ts ts' : List (Int × Int)} {l : List Int} (pA : as'.Perm as) (pT : ts'.Perm ts) (h : Bar n as ts l) : Bar n as' ts' l :=
  ⟨h.lot, h.two, by rw [hang_congr pT]; exact h.hang, by rw [heads_congr pA]; exact h.head⟩
noncomputable def barB (as ts : List (Int × Int)) (l : List Int) : Bool := decide (1 < l.length) && (hangB ts l && !decide (headsL as l = []))
theorem barB_iff {n : Nat} {as ts : List (Int × Int)} {l : List Int} (lot : Lot n l) : barB as ts l = true ↔ Bar n as ts l := by
  unfold barB
  rw [Bool.and_eq_true, Bool.and_eq_true, decide_eq_true_eq, Bool.not_eq_true', decide_eq_false_iff_not]
  exact ⟨fun h => ⟨lot, h.1, h.2.1, h.2.2⟩, fun h => ⟨h.two, h.hang, h.head⟩⟩
def spIsBar (K : PySem.W.Frag) : Sp := fun vs H Q _ => ∃ (p b u v : Addr) (n : Nat) (as ts : List (Int × Int)) (l : List Int), vs = [.ref p, .ref b] ∧ H p = some (.tup [.int n, .ref u, .ref v]) ∧ PL K H u as ∧ PL K H v ts ∧ n ≤ 60 ∧ Prs n as ∧ SqL K H b (l.map V.int) ∧ Lot n l ∧
  ∀ H', Same H H' → Q (.bl (barB as ts l)) H'
/-- all barred lots, in a list of the law's own -/
def spBars (K : PySem.W.Frag) : Sp := fun vs H Q _ => ∃ (p u v : Addr) (n : Nat) (as ts : List (Int × Int)), vs = [.ref p] ∧ H p = some (.tup [.int n, .ref u, .ref v]) ∧ PL K H u as ∧ PL K H v ts ∧ n ≤ 5 ∧ Prs n as ∧
  ∀ (H' : Hp) (r : Addr) (acc : List V) (gs : List (List Int)), Same H H' → H r = none → H' r = some (.lst acc) → LsAt H' acc gs → (∀ z ∈ acc, ∃ t : Addr, z = .ref t ∧ H t = none) → acc.length ≤ 32 → gs.Pairwise (· ≤ ·) → gs.Nodup → (∀ o, o ∈ gs ↔ Bar n as ts o) → Q (.ref r) H'
theorem allLots_nd : ∀ n, (allLots n).Nodup
  | 0 => by unfold allLots; simp
  | k + 1 => by
    unfold allLots
    rw [List.nodup_append]
    refine ⟨allLots_nd k, ?_, ?_⟩
    · show List.Pairwise _ _
      rw [List.pairwise_map]
      exact List.Pairwise.imp (fun {a b} h e => h (List.append_cancel_right e)) (allLots_nd k)
    · intro a ha b hb e
      subst e
      obtain ⟨m, _, rfl⟩ := List.mem_map.mp hb
      have := mem_things.mp ((allLots_lot ha).2 (Int.ofNat k) (by simp))
      have h2 : (Int.ofNat k) = (k : Int) := rfl
      omega
section
variable {P : Program} {w : World} {K : PySem.W.Frag} {mg : Str → Option Value} {base : Heap}
theorem sc_isBar : FnScope ["_law_world_here", "_law_lot"] ["_law_world_here", "_law_lot"] (defScope sIsBar) := ⟨rfl, rfl, rfl, by decide +kernel, rfl, by decide +kernel, by decide +kernel⟩
theorem ok_isBar {f f1 f2 : Addr} {fd fd1 fd2 : FuncData} (F : Fun K "_law_is_bar" "_law_is_bar" sIsBar f fd) (D1 : Df K mg "_law_hangs" sLHangs ["_law_ties", "_law_lot"] f1 fd1) (G1 : FnOk P w K mg base CX0 2 f1 fd1 ["_law_ties", "_law_lot"] (spLHangs K))
    (D2 : Df K mg "_law_heads" sHeads ["_law_arrows", "_law_lot"] f2 fd2) (G2 : FnOk P w K mg base CX0 2 f2 fd2 ["_law_arrows", "_law_lot"] (spHeads K)) (B : Bl mg) : FnOk P w K mg base CX0 3 f fd ["_law_world_here", "_law_lot"] (spIsBar K) := by
  refine F.ok sc_isBar (fun vs H Q E h => ?_) (fun cdv A outer s H vs Q E hr h => ?_)
  · obtain ⟨p, b, u, v, n, as, ts, l, rfl, _⟩ := h
    rfl
  · obtain ⟨p, b, u, v, n, as, ts, l, rfl, hp, hA, hT, n60, pas, hb, lot, q⟩ := h
    refine ⟨_, pss_one (ps_ret (pe_and (pe_cmpR op_gt (pe_callB call_len_seq (by rfl) B.len PySem.boot_len (pa_cons (pv 1) pa_nil)) pe_int (nomark _))
      (pe_and (pe_call G1 hr rfl D1.g D1.F.kp D1.b .nil pass0 (pa_cons (pe_ix ix_tup (pv 0) pe_int (fun _ _ => rfl)) (pa_cons (pv 1) pa_nil)))
      (pe_one (pe_cmpR (op_neD hr.units) (pe_call G2 hr rfl D2.g D2.F.kp D2.b .nil pass0 (pa_cons (pe_ix ix_tup (pv 0) pe_int (fun _ _ => rfl)) (pa_cons (pv 1) pa_nil))) (pe_lst pa_nil) (nomark _)))))), ?_⟩
    refine ⟨_, rfl, b, _, rfl, .inl hb, _, _, rfl, rfl, _, rfl, ?_⟩
    have e1 : decide (((l.map V.int).length : Int) > 1) = decide (1 < l.length) := by
      rw [List.length_map]
      by_cases c : 1 < l.length
      · rw [decide_eq_true c]; exact decide_eq_true (by omega)
      · rw [decide_eq_false c]; exact decide_eq_false (by omega)
    rw [e1]
    unfold barB at q
    by_cases c1 : 1 < l.length
    · rw [decide_eq_true c1] at q ⊢
      refine ⟨_, rfl, p, _, _, _, rfl, rfl, st_of hp, rfl, _, rfl, v, b, n, ts, l, rfl, hT, n60, hb, lot, fun H1 s1 => ⟨_, rfl, ?_⟩⟩
      cases c2 : hangB ts l with
      | false =>
        rw [c2] at q
        exact q H1 s1
      | true =>
        rw [c2] at q
        refine ⟨_, rfl, p, _, _, _, rfl, rfl, st_of (s1 _ _ hp), rfl, _, rfl, u, b, n, as, l, rfl, pl_s hA s1, n60, pas, same_l s1 hb, lot, fun H2 r s2 hr0 hr2 => ?_⟩
        refine ⟨szle (by decide), fun z hz => ?_⟩
        have s3 : Same H2 (upd H2 z (.lst [])) := same_new hz
        refine ⟨.list ((headsL as l).map .int), .list [], .lst (sl_of (s3 _ _ hr2)) (dps_ints _), .lst (sl_of upd_same) .nil, shaped_ints _, by rfl, ?_⟩
        rw [eqv_lnil]
        exact q _ ((s1.trans s2).trans s3)
    · rw [decide_eq_false c1] at q ⊢
      exact q H (fun _ _ h => h)
abbrev nBars : List Str := ["_law_world_here", "_law_lot"]
end
end Tk

namespace Tk
open PySem PySem.Spec PyProof.Rows L2
/-! ## repr of any of some values: data, texts, two dicts -/
inductive ShownV (K : PySem.W.Frag) (H : Hp) : V → Str → Prop
  | dp {v : V} {d : PyData} (h : Dp K H v d) (ok : ReprOk v d) : ShownV K H v d.shown
  | str (x : Str) (ok : (reprText x).length ≤ sizeLine) : ShownV K H (.str x) (reprText x)
  | d0 {a : Addr} (h : H a = some (.dK [])) : ShownV K H (.ref a) (PyData.dict []).shown
  | d1 {a : Addr} (h : H a = some (.dK [(.inl 0, .int 1)])) : ShownV K H (.ref a) (PyData.dict [(.int 0, .int 1)]).shown
theorem shown_s {K : PySem.W.Frag} {H H' : Hp} {v : V} {t : Str} (h : ShownV K H v t) (e : Same H H') : ShownV K H' v t := by
  cases h with
  | dp h ok => exact .dp (dp_s h e) ok
  | str x ok => exact .str x ok
  | d0 h => exact .d0 (e _ _ h)
  | d1 h => exact .d1 (e _ _ h)
section
variable {X : Cx}
def rRepX (K : PySem.W.Frag) : List V → Hp → VK → Prop := fun xs H Q => ∃ (v : V) (t : Str), xs = [v] ∧ ShownV K H v t ∧ Q (.str t) H
theorem rep_dict {pins : List (Addr × Obj)} {σ : L2.St} {H : Hp} {s : Shared} {a : Addr} {d : PyData} {as : List Addr} {Q : VK} (hgd : X.A.guards = some []) (hu : X.A.units + 64 < cLine) (I : Inv X pins σ H s) (rd : Reads s.heap (.ref a) d as) (sh : d.showable = true) (ns : ¬ sysModules ∈ as)
    (dp : d.depth ≤ 50) (len : d.shown.length ≤ sizeLine) (q : Q (.str d.shown) H) : wpAny (model X.prog X.w) X.A (call (.builtin "repr") [.ref a]) (EP X pins σ Q) X.xe s :=
  repr_of_reads' rd sh (fun _ => ns) hgd (by omega) (fun _ _ h => h) (fun h' u tk keep => ⟨.str d.shown, H, I.kept keep, ⟨u, rfl⟩, q⟩) len
theorem call_reprX (hgd : X.A.guards = some []) (hu : X.A.units + 64 < cLine) : CallR X (.builtin "repr") (rRepX X.K) := by
  intro pins s σ H xs us Q I r h
  obtain ⟨v, t, rfl, hs, q⟩ := h
  cases hs with
  | dp h ok => exact call_reprV hgd hu pins s σ H _ us Q I r ⟨_, _, rfl, h, ok, q⟩
  | str x ok =>
    cases r with
    | cons r1 r2 =>
      cases r2
      obtain ⟨t, rfl⟩ := r1
      exact PySem.P.repr_of_str ⟨.str (reprText x), H, I.tok _, ⟨_, rfl⟩, q⟩ ok
  | @d0 a h =>
    rw [Vals.ref1 r]
    obtain ⟨_, ns, vs, kv, o, es, ep, hg, ex, hd, _, pr, _⟩ := dk_of I.hok h
    have n1 : a ≠ sysModules := fun e => by rw [e] at ns; exact absurd ns (by decide)
    cases kv
    have e0 : es.toList = [] := by cases hl : es.toList with
      | nil => rfl
      | cons x xs => rw [hl] at pr; cases pr
    refine rep_dict hgd hu I (as := [a]) (.dict hg ex.1 hd (as := []) (bs := []) (by rw [e0]; exact .nil) (by rw [e0]; exact .nil)) (by decide +kernel) ?_ (by decide +kernel) (by decide +kernel) q
    intro hm
    exact n1 (List.mem_singleton.mp hm).symm
  | @d1 a h =>
    rw [Vals.ref1 r]
    obtain ⟨_, ns, vs, kv, o, es, ep, hg, ex, hd, _, pr, _⟩ := dk_of I.hok h
    have n1 : a ≠ sysModules := fun e => by rw [e] at ns; exact absurd ns (by decide)
    cases kv with
    | @cons _ q2 _ rest h1 hr =>
      cases hr
      obtain ⟨k0, v0⟩ := q2
      obtain ⟨e1, t1, e2⟩ := h1
      simp only at e1 e2
      subst e1
      subst e2
      obtain ⟨e, he, hk, hv⟩ : ∃ e, es.toList = [e] ∧ (mixKind X.prog X.w).is (.inl 0) e.key = true ∧ e.val = .int 1 t1 := by
        cases hl : es.toList with
        | nil => rw [hl] at pr; cases pr
        | cons x xs =>
          rw [hl] at pr
          cases pr with
          | cons h1 h2 h3 =>
            cases h3
            exact ⟨x, rfl, h1, h2⟩
      obtain ⟨tk, ek⟩ : ∃ tk, e.key = .int 0 tk := by
        revert hk
        show keyIs (.inl 0) e.key = true → _
        cases e.key with
        | int i t =>
          intro hk
          have : i = 0 := by simpa [keyIs, Value.isInt] using hk
          exact ⟨t, by rw [this]⟩
        | _ => intro hk; simp [keyIs, Value.isInt] at hk
      refine rep_dict hgd hu I (as := [a]) (.dict hg ex.1 hd (as := []) (bs := []) ?_ ?_) (by decide +kernel) ?_ (by decide +kernel) (by decide +kernel) q
      · rw [he]
        show ReadsAll _ [e.key] [PyData.int 0] []
        rw [ek]
        exact .cons (.int 0 tk) .nil
      · rw [he]
        show ReadsAll _ [e.val] [PyData.int 1] []
        rw [hv]
        exact .cons (.int 1 t1) .nil
      · intro hm
        exact n1 (List.mem_singleton.mp hm).symm
end
end Tk

/-! enumerate of a list or a tuple -/
namespace Tk
open PySem PySem.Spec PyProof.Rows L2
theorem meets_enum1 {v : Value} {o : Obj} {H : Heap → Prop} (B : Begins v o H) :
    Meets (Builtin.«enumerate.__new__» ⟨[.type "enumerate", v], []⟩) (fun _ R s => H s.heap ∧
      R (.ok (.ret (.ref (s.heap.push o).objs.size))) { s with heap := (s.heap.push o).push { cls := .type "enumerate", data := .fields #[.none, .bool false, .ref s.heap.objs.size, rawInt 0, .none, .none] } }) :=
  .of_wp fun prog w A R s h => by
    obtain ⟨hp, g, d, tk, os⟩ := s; obtain ⟨h1, h⟩ := h
    have hsub := sub_enumerate
    have q1 : ∀ {A' : Around} {E : Value → Shared → Prop} {Q : Value → Shared → Prop}, Q (.ref hp.objs.size) ⟨hp.push o, g, d, tk, os⟩ → wpAny (model prog w) A' (pyIter v) Q E ⟨hp, g, d, tk, os⟩ :=
      fun q => B.iter prog w _ _ ⟨hp, g, d, tk, os⟩ _ h1 q
    wp_walk using q1
    refine wpAny_stack_any fun st => wpAny_pure ?_
    split
    · rename_i c _ _ _ _ _
      cases (c == Value.type "enumerate")
      · wp_walk using q1
        exact ⟨_, rfl, h⟩
      · wp_walk using q1
        exact ⟨_, rfl, h⟩
    · wp_walk using q1
      exact ⟨_, rfl, h⟩
theorem enum_begins1 {prog : Program} {w : World} {A : Around} {E : Value → Shared → Prop} {s : Shared} {v : Value} {o : Obj} {H : Heap → Prop} {Q : Value → Shared → Prop} (B : Begins v o H) (h1 : H s.heap)
    (h : ∀ h', IsEnum h' (s.heap.objs.size + 1) s.heap.objs.size 0 .none → h'.get? s.heap.objs.size = some o → h'.objs.size = s.heap.objs.size + 2 →
      (∀ b o, s.heap.get? b = some o → h'.get? b = some o) → Q (.ref (s.heap.objs.size + 1)) { s with heap := h' }) :
    wpAny (model prog w) A (call (.type "enumerate") [v]) Q E s := by
  refine callType_new F.called_enumerate (by decide) (F.typeCall_enumerate_1 _) (F.newCall_enumerate_1 _) (fun obj => F.args_object_init_2 obj _) F.entry_enumerate_new
    (meets_enum1 B) ⟨h1, ?_⟩
  have hz : (s.heap.push o).objs.size = s.heap.objs.size + 1 := Heap.size_push ..
  show _ ∧ _
  rw [hz]
  have he : IsEnum ((s.heap.push o).push { cls := .type "enumerate", data := .fields #[.none, .bool false, .ref s.heap.objs.size, rawInt 0, .none, .none] }) (s.heap.objs.size + 1) s.heap.objs.size 0 .none := by
    have := Heap.get?_push_size (s.heap.push o) (o := { cls := .type "enumerate", data := .fields #[.none, .bool false, .ref s.heap.objs.size, rawInt 0, .none, .none] }) rfl
    rw [hz] at this; exact this
  refine ⟨⟨_, he, rfl⟩, h _ he (Heap.get?_push_of_some _ (Heap.get?_push_size _ B.free)) (by rw [Heap.size_push, hz]) fun b o x => Heap.get?_push_of_some _ (Heap.get?_push_of_some _ x)⟩
/-- the tuple at a, each item in a new pair -/
def IteT (K : PySem.W.Frag) (a : Addr) : It :=
  ⟨fun i H => ∃ (xs : List V) (x : V), SqT K H a xs ∧ xs[i]? = some x, fun i H v H' => ∃ T x, v = .ref T ∧ H T = none ∧ H' = upd H T (.tup [.int (i : Nat), x]) ∧ ∀ xs, SqT K H a xs → xs[i]? = some x, fun i H => ∃ xs : List V, SqT K H a xs ∧ xs.length = i⟩
theorem turn_enumT {P : Program} {w : World} {K : PySem.W.Frag} {elts : List Expr} {kk : Nat} {tpos : Pos} (a e it : Addr) :
    Turn P w K (.Tuple elts kk tpos) (IteT K a) [e, it] e (fun i h => (∃ old, IsEnum h e it ((i : Nat) : Int) old) ∧ h.IsTupleIter it a i ∧ e ≠ it) where
  mem := by simp
  obj := fun i h st b hb => by
    obtain ⟨⟨old, he⟩, ⟨o, ho, hc, hd⟩, _⟩ := st
    have e' : b = e ∨ b = it := by simpa using hb
    rcases e' with z | z
    · rw [z]; exact ⟨_, he, fun v q => nomatch q⟩
    · rw [z]; exact ⟨o, ho, fun v q => by rw [hd] at q; cases q⟩
  keep := fun i h h' st k => let ⟨⟨old, he⟩, hi, hne⟩ := st; ⟨⟨old, k e (by simp) _ he⟩, hi.at fun o q => k it (by simp) o q, hne⟩
  item := by
    intro X hP hw hK hc i pins s σ H E I hf st hg
    subst hP hw hK
    obtain ⟨⟨old, he⟩, hit, hne⟩ := st
    obtain ⟨xs, x, hq, hx⟩ := hg
    obtain ⟨its, rv, p, hz⟩ := I.tuple hq
    obtain ⟨u, hu, ru⟩ := rv.get hx
    have hel : e < s.heap.objs.size := Heap.lt_size he
    have hil : it < s.heap.objs.size := by obtain ⟨_, q, _⟩ := hit; exact Heap.lt_size q
    have nai : a ≠ it := fun z => by
      obtain ⟨o1, g1, c1, _⟩ := p
      obtain ⟨o2, g2, c2, _⟩ := hit
      rw [z, g2] at g1
      cases g1
      rw [c1] at c2
      injection c2 with c2
      exact absurd c2 (by decide)
    have nea : e ≠ a := fun z => by
      obtain ⟨o1, g1, c1, _⟩ := p
      have he' : s.heap.get? e = _ := he
      rw [← z, he'] at g1
      cases g1
      injection c1 with c2
      exact absurd c2 (by decide)
    have isT : s.heap.IsTuple a its.toArray := p
    have hlt : i < its.toArray.size := by
      obtain ⟨q, _⟩ := List.getElem?_eq_some_iff.mp hx
      rw [List.size_toArray, ← rv.length]
      exact q
    refine wpAny_pyNext_enum_itemD (Draws.tuple (prog := X.prog) (w := X.w) (A := X.A.in1) (I.ok.hd hc) it a nai its.toArray) he ⟨hit, isT⟩ hlt hne (by simp [hne, nea]) fun y h' tk hy ho st' hT hsz hk => ?_
    have ey : y = u := by
      have : its.toArray[i]? = some u := by simpa using hu
      rw [this] at hy
      exact (Option.some.inj hy).symm
    subst ey
    refine ⟨_, rfl, wpAny_letOwnedTupleGo_enum (s := { s with heap := h', toks := tk + 1 }) ho fun h'' he' sb => ?_⟩
    have hT2 : h''.get? s.heap.objs.size = some { cls := .type "tuple", data := .seq #[.int i tk, y] } := (sb.2 _ (Nat.ne_of_gt hel)).trans hT
    have new : ObjOk X.prog X.w (upd H s.heap.objs.size (.tup [.int (i : Nat), x])) h'' s.heap.objs.size (.tup [.int (i : Nat), x]) :=
      ⟨by show 2 ≤ sizeLine; decide, [.int i tk, y], .cons ⟨_, rfl⟩ (.cons ru .nil), ⟨_, hT2, rfl, _, rfl⟩⟩
    have I1 : Inv X pins σ (upd H s.heap.objs.size (.tup [.int (i : Nat), x])) { s with heap := h'', toks := tk + 1 } :=
      I.turnedNew (ch := [e, it]) (fun b ob hb q => (sb.2 b (fun z => hb (by simp [z]))).trans (hk b ob (fun z => hb (by simp [z])) (fun z => hb (by simp [z])) q)) hf (Nat.le_refl _) new
    refine ⟨.ref s.heap.objs.size, _, I1, rfl, ⟨_, x, rfl, I.hok.fresh (Nat.le_refl _), rfl, fun ys hy => by rw [I.tuple_inj hy hq]; exact hx⟩, ⟨⟨y, ?_⟩, st'.1.at fun o q => (sb.2 it (Ne.symm hne)).trans q, hne⟩, fun b hb => ?_⟩
    · have e1 : ((i + 1 : Nat) : Int) = (i : Int) + 1 := by omega
      rw [e1]; exact he'
    · have hb' : b < s.heap.objs.size := by
        have e' : b = e ∨ b = it := by simpa using hb
        rcases e' with z | z
        · rw [z]; exact hel
        · rw [z]; exact hil
      rw [upd_ne (Nat.ne_of_lt hb')]
      exact (hf b hb).1
  done := by
    intro X hP hw hK hc i pins s σ H E I hf st hg
    subst hP hw hK
    obtain ⟨⟨old, he⟩, hit, hne⟩ := st
    obtain ⟨xs, hq, hx⟩ := hg
    obtain ⟨its, rv, p, hz⟩ := I.tuple hq
    obtain ⟨f0, f1, f2, f3, f4, f5⟩ := hf it (by simp)
    have nai : a ≠ it := fun z => by
      obtain ⟨o1, g1, c1, _⟩ := p
      obtain ⟨o2, g2, c2, _⟩ := hit
      rw [z, g2] at g1
      cases g1
      rw [c1] at c2
      injection c2 with c2
      exact absurd c2 (by decide)
    have isT : s.heap.IsTuple a its.toArray := p
    have hn : its.toArray.size = i := by rw [List.size_toArray, ← rv.length]; exact hx
    have hit' : s.heap.IsTupleIter it a its.toArray.size := by rw [hn]; exact hit
    exact wpAny_pyNext_enum_endD (Draws.tuple (prog := X.prog) (w := X.w) (A := X.A.in1) (I.ok.hd hc) it a nai its.toArray) he ⟨hit', isT⟩ fun h' eb => ⟨rfl, I.turned (t' := s.toks) (fun b o hb q => eb b o hb q) f0 f1 f3 f4 f5⟩
  self := fun A i s Q E st h => let ⟨⟨_, he⟩, _⟩ := st; wpAny_pyIter_enum he h
theorem walk_enumT {K : PySem.W.Frag} {a : Addr} {xs : List V} : Walk (IteT K a) xs.length (fun H => SqT K H a xs) (YPair (fun i => some (.int (i : Nat))) (fun i => xs[i]?)) := by
  refine ⟨fun i _ hi q => ⟨xs, xs[i], q, by simp [hi]⟩, fun _ q => ⟨xs, q, rfl⟩, fun i H v H' _ q y => ?_⟩
  obtain ⟨T, x, h1, h2, h3, h4⟩ := y
  exact ⟨T, .int (i : Nat), x, h1, h2, h3, rfl, h4 xs q⟩
def iEnumA (K : PySem.W.Frag) (ta : L2.TA) : TI := fun σ H R => ta σ H fun vs H1 => ∃ a xs, vs = [.ref a] ∧ ((SqL K H1 a xs ∧ R (Ite K a) H1) ∨ (SqT K H1 a xs ∧ R (IteT K a) H1))
theorem pi_enumA {X : Cx} {e : Expr} {ta : L2.TA} {p pos tpos : Pos} {elts : List Expr} {kk : Nat} (hg : Gl X "enumerate") (hm : X.mg "enumerate" = none) (ha : PA X [e] ta) (hs : starEach [e] X.env = [(false, eval e X.env)] := by rfl) :
    PI X (.Tuple elts kk tpos) (.Call (.Name "enumerate" p) [e] [] pos) (iEnumA X.K ta) := by
  refine ⟨fun pins s σ H R I h => ?_⟩
  refine Call_ (ld_blt I hg hm boot_enumerate (PyProof.Rows.callWith_type1 (thn (ha.run pos pins s σ H _ I h) fun us s1 ⟨vs, H1, I1, r1, q1⟩ => ?_) hs rfl))
  obtain ⟨a, xs, ex, hq⟩ := q1
  subst ex
  cases r1 with
  | cons r rr =>
    cases rr
    cases r
    have fp : ∀ b ∈ [s1.heap.objs.size + 1, s1.heap.objs.size], FpOk X pins H1 b := fun b hb => by
      have e' : b = s1.heap.objs.size + 1 ∨ b = s1.heap.objs.size := by simpa using hb
      have hle : s1.heap.objs.size ≤ b := by
        rcases e' with z | z
        · rw [z]; exact Nat.le_add_right _ _
        · rw [z]; exact Nat.le_refl _
      exact I1.fpOk hle (I1.hok.fresh hle)
    rcases hq with ⟨hq, q⟩ | ⟨hq, q⟩
    · obtain ⟨its, rv, p', hz⟩ := I1.list hq
      refine call_enumerate_list p'.isList fun h' he hit hsz hk => wpAny_pyIter_enum he ?_
      have I2 : Inv X pins σ H1 { s1 with heap := h' } := I1.kept (t' := s1.toks) hk
      exact ⟨s1.heap.objs.size + 1, [s1.heap.objs.size + 1, s1.heap.objs.size], _, _, H1, rfl, I2, turn_enum a (s1.heap.objs.size + 1) s1.heap.objs.size, ⟨⟨.none, he⟩, hit, Nat.succ_ne_self _⟩, fp, q⟩
    · obtain ⟨its, rv, p', hz⟩ := I1.tuple hq
      refine enum_begins1 (begins_tuple a its.toArray) p' fun h' he hit hsz hk => wpAny_pyIter_enum he ?_
      have I2 : Inv X pins σ H1 { s1 with heap := h' } := I1.kept (t' := s1.toks) hk
      exact ⟨s1.heap.objs.size + 1, [s1.heap.objs.size + 1, s1.heap.objs.size], _, _, H1, rfl, I2, turn_enumT a (s1.heap.objs.size + 1) s1.heap.objs.size, ⟨⟨.none, he⟩, ⟨_, hit, rfl, rfl⟩, Nat.succ_ne_self _⟩, fp, q⟩
end Tk

namespace Tk
open PySem PySem.Spec PyProof.Rows L2
/-! ## a tuple's slice that is the whole tuple -/
theorem getItem_tuple_all {prog : Program} {w : World} {A : Around} {E : Value → Shared → Prop} {s : Shared} {t sl : Addr} {items : Array Value} {vl vu : Value} {lo hi : Option Int} {Q : Value → Shared → Prop}
    (ht : IsTup s.heap t items) (hs : s.heap.IsSliceOf sl vl vu .none) (pl : IsPart vl lo) (pu : IsPart vu hi) (hw : HT.sIx items.size 0 lo = 0 ∧ HT.sIx items.size items.size hi = items.size) (h : Q (.ref t) s) (hsz : items.size ≤ sizeLine) :
    wpAny (model prog w) A (getItem (.ref t) (.ref sl)) Q E s := by
  obtain ⟨os, hos, hcs, hds⟩ := id hs
  have hTs : s.TypeIs (.ref sl) "slice" := ⟨os, hos, hcs⟩
  unfold getItem
  refine wpAny_holding (wpAny_bind (wpAny_sequenceKey (IsTup.typeIs ht) (by decide) (wpAny_bind (wpAny_callSpecial?_slot (IsTup.typeIs ht) slot_tuple_getitem (wpAny_call_entry slot_tuple_getitem (IsTup.typeIs ht) entry_tuple_getitem ?_)))))
  show wpAny _ _ (Builtin.«tuple.__getitem__» _) _ _ _
  unfold Builtin.«tuple.__getitem__»
  refine wpAny_bind (show wpAny _ _ (pure (Value.ref t, [Value.ref sl])) _ _ _ from wpAny_pure ?_)
  refine wpAny_bind (tupleItemsOf_ ht (wpAny_bind (wpAny_typeOf hTs ?_)))
  rw [if_pos (by decide)]
  refine wpAny_bind (HT.sliceApplied_gen hs pl pu ?_)
  show wpAny _ _ (if _ then _ else _) _ _ _
  rw [if_pos (by simp [hw.1, hw.2])]
  unfold Builtin.Tuple.tupleIsExact
  refine wpAny_bind (wpAny_bind (wpAny_typeOf (IsTup.typeIs ht) (wpAny_pure ?_)))
  rw [if_pos (by decide)]
  refine wpAny_bind ?_
  wp_step
  exact wpAny_pure ⟨_, rfl, wpAny_pure h⟩
/-- a slice of a tuple or list, from .. to .. -/
def rSlTF (K : PySem.W.Frag) : V → Option Int → Option Int → Hp → VK → Prop := fun x lo hi H Q => ∃ (a : Addr) (xs : List V), x = V.ref a ∧ SqT K H a xs ∧ (HT.sIx xs.length 0 lo = 0 ∧ HT.sIx xs.length xs.length hi = xs.length) ∧ Q (V.ref a) H
theorem sl_tupF {X : Cx} : SlR X (rSlTF X.K) := by
  intro pins s σ H x v vl vu lo hi sl Q I rx hs pl pu h
  obtain ⟨a, xs, rfl, hx, hw, q⟩ := h
  cases rx
  obtain ⟨its, r, ht, hz⟩ := I.tuple hx
  have hlen : its.toArray.size = xs.length := by rw [List.size_toArray]; exact r.length.symm
  refine ⟨"tuple", "tuple.__getitem__", slot_tuple_getitem.lookup, IsTup.typeIs ht, getItem_tuple_all ht hs pl pu (by rw [hlen]; exact hw) ⟨.ref a, H, I, rfl, q⟩ (by rw [hlen]; exact hz)⟩
def rSlA (K : PySem.W.Frag) : V → Option Int → Option Int → Hp → VK → Prop := fun x lo hi H Q => rSlL K x lo hi H Q ∨ rSlT K x lo hi H Q ∨ rSlTF K x lo hi H Q
theorem sl_any {X : Cx} : SlR X (rSlA X.K) := SlR.or sl_list (SlR.or sl_tup sl_tupF)
/-- v[1:] of a list or a tuple is one of its own kind -/
theorem sl_tail {K : PySem.W.Frag} {H : Hp} {a : Addr} {xs : List V} {Q : VK} (h : SqL K H a xs ∨ SqT K H a xs)
    (q : ∀ (b : Addr) (H' : Hp), Same H H' → (SqL K H' a xs ∧ SqL K H' b (xs.drop 1)) ∨ (SqT K H' a xs ∧ SqT K H' b (xs.drop 1)) → Q (.ref b) H') : rSlA K (.ref a) (some 1) none H Q := by
  have cut : cutV xs (some 1) none = xs.drop 1 := by
    unfold cutV
    have e : HT.sIx xs.length 0 (some 1) = min 1 xs.length := HT.sIx_nat ..
    rw [e]
    show (xs.drop (min 1 xs.length)).take (xs.length - min 1 xs.length) = xs.drop 1
    cases xs with
    | nil => rfl
    | cons x xs => rw [show min 1 (x :: xs).length = 1 by simp]; rw [List.take_of_length_le (by simp)]
  rcases h with h | h
  · refine .inl ⟨a, xs, rfl, h, fun p hp => ?_⟩
    rw [cut]
    exact q p _ (same_new hp) (.inl ⟨same_l (same_new hp) h, sl_of upd_same⟩)
  · by_cases c : xs = []
    · subst c
      exact .inr (.inr ⟨a, [], rfl, h, ⟨rfl, rfl⟩, q a H (fun _ _ h => h) (.inr ⟨h, h⟩)⟩)
    · refine .inr (.inl ⟨a, xs, rfl, h, ?_, fun p hp => ?_⟩)
      · rintro ⟨e, _⟩
        have e1 : HT.sIx xs.length 0 (some 1) = min 1 xs.length := HT.sIx_nat ..
        have := List.length_pos_iff.mpr c
        rw [e1] at e
        omega
      · rw [cut]
        exact q p _ (same_new hp) (.inr ⟨same_t (same_new hp) h, st_of upd_same⟩)
theorem walk_zipT {K : PySem.W.Frag} {a b : Addr} {xs ys : List V} {n : Nat} (hn : n = min xs.length ys.length) : Walk (RZ.ItzT K a b) n (fun H => SqT K H a xs ∧ SqT K H b ys) (YPair (fun i => xs[i]?) fun i => ys[i]?) := by
  refine ⟨fun i H hi h => ?_, fun H h => ⟨xs, ys, h.1, h.2, by omega⟩, fun i H x H' hi h y => ?_⟩
  · exact ⟨xs, ys, xs[i]'(by omega), ys[i]'(by omega), h.1, h.2, List.getElem?_eq_getElem (by omega), List.getElem?_eq_getElem (by omega)⟩
  · obtain ⟨T, u, v, e1, e2, e3, e4, e5⟩ := y
    exact ⟨T, u, v, e1, e2, e3, e4 _ h.1, e5 _ h.2⟩
/-- the walk along zip(xs, xs[1:]) -/
theorem lc_zipA {K : PySem.W.Frag} {a b : Addr} {xs ys : List V} {it : It} {H0 : Hp} {g : TG} {tt : TT} {te : TE} {vs : List Nat} {σ : L2.St} {H1 : Hp} {D : Addr} {Qd : Hp → Prop} {n : Nat} (hn : n = min xs.length ys.length)
    (hit : (it = Itz K a b ∧ SqL K H0 a xs ∧ SqL K H0 b ys) ∨ (it = RZ.ItzT K a b ∧ SqT K H0 a xs ∧ SqT K H0 b ys)) (Pv : Nat → Hp → Prop) (h0 : Pv 0 (upd H1 D (.lst []))) (hl : ∀ i H, i ≤ n → Pv i H → Same H0 H)
    (hs : ∀ i x y T H, xs[i]? = some x → ys[i]? = some y → Pv i H → H T = none → g (.ref T) (wipe σ vs) (upd H T (.tup [x, y])) fun σ2 H2 => wipe σ2 vs = wipe σ vs ∧ tt σ2 H2 fun b H3 =>
      if b = true then te σ2 H3 fun y H4 => ∃ acc, H4 D = some (.lst acc) ∧ acc.length < sizeLine ∧ Pv (i + 1) (upd H4 D (.lst (acc ++ [y]))) else Pv (i + 1) H3)
    (hd : ∀ H, Pv n H → Qd H) :
    ∃ W : Nat → Nat → Hp → Prop, (∃ m, W 0 m (upd H1 D (.lst []))) ∧ ∀ i m H, W i m H →
      (it.stop i H ∧ Qd H) ∨ (it.go i H ∧ ∃ Nx : Hp → Prop, (∀ H', Nx H' → ∃ m', m' < m ∧ W (i + 1) m' H') ∧ ∀ x H', it.yld i H x H' → g x (wipe σ vs) H' fun σ2 H2 => wipe σ2 vs = wipe σ vs ∧ tt σ2 H2 fun b H3 =>
        if b = true then te σ2 H3 fun y H4 => ∃ acc, H4 D = some (.lst acc) ∧ acc.length < sizeLine ∧ Nx (upd H4 D (.lst (acc ++ [y]))) else Nx H3) := by
  rcases hit with ⟨rfl, h1, h2⟩ | ⟨rfl, h1, h2⟩
  · refine lc_it (walk_zip (K := K) (a := a) (b := b) (xs := xs) (ys := ys) hn) Pv h0 (fun i H hi p => ⟨same_l (hl i H hi p) h1, same_l (hl i H hi p) h2⟩) (fun i v H H' hi p y => ?_) hd
    obtain ⟨T, x, y, rfl, hT, rfl, e1, e2⟩ := y
    exact hs i x y T H e1 e2 p hT
  · refine lc_it (walk_zipT (K := K) (a := a) (b := b) (xs := xs) (ys := ys) hn) Pv h0 (fun i H hi p => ⟨same_t (hl i H hi p) h1, same_t (hl i H hi p) h2⟩) (fun i v H H' hi p y => ?_) hd
    obtain ⟨T, x, y, rfl, hT, rfl, e1, e2⟩ := y
    exact hs i x y T H e1 e2 p hT
end Tk

namespace Tk
open PySem PySem.Spec PyProof.Rows L2
abbrev sDueV : Stmt := top 51
/-! ## a lot, step by step -/
def nearB (l : List Int) : Bool := ((l.zip (l.drop 1)).map fun p => decide (p.1 < p.2)).all id
theorem near_iff : ∀ {l : List Int}, nearB l = true ↔ l.Pairwise (· < ·)
  | [] => by simp [nearB]
  | [x] => by simp [nearB]
  | x :: y :: l => by
    have ih := near_iff (l := y :: l)
    have e : nearB (x :: y :: l) = (decide (x < y) && nearB (y :: l)) := by simp [nearB]
    rw [e, Bool.and_eq_true, decide_eq_true_eq, ih]
    constructor
    · rintro ⟨h1, h2⟩
      refine List.pairwise_cons.mpr ⟨fun z hz => ?_, h2⟩
      rcases List.mem_cons.mp hz with rfl | hz
      · exact h1
      · exact Int.lt_trans h1 ((List.pairwise_cons.mp h2).1 z hz)
    · intro h
      exact ⟨(List.pairwise_cons.mp h).1 y (by simp), (List.pairwise_cons.mp h).2⟩
def inB (n : Nat) (l : List Int) : Bool := (l.map fun x => decide (0 ≤ x) && decide (x < (n : Int))).all id
theorem inB_iff {n : Nat} {l : List Int} : inB n l = true ↔ ∀ x ∈ l, x ∈ things n := by
  unfold inB
  rw [List.all_map, List.all_eq_true]
  constructor
  · intro h x hx
    have := h x hx
    simp at this
    exact mem_things.mpr this
  · intro h x hx
    have := mem_things.mp (h x hx)
    simp
    exact this
def spDueV (K : PySem.W.Frag) : Sp := fun vs H Q _ => ∃ (p u v' : Addr) (n : Nat) (as ts : List (Int × Int)) (v : V) (o : Option (List (Option Int))), vs = [.ref p, v] ∧ H p = some (.tup [.int n, .ref u, .ref v']) ∧ PL K H u as ∧ PL K H v' ts ∧ n ≤ 60 ∧ Prs n as ∧ LotV K H v o ∧
  ∀ (H' : Hp) (b : Bool), Same H H' → (b = true ↔ ∃ l, o = some (l.map some) ∧ Bar n as ts l) → Q (.bl b) H'
section
variable {P : Program} {w : World} {K : PySem.W.Frag} {mg : Str → Option Value} {base : Heap}
abbrev nDueV : List Str := ["_law_world_here", "_law_value", "_law_one", "_law_near", "_law_far"]
theorem sc_dueV : FnScope nDueV ["_law_world_here", "_law_value"] (defScope sDueV) := ⟨rfl, rfl, rfl, by decide +kernel, rfl, by decide +kernel, by decide +kernel⟩
theorem ok_dueV {f f1 : Addr} {fd fd1 : FuncData} (F : Fun K "_law_due" "_law_due" sDueV f fd) (D1 : Df K mg "_law_is_bar" sIsBar ["_law_world_here", "_law_lot"] f1 fd1) (G1 : FnOk P w K mg base CX0 3 f1 fd1 ["_law_world_here", "_law_lot"] (spIsBar K)) (B : Bl mg) :
    FnOk P w K mg base CX0 4 f fd ["_law_world_here", "_law_value"] (spDueV K) := by
  refine F.ok sc_dueV (fun vs H Q E h => ?_) (fun cdv A outer s H vs Q E hr h => ?_)
  · obtain ⟨p, u, v', n, as, ts, v, o, rfl, _⟩ := h
    rfl
  · obtain ⟨p, u, v', n, as, ts, v, o, rfl, hp, hu, hv', n60, pas, hv, q⟩ := h
    refine ⟨_, pss_cons (ps_if (PW.pt (pw_or (pt_not (pt_val (pe_callB call_isiT (by rfl) B.isi PyProof.Rows.boot_isinstance (pa_cons (pv 1) (pa_cons
            (pe_tup (pa_cons (pe_bltn (v := .ty "list") (by rfl) B.list PyProof.Rows.boot_list rfl) (pa_cons (pe_bltn (v := .ty "tuple") (by rfl) B.tuple PySem.Pv.boot_tuple rfl) pa_nil))) pa_nil)))))
          (pw_or1 (pt_not (pt_val (pe_callB (cr_all rfl) (by rfl) B.all PyProof.Rows.boot_all (pa_cons
            (pe_lc (own := [("_law_one", 2)]) (g := gName 2) (tt := tYes) (te := tAndV (tCB (rIsi K) (tCons (tVar 2) (tCons (tC (.ty "int")) tNil))) (tNotV (tCB (rIsi K) (tCons (tVar 2) (tCons (tC (.ty "bool")) tNil)))))
              rfl sc_dueV.nd (pi_sq (pv 1)) (blkOk_by (N := nDueV) (sc := defScope sDueV) (by decide +kernel))
              (fun _ _ _ _ _ => pg_name (i := 2) sc_dueV.nd rfl (Or.inl rfl)) (fun _ _ _ _ _ => pts_nil)
              (fun _ _ _ _ _ => pe_and (pe_callB call_isi (by rfl) B.isi PyProof.Rows.boot_isinstance (pa_cons (pv 2) (pa_cons (pe_bltn (v := .ty "int") (by rfl) B.int PyProof.Rows.boot_int rfl) pa_nil)))
                (pe_one (pe_not (pe_callB call_isi (by rfl) B.isi PyProof.Rows.boot_isinstance (pa_cons (pv 2) (pa_cons (pe_bltn (v := .ty "bool") (by rfl) B.bool PyProof.Rows.boot_bool rfl) pa_nil))))))) pa_nil))))))) (pss_one (ps_ret pe_bl)) pss_nil)
      (pss_cons (ps_if (PW.pt (pw_or (pt_not (pt_val (pe_callB (cr_all rfl) (by rfl) B.all PyProof.Rows.boot_all (pa_cons
            (pe_lc (own := [("_law_one", 2)]) (g := gName 2) (tt := tYes) (te := tChain (rI0 fun i j => V.bl (decide (i ≤ j))) (rI0 fun i j => V.bl (decide (i < j))) (tC (.int 0)) (tVar 2) (tOp (rIxT K) (tVar 0) (tC (.int 0))))
              rfl sc_dueV.nd (pi_sq (pv 1)) (blkOk_by (N := nDueV) (sc := defScope sDueV) (by decide +kernel))
              (fun _ _ _ _ _ => pg_name (i := 2) sc_dueV.nd rfl (Or.inl rfl)) (fun _ _ _ _ _ => pts_nil)
              (fun _ _ _ _ _ => pe_chain op_le op_lt pe_int (pv 2) (pe_ix ix_tup (pv 0) pe_int (fun _ _ => rfl)))) pa_nil))))
          (pw_or1 (pt_not (pt_val (pe_callB (cr_all rfl) (by rfl) B.all PyProof.Rows.boot_all (pa_cons
            (pe_lc (own := [("_law_near", 3), ("_law_far", 4)]) (g := gTup K 2 (gCons (gName 3) (gCons (gName 4) gNil))) (tt := tYes) (te := tOp (rI0 fun i j => V.bl (decide (i < j))) (tVar 3) (tVar 4))
              rfl sc_dueV.nd (RZ.pi_zipA (by rfl) B.zip (pa_cons (pv 1) (pa_cons (pe_slice sl_any (pv 1) (po_some pe_int) po_none) pa_nil))) (blkOk_by (N := nDueV) (sc := defScope sDueV) (by decide +kernel))
              (fun _ _ _ _ _ => pg_tup rfl (pgs_cons (pg_name (i := 3) sc_dueV.nd rfl (Or.inl rfl)) (pgs_cons (pg_name (i := 4) sc_dueV.nd rfl (Or.inl rfl)) pgs_nil))) (fun _ _ _ _ _ => pts_nil)
              (fun _ _ _ _ _ => pe_cmpR op_lt (pv 3) (pv 4) (nomark _))) pa_nil))))))) (pss_one (ps_ret pe_bl)) pss_nil)
      (pss_one (ps_ret (pe_call G1 hr rfl D1.g D1.F.kp D1.b .nil pass0 (pa_cons (pv 0) (pa_cons (pe_callTy call_list_of (by rfl) B.list PyProof.Rows.boot_list (pa_cons (pv 1) pa_nil)) pa_nil)))))), ?_⟩
    refine ⟨_, rfl, szle (by show 2 ≤ 100000; decide), fun tp htp => ?_⟩
    have s0 := same_new (o := .tup [V.ty "list", V.ty "tuple"]) htp
    have htp' : (upd H tp (.tup [V.ty "list", V.ty "tuple"])) tp = some (.tup [V.ty "list", V.ty "tuple"]) := upd_same
    generalize upd H tp (.tup [V.ty "list", V.ty "tuple"]) = H0 at s0 htp'
    have hv0 := lotv_s hv s0
    have no : ∀ {H' : Hp}, Same H0 H' → (∀ l, ¬ (o = some (l.map some) ∧ Bar n as ts l)) → Q (.bl false) H' := fun e h => q _ false (s0.trans e) ⟨fun z => (nomatch z), fun ⟨l, z⟩ => absurd z (h l)⟩
    cases hv0 with
    | no h =>
      cases h with
      | no h k1 k2 =>
        exact ⟨_, tp, _, _, [.type "list", .type "tuple"], false, rfl, htp', .cons (.ty _) (.cons (.ty _) .nil), h, kit_any2 k1 k2, false, rfl, iteT (no (fun _ _ h => h) fun l z => nomatch z.1)⟩
    | @sq a xs os h he few =>
      obtain ⟨ty, hty, hk⟩ : ∃ ty, TyX K H0 (.ref a) ty ∧ PySem.W.kitAny K ty [.type "list", .type "tuple"] = some true := by
        rcases id h with h | h
        · exact ⟨_, tyx_l h, kit_lt⟩
        · exact ⟨_, tyx_t h, kit_any2 (by decide +kernel) (by decide +kernel)⟩
      refine ⟨_, tp, _, _, [.type "list", .type "tuple"], true, rfl, htp', .cons (.ty _) (.cons (.ty _) .nil), hty, hk, true, rfl, iteF ?_⟩
      clear hty hk htp'
      have el := each_len he
      refine ⟨_, rfl, a, xs, rfl, h, fun it hit D hD => ?_⟩
      refine lc_sq hit (LcP H0 D fun k => ((os.take k).map Option.isSome).map V.bl) (lcp_0 hD rfl) (fun k H2 _ p => p.1) ?_ ?_
      · intro k x H2 hx z
        have hk := lt_of_at hx
        obtain ⟨o, ho, hi⟩ := each_at he hx
        have hi2 := intv_s hi z.1
        have put : ∀ b, b = o.isSome → ∃ acc, H2 D = some (.lst acc) ∧ acc.length < sizeLine ∧ LcP H0 D (fun k => ((os.take k).map Option.isSome).map V.bl) (k + 1) (upd H2 D (.lst (acc ++ [V.bl b]))) := fun b hb => by
          subst hb
          exact lcp_put hD z (by rw [take_at ho, List.map_append, List.map_append]; rfl) (by rw [List.length_map, List.length_map, List.length_take]; omega)
        cases hi2 with
        | int i =>
          refine ⟨rfl, _, rfl, _, _, _, _, true, rfl, .ty _, .base (.int i), kit_ty (by decide +kernel), true, rfl, iteT ?_⟩
          exact ⟨_, rfl, _, _, _, _, false, rfl, .ty _, .base (.int i), kit_ty (by decide +kernel), false, rfl, put true rfl⟩
        | bl b =>
          refine ⟨rfl, _, rfl, _, _, _, _, true, rfl, .ty _, .base (.bl b), kit_ty (by decide +kernel), true, rfl, iteT ?_⟩
          exact ⟨_, rfl, _, _, _, _, true, rfl, .ty _, .base (.bl b), kit_ty (by decide +kernel), true, rfl, put false rfl⟩
        | oth h k => exact ⟨rfl, _, rfl, _, _, _, _, false, rfl, .ty _, h, kit_ty k, false, rfl, iteF (put false rfl)⟩
      intro H2 z
      have hD2 : H2 D = some (.lst (((os.take xs.length).map Option.isSome).map V.bl)) := z.2
      have s2 := z.1
      clear z
      rw [take_all el.symm] at hD2
      refine ⟨D, os.map Option.isSome, rfl, sl_of hD2, _, rfl, ?_⟩
      by_cases c : ((os.map Option.isSome).all id) = true
      case neg =>
        rw [Bool.not_eq_true] at c
        rw [c]
        refine iteT (no s2 fun l z => ?_)
        have e := Option.some.inj z.1
        rw [e] at c
        rw [← Bool.not_eq_true] at c
        exact c (List.all_eq_true.mpr fun b hb => by
          obtain ⟨o, ho, rfl⟩ := List.mem_map.mp hb
          obtain ⟨i, _, rfl⟩ := List.mem_map.mp ho
          rfl)
      rw [c]
      refine iteF ?_
      obtain ⟨l, rfl, rfl⟩ := each_some he fun o ho => List.all_eq_true.mp c _ (List.mem_map.mpr ⟨o, ho, rfl⟩)
      clear c hD2 hD hit el he
      rw [List.length_map] at few
      have h2 := same_a s2 h
      have no2 : ∀ {H' : Hp}, Same H2 H' → ¬ Lot n l → Q (.bl false) H' := fun e hn => no (s2.trans e) fun l' z => hn (by rw [some_inj (Option.some.inj z.1)]; exact z.2.lot)
      have hp2 := (s0.trans s2) _ _ hp
      -- all things
      refine ⟨_, rfl, a, _, rfl, h2, fun it hit D hD => ?_⟩
      refine lc_sq hit (LcP H2 D fun k => ((l.take k).map fun x => decide (0 ≤ x) && decide (x < (n : Int))).map V.bl) (lcp_0 hD rfl) (fun k H3 _ p => p.1) ?_ ?_
      · intro k x H3 hx z
        obtain ⟨i, hi, rfl⟩ := int_at hx
        have hk := lt_of_at hi
        have put : ∀ b, b = (decide (0 ≤ i) && decide (i < (n : Int))) → ∃ acc, H3 D = some (.lst acc) ∧ acc.length < sizeLine ∧ LcP H2 D (fun k => ((l.take k).map fun x => decide (0 ≤ x) && decide (x < (n : Int))).map V.bl) (k + 1) (upd H3 D (.lst (acc ++ [V.bl b]))) := fun b hb => by
          subst hb
          exact lcp_put hD z (by rw [take_at hi, List.map_append, List.map_append]; rfl) (by rw [List.length_map, List.length_map, List.length_take]; omega)
        refine ⟨rfl, _, rfl, _, _, rfl, rfl, _, rfl, ?_⟩
        by_cases c0 : (0 : Int) ≤ i
        · rw [decide_eq_true c0]
          refine iteT ⟨_, rfl, p, _, _, _, rfl, rfl, st_of (z.1 _ _ hp2), rfl, _, _, rfl, rfl, put _ ?_⟩
          rw [decide_eq_true c0]
          rfl
        · rw [decide_eq_false c0]
          exact iteF (put false (by rw [decide_eq_false c0]; rfl))
      intro H3 z
      have hD3 : H3 D = some (.lst (((l.take (l.map V.int).length).map fun x => decide (0 ≤ x) && decide (x < (n : Int))).map V.bl)) := z.2
      have s3 := z.1
      clear z
      rw [take_all (by rw [List.length_map])] at hD3
      refine ⟨D, _, rfl, sl_of hD3, _, rfl, ?_⟩
      show if (!inB n l) = true then _ else _
      by_cases c : inB n l = true
      case neg =>
        rw [Bool.not_eq_true] at c
        rw [c]
        exact iteT (no2 s3 fun lt => by rw [inB_iff.mpr lt.2] at c; cases c)
      rw [c]
      refine iteF ?_
      have th := inB_iff.mp c
      clear c hD3 hD hit
      have h3 := same_a s3 h2
      -- rising
      refine ⟨_, rfl, _, rfl, _, rfl, sl_tail h3 fun b H4 s4 hb => ?_⟩
      have ez : ((l.zip (l.drop 1)).length) = min (l.map V.int).length ((l.map V.int).drop 1).length := by rw [List.length_zip, List.length_map, List.length_drop, List.length_drop, List.length_map]
      have step : ∀ {D : Addr}, H4 D = none → ∀ (i : Nat) (x y : V) (T : Addr) (G : Hp), (l.map V.int)[i]? = some x → ((l.map V.int).drop 1)[i]? = some y → LcP H4 D (fun k => (((l.zip (l.drop 1)).take k).map fun p => decide (p.1 < p.2)).map V.bl) i G → G T = none →
          ∃ u w : Int, x = .int u ∧ y = .int w ∧ ∃ acc, (upd G T (.tup [.int u, .int w])) D = some (.lst acc) ∧ acc.length < sizeLine ∧ LcP H4 D (fun k => (((l.zip (l.drop 1)).take k).map fun p => decide (p.1 < p.2)).map V.bl) (i + 1) (upd (upd G T (.tup [.int u, .int w])) D (.lst (acc ++ [V.bl (decide (u < w))]))) := by
        intro D hD i x y T G hx hy z hT
        obtain ⟨u, hu, rfl⟩ := int_at hx
        rw [List.getElem?_drop] at hy
        obtain ⟨w', hw', rfl⟩ := int_at hy
        have e : (l.zip (l.drop 1))[i]? = some (u, w') := List.getElem?_zip_eq_some.mpr ⟨hu, by rw [List.getElem?_drop]; exact hw'⟩
        have hk := lt_of_at hu
        refine ⟨u, w', rfl, rfl, lcp_put hD (lcp_s z (same_new hT)) (by rw [take_at e, List.map_append, List.map_append]; rfl) (by rw [List.length_map, List.length_map, List.length_take]; omega)⟩
      have fin : ∀ {D : Addr} {G : Hp}, LcP H4 D (fun k => (((l.zip (l.drop 1)).take k).map fun p => decide (p.1 < p.2)).map V.bl) (min (l.map V.int).length ((l.map V.int).drop 1).length) G → Same H4 G ∧ G D = some (.lst ((((l.zip (l.drop 1))).map fun p => decide (p.1 < p.2)).map V.bl)) := fun {D G} z => by
        have h2 := z.2
        dsimp only at h2
        rw [take_all ez] at h2
        exact ⟨z.1, h2⟩
      rcases hb with ⟨h1, h2'⟩ | ⟨h1, h2'⟩
      · refine ⟨a, b, _, _, rfl, .inl ⟨h1, h2', fun D hD => ?_⟩⟩
        refine lc_zipA rfl (.inl ⟨rfl, h1, h2'⟩) (LcP H4 D fun k => (((l.zip (l.drop 1)).take k).map fun p => decide (p.1 < p.2)).map V.bl) (lcp_0 hD rfl) (fun i G _ z => z.1) ?_ ?_
        · intro i x y T G hx hy z hT
          obtain ⟨u, w', rfl, rfl, st⟩ := step hD i x y T G hx hy z hT
          exact ⟨T, _, rfl, st_of upd_same, rfl, _, _, rfl, _, _, rfl, rfl, rfl, _, rfl, _, rfl, _, _, rfl, rfl, st⟩
        · intro G z
          obtain ⟨s5, hD5⟩ := fin z
          refine ⟨D, _, rfl, sl_of hD5, _, rfl, ?_⟩
          show if (!nearB l) = true then _ else _
          by_cases c : nearB l = true
          case neg =>
            rw [Bool.not_eq_true] at c
            rw [c]
            exact iteT (no2 ((s3.trans s4).trans s5) fun lt => by rw [near_iff.mpr lt.1] at c; cases c)
          rw [c]
          refine iteF ?_
          have lot : Lot n l := ⟨near_iff.mp c, th⟩
          have s25 := (s3.trans s4).trans s5
          refine ⟨_, rfl, _, rfl, a, _, rfl, same_a s25 h2, fun cc hcc => ?_⟩
          have s6 := same_new (o := .lst (l.map V.int)) hcc
          have sAll := (s0.trans s2).trans (s25.trans s6)
          refine ⟨p, cc, u, v', n, as, ts, l, rfl, sAll _ _ hp, pl_s hu sAll, pl_s hv' sAll, n60, pas, sl_of upd_same, lot, fun H' s7 => ?_⟩
          refine q H' (barB as ts l) (sAll.trans s7) ?_
          rw [barB_iff lot]
          constructor
          · exact fun h => ⟨l, rfl, h⟩
          · rintro ⟨l', e, h⟩
            rw [some_inj (Option.some.inj e)]
            exact h
      · refine ⟨a, b, _, _, rfl, .inr ⟨h1, h2', fun D hD => ?_⟩⟩
        refine lc_zipA rfl (.inr ⟨rfl, h1, h2'⟩) (LcP H4 D fun k => (((l.zip (l.drop 1)).take k).map fun p => decide (p.1 < p.2)).map V.bl) (lcp_0 hD rfl) (fun i G _ z => z.1) ?_ ?_
        · intro i x y T G hx hy z hT
          obtain ⟨u, w', rfl, rfl, st⟩ := step hD i x y T G hx hy z hT
          exact ⟨T, _, rfl, st_of upd_same, rfl, _, _, rfl, _, _, rfl, rfl, rfl, _, rfl, _, rfl, _, _, rfl, rfl, st⟩
        · intro G z
          obtain ⟨s5, hD5⟩ := fin z
          refine ⟨D, _, rfl, sl_of hD5, _, rfl, ?_⟩
          show if (!nearB l) = true then _ else _
          by_cases c : nearB l = true
          case neg =>
            rw [Bool.not_eq_true] at c
            rw [c]
            exact iteT (no2 ((s3.trans s4).trans s5) fun lt => by rw [near_iff.mpr lt.1] at c; cases c)
          rw [c]
          refine iteF ?_
          have lot : Lot n l := ⟨near_iff.mp c, th⟩
          have s25 := (s3.trans s4).trans s5
          refine ⟨_, rfl, _, rfl, a, _, rfl, same_a s25 h2, fun cc hcc => ?_⟩
          have s6 := same_new (o := .lst (l.map V.int)) hcc
          have sAll := (s0.trans s2).trans (s25.trans s6)
          refine ⟨p, cc, u, v', n, as, ts, l, rfl, sAll _ _ hp, pl_s hu sAll, pl_s hv' sAll, n60, pas, sl_of upd_same, lot, fun H' s7 => ?_⟩
          refine q H' (barB as ts l) (sAll.trans s7) ?_
          rw [barB_iff lot]
          constructor
          · exact fun h => ⟨l, rfl, h⟩
          · rintro ⟨l', e, h⟩
            rw [some_inj (Option.some.inj e)]
            exact h
end
end Tk

namespace Tk
open PySem PySem.Spec PyProof.Rows L2
def spPick (K : PySem.W.Frag) : Sp := fun vs H Q _ => ∃ (a b : Addr) (xs : List V), vs = [.ref a, .ref b] ∧ Pot H a ∧ H b = some (.lst xs) ∧ b ≠ a ∧ xs ≠ [] ∧ xs.length ≤ 1000 ∧
  ∀ (H' : Hp) (i : Nat) (v : V), SmX a H H' → Pot H' a → xs[i]? = some v → Q v H'
section
variable {P : Program} {w : World} {K : PySem.W.Frag} {mg : Str → Option Value} {base : Heap}
theorem sc_pick : FnScope ["_law_pot_here", "_law_some"] ["_law_pot_here", "_law_some"] (defScope sPick) := ⟨rfl, rfl, rfl, by decide +kernel, rfl, by decide +kernel, by decide +kernel⟩
theorem ok_pick {f f1 : Addr} {fd fd1 : FuncData} (F : Fun K "_law_pick" "_law_pick" sPick f fd) (D1 : Df K mg "_law_draw" sDraw ["_law_pot_here", "_law_size"] f1 fd1) (B : Bl mg) :
    FnOk P w K mg base CX0 2 f fd ["_law_pot_here", "_law_some"] (spPick K) := by
  have G1 : FnOk P w K mg base CX0 1 f1 fd1 ["_law_pot_here", "_law_size"] spDraw := ok_draw D1.F B
  refine F.ok sc_pick (fun vs H Q E h => ?_) (fun cdv A outer s H vs Q E hr h => ?_)
  · obtain ⟨a, b, xs, rfl, _⟩ := h
    rfl
  · obtain ⟨a, b, xs, rfl, pa, hb, nba, ne, few, q⟩ := h
    refine ⟨_, pss_one (ps_ret (pe_ix ix_list (pv 1) (pe_call G1 hr rfl D1.g D1.F.kp D1.b .nil pass0 (pa_cons (pv 0) (pa_cons (pe_callB call_len_seq (by rfl) B.len PySem.boot_len (pa_cons (pv 1) pa_nil)) pa_nil))) (fun _ _ => rfl))), ?_⟩
    have pos := List.length_pos_iff.mpr ne
    refine ⟨_, rfl, _, rfl, _, rfl, b, xs, rfl, .inl (sl_of hb), a, _, rfl, pa, by omega, by omega, fun H1 d s1 p1 d0 d1 => ?_⟩
    obtain ⟨i, rfl⟩ : ∃ i : Nat, d = (i : Int) := ⟨d.toNat, by omega⟩
    have il : i < xs.length := by omega
    exact ⟨b, xs, _, xs[i], rfl, rfl, sl_of (s1 _ _ nba hb), atI_nat (List.getElem?_eq_getElem il), q H1 i _ s1 p1 (List.getElem?_eq_getElem il)⟩

end
end Tk

namespace Tk
open PySem PySem.Spec PyProof.Rows L2
abbrev sValuesV : Stmt := top 52
/-! ## any of some values -/
def AnyV (K : PySem.W.Frag) (H : Hp) (v : V) : Prop := (∃ o, LotV K H v o) ∧ ∃ t, ShownV K H v t
theorem any_s {K : PySem.W.Frag} {H H' : Hp} {v : V} (h : AnyV K H v) (e : Same H H') : AnyV K H' v := ⟨let ⟨o, h⟩ := h.1; ⟨o, lotv_s h e⟩, let ⟨t, h⟩ := h.2; ⟨t, shown_s h e⟩⟩
/-- a heap without two of its places -/
def er (a D : Addr) (H : Hp) : Hp := fun b => if b = a ∨ b = D then none else H b
theorem er_le {a D : Addr} {H : Hp} : Same (er a D H) H := fun b o h => by
  unfold er at h
  split at h
  · cases h
  · exact h
theorem er_get {a D b : Addr} {H : Hp} {o : HO} (h1 : b ≠ a) (h2 : b ≠ D) (h : H b = some o) : er a D H b = some o := by
  unfold er
  rw [if_neg (by rintro (h | h); exact h1 h; exact h2 h)]
  exact h
theorem er_x {a D : Addr} {H H' : Hp} (e : SmX a H H') : Same (er a D H) (er a D H') := fun b o h => by
  unfold er at h ⊢
  split at h
  · cases h
  · rename_i c
    rw [if_neg c]
    exact e b o (fun z => c (.inl z)) h
theorem er_s {a D : Addr} {H H' : Hp} (e : Same H H') : Same (er a D H) (er a D H') := er_x (smx_of e)
theorem er_up {a D : Addr} {H : Hp} {o : HO} : Same (er a D H) (er a D (upd H D o)) := fun b o' h => by
  unfold er at h ⊢
  split at h
  · cases h
  · rename_i c
    rw [if_neg c, upd_ne (fun z => c (.inr z))]
    exact h
theorem er_new {a D : Addr} {H : Hp} {o : HO} (hD : H D = none) : Same (er a a H) (er a D (upd H D o)) := fun b o' h => by
  unfold er at h ⊢
  split at h
  · cases h
  · rename_i c
    have nb : b ≠ D := fun z => by rw [z, hD] at h; cases h
    rw [if_neg (by rintro (z | z); exact c (.inl z); exact nb z), upd_ne nb]
    exact h
theorem pot_free {H : Hp} {a c : Addr} (p : Pot H a) (h : H c = none) : c ≠ a := fun e => by obtain ⟨u, v, g, _⟩ := p; rw [e, g] at h; cases h
theorem al {G : Hp} {a c : Addr} {o : HO} (pot : Pot G a) (hc : G c = none) : Same G (upd G c o) ∧ Pot (upd G c o) a ∧ er a a (upd G c o) c = some o := by
  have s := same_new (o := o) hc
  exact ⟨s, pot_s pot s, er_get (pot_free pot hc) (pot_free pot hc) upd_same⟩
theorem al2 {G : Hp} {a c : Addr} {o o' : HO} (pot : Pot G a) (hc : G c = none) : Same G (upd (upd G c o) c o') ∧ Pot (upd (upd G c o) c o') a ∧ er a a (upd (upd G c o) c o') c = some o' := by
  have s : Same G (upd (upd G c o) c o') := fun b z h => by
    have n : b ≠ c := fun e => by rw [e, hc] at h; cases h
    rw [upd_ne n, upd_ne n]
    exact h
  exact ⟨s, pot_s pot s, er_get (pot_free pot hc) (pot_free pot hc) upd_same⟩
theorem al3 {G : Hp} {a c : Addr} {o : HO} (pot : Pot G a) (hc : G c = none) : ∃ G', upd G c o = G' ∧ Same G G' ∧ Pot G' a ∧ G' c = some o ∧ Same (er a a G) (er a c G') := by
  have s := same_new (o := o) hc
  exact ⟨_, rfl, s, pot_s pot s, upd_same, er_new hc⟩
theorem pot_up {G : Hp} {a D : Addr} {o : HO} (h : Pot G a) (n : D ≠ a) : Pot (upd G D o) a := let ⟨x, y, g, z⟩ := h; ⟨x, y, by rw [upd_ne n.symm]; exact g, z⟩
theorem smx_up {H G : Hp} {a D : Addr} {o : HO} (h : SmX a H G) (n : H D = none) : SmX a H (upd G D o) := fun b z nb hb => by
  rw [upd_ne (fun e => by rw [e, n] at hb; cases hb)]
  exact h b z nb hb
theorem cut_ints (l : List Int) (lo hi : Option Int) : ∃ m : List Int, cutV (l.map V.int) lo hi = m.map V.int ∧ m.Sublist l := by
  refine ⟨(l.drop (HT.sIx (l.map V.int).length 0 lo)).take (HT.sIx (l.map V.int).length (l.map V.int).length hi - HT.sIx (l.map V.int).length 0 lo), ?_, (List.take_sublist _ _).trans (List.drop_sublist _ _)⟩
  unfold cutV
  rw [List.map_take, List.map_drop]
section
variable {K : PySem.W.Frag} {H : Hp}
theorem repk {d : PyData} (h1 : d.showable = true) (h2 : d.hasDict = false) (h3 : d.depth ≤ 50) (h4 : d.shown.length ≤ sizeLine) : RepOk d := ⟨h1, h2, h3, h4⟩
theorem iv_non : IntV K H .non none := .oth (.base .non) (by decide +kernel)
theorem iv_str {x : Str} : IntV K H (.str x) none := .oth (.base (.str x)) (by decide +kernel)
theorem any_non : AnyV K H .non := ⟨⟨none, .no (.no (.base .non) (by decide +kernel) (by decide +kernel))⟩, _, .dp .non trivial⟩
theorem any_int {i : Int} (h : i.natAbs.log2 < 1920) : AnyV K H (.int i) := ⟨⟨none, .no (.no (.base (.int i)) (by decide +kernel) (by decide +kernel))⟩, _, .dp (.int i) h⟩
theorem any_bl {b : Bool} : AnyV K H (.bl b) := ⟨⟨none, .no (.no (.base (.bl b)) (by decide +kernel) (by decide +kernel))⟩, _, .dp (.bl b) trivial⟩
theorem any_str {x : Str} (h : (reprText x).length ≤ sizeLine) : AnyV K H (.str x) := ⟨⟨none, .no (.no (.base (.str x)) (by decide +kernel) (by decide +kernel))⟩, _, .str x h⟩
theorem any_d0 {c : Addr} (h : H c = some (.dK [])) : AnyV K H (.ref c) := ⟨⟨none, .no (.no (.base (.dK h)) (by decide +kernel) (by decide +kernel))⟩, _, .d0 h⟩
theorem any_d1 {c : Addr} (h : H c = some (.dK [(.inl 0, .int 1)])) : AnyV K H (.ref c) := ⟨⟨none, .no (.no (.base (.dK h)) (by decide +kernel) (by decide +kernel))⟩, _, .d1 h⟩
theorem any_lst {c : Addr} {xs : List V} {os : List (Option Int)} {ds : List PyData} (h : H c = some (.lst xs)) (e : EachV K H xs os) (few : xs.length < 60) (d : DpAll K H xs ds) (r : RepOk (.list ds)) : AnyV K H (.ref c) :=
  ⟨⟨_, .sq (.inl (sl_of h)) e few⟩, _, .dp (.lst (sl_of h) d) r⟩
theorem any_tup {c : Addr} {xs : List V} {os : List (Option Int)} {ds : List PyData} (h : H c = some (.tup xs)) (e : EachV K H xs os) (few : xs.length < 60) (d : DpAll K H xs ds) (r : RepOk (.tuple ds)) : AnyV K H (.ref c) :=
  ⟨⟨_, .sq (.inr (st_of h)) e few⟩, _, .dp (.tup (st_of h) d) r⟩
theorem any_il {c : Addr} {l : List Int} (h : H c = some (.lst (l.map V.int))) (few : l.length < 60) (sm : ∀ x ∈ l, x.natAbs < 10 ^ 12) : AnyV K H (.ref c) :=
  any_lst h (each_ints l) (by rw [List.length_map]; exact few) (dps_ints l) (rep_ints sm (by omega))
theorem any_it {c : Addr} {l : List Int} (h : H c = some (.tup (l.map V.int))) (few : l.length < 60) (sm : ∀ x ∈ l, x.natAbs < 10 ^ 12) : AnyV K H (.ref c) :=
  any_tup h (each_ints l) (by rw [List.length_map]; exact few) (dps_ints l) (rep_tup sm (by omega))
theorem each_app2 : ∀ {xs ys : List V} {os ps : List (Option Int)}, EachV K H xs os → EachV K H ys ps → EachV K H (xs ++ ys) (os ++ ps)
  | [], _, [], _, _, h => h
  | _ :: _, _, _ :: _, _, ⟨h1, h2⟩, h => ⟨h1, each_app2 h2 h⟩
  | [], _, _ :: _, _, h, _ => h.elim
  | _ :: _, _, [], _, h, _ => h.elim
theorem goodA_intsN : ∀ {l : List Int}, (∀ x ∈ l, x.natAbs < 10 ^ 12) → GoodA (l.map .int ++ [.none]) 0 (128 * l.length + 192)
  | [], _ => by
    have g : GoodA [.none] 0 (64 + 64 + 64) := goodA_cons goodD_none goodA_nil
    exact g
  | x :: l, h => by
    have g := goodA_cons (goodD_int (h x (by simp))) (goodA_intsN (l := l) fun y hy => h y (List.mem_cons_of_mem _ hy))
    have e : 64 + (128 * l.length + 192) + 64 = 128 * (x :: l).length + 192 := by rw [List.length_cons]; omega
    rw [e] at g
    exact g
theorem any_iln {c : Addr} {l : List Int} (h : H c = some (.lst (l.map V.int ++ [.non]))) (few : l.length < 50) (sm : ∀ x ∈ l, x.natAbs < 10 ^ 12) : AnyV K H (.ref c) :=
  any_lst h (each_app2 (each_ints l) (show EachV K H [.non] [none] from ⟨iv_non, trivial⟩)) (by simp; omega) (dps_app (dps_ints l) (.cons .non .nil)) (goodD_rep (goodD_list (goodA_intsN sm)) (by decide) (by omega))
theorem any_ll {c d : Addr} {l : List Int} (h : H c = some (.lst [.ref d])) (hd : H d = some (.lst (l.map V.int))) (few : l.length < 60) (sm : ∀ x ∈ l, x.natAbs < 10 ^ 12) : AnyV K H (.ref c) :=
  any_lst h (os := [none]) ⟨.oth (tyx_l (sl_of hd)) (by decide +kernel), trivial⟩ (by simp) (.cons (.lst (sl_of hd) (dps_ints l)) .nil) (goodD_rep (goodD_list (goodA_cons (goodD_list (goodA_ints sm)) goodA_nil)) (by decide) (by omega))
end
def spValuesV (K : PySem.W.Frag) : Sp := fun vs H Q _ => ∃ (a p u v : Addr) (n : Nat), vs = [.ref a, .ref p] ∧ Pot H a ∧ H p = some (.tup [.int n, .ref u, .ref v]) ∧ n ≤ 5 ∧
  ∀ (H' : Hp) (r : Addr) (xs : List V), SmX a H H' → Pot H' a → H' r = some (.lst xs) → (∀ x ∈ xs, AnyV K H' x) → xs.length ≤ 60 → Q (.ref r) H'
section
variable {P : Program} {w : World} {K : PySem.W.Frag} {mg : Str → Option Value} {base : Heap}
abbrev nValuesV : List Str := ["_law_pot_here", "_law_world_here", "_law_found", "_law_lot"]
theorem sc_valuesV : FnScope nValuesV ["_law_pot_here", "_law_world_here"] (defScope sValuesV) := ⟨rfl, rfl, rfl, by decide +kernel, rfl, by decide +kernel, by decide +kernel⟩
theorem ok_valuesV {f f1 f2 f3 : Addr} {fd fd1 fd2 fd3 : FuncData} (F : Fun K "_law_values" "_law_values" sValuesV f fd) (D1 : Df K mg "_law_draw" sDraw ["_law_pot_here", "_law_size"] f1 fd1) (D2 : Df K mg "_law_lots" sLots ["_law_many"] f2 fd2)
    (D3 : Df K mg "_law_pick" sPick ["_law_pot_here", "_law_some"] f3 fd3) (B : Bl mg) : FnOk P w K mg base CX0 3 f fd ["_law_pot_here", "_law_world_here"] (spValuesV K) := by
  have G1 : FnOk P w K mg base CX0 1 f1 fd1 ["_law_pot_here", "_law_size"] spDraw := ok_draw D1.F B
  have G2 : FnOk P w K mg base CX0 1 f2 fd2 ["_law_many"] spLots := ok_lots D2.F B
  have G3 : FnOk P w K mg base CX0 2 f3 fd3 ["_law_pot_here", "_law_some"] (spPick K) := ok_pick D3.F D1 B
  refine F.ok sc_valuesV (fun vs H Q E h => ?_) (fun cdv A outer s H vs Q E hr h => ?_)
  · obtain ⟨a, p, u, v, n, rfl, _⟩ := h
    rfl
  · obtain ⟨a, p, u, v, n, rfl, pot, hp, n5, q⟩ := h
    have hr1 : Room 1 _ := hr.mono (by decide)
    refine ⟨_, pss_cons (ps_set (i := 2) sc_valuesV.nd rfl (Or.inl rfl) (pe_lst (pa_cons pe_non (pa_cons pe_int (pa_cons pe_bl (pa_cons pe_str (pa_cons pe_str (pa_cons pe_dnewK (pa_cons (pe_disp (pps_cons pe_int pe_int pps_nil) rfl rfl (by simp) (by decide))
          (pa_cons (pe_lst (pa_cons pe_non pa_nil)) (pa_cons (pe_lst (pa_cons (pe_lst (pa_cons pe_int (pa_cons pe_int pa_nil))) pa_nil)) (pa_cons (pe_lst (pa_cons pe_str (pa_cons pe_str pa_nil))) (pa_cons (pe_lst (pa_cons pe_int (pa_cons pe_bl pa_nil)))
          (pa_cons (pe_lst (pa_cons pe_str (pa_cons pe_int pa_nil))) (pa_cons (pe_tup (pa_cons pe_bl (pa_cons pe_int pa_nil))) (pa_cons (pe_lst (pa_cons (pe_un un_neg pe_int) (pa_cons pe_int pa_nil))) (pa_cons pe_int pa_nil)))))))))))))))))
      (pss_cons (ps_for PassesOwn.never rfl (pi_list (pe_call G2 hr1 rfl D2.g D2.F.kp D2.b .nil pass0 (pa_cons (pe_ix ix_tup (pv 1) pe_int (fun _ _ => rfl)) pa_nil))) (pg_name (i := 3) sc_valuesV.nd rfl (Or.inl rfl))
        (pss_one (ps_expr (pe_bm PySem.F.plainAttrs_list PySem.F.slot_list_append PySem.F.type_list_append mt_append (pv 2) (pa_cons
          (pe_ifExp (pt_cmpR op_eq (pe_call G1 hr1 rfl D1.g D1.F.kp D1.b .nil pass0 (pa_cons (pv 0) (pa_cons pe_int pa_nil))) pe_int (nomark _)) (pe_callTy call_tuple_of (by rfl) B.tuple PySem.Pv.boot_tuple (pa_cons (pv 3) pa_nil)) (pv 3)) pa_nil)))))
      (pss_cons (ps_set (i := 3) sc_valuesV.nd rfl (Or.inl rfl) (pe_call G3 hr rfl D3.g D3.F.kp D3.b .nil pass0 (pa_cons (pv 0) (pa_cons (pe_call G2 hr1 rfl D2.g D2.F.kp D2.b .nil pass0 (pa_cons (pe_ix ix_tup (pv 1) pe_int (fun _ _ => rfl)) pa_nil)) pa_nil))))
      (pss_one (ps_ret (pe_op op_cat (pv 2) (pe_lst (pa_cons (pe_revL (pv 3)) (pa_cons (pe_op op_cat (pv 3) (pe_slice sl_list (pv 3) (po_some (pe_un un_neg pe_int)) po_none)) (pa_cons (pe_op op_cat (pv 3) (pe_lst (pa_cons (pe_ix ix_tup (pv 1) pe_int (fun _ _ => rfl)) pa_nil)))
          (pa_cons (pe_lst (pa_cons (pv 3) pa_nil)) (pa_cons (pe_op op_cat (pv 3) (pe_lst (pa_cons pe_non pa_nil))) pa_nil))))))))))), ?_⟩
    -- the first values
    refine fun c1 hc1 => ?_
    obtain ⟨s1, p1, f1⟩ := al (o := .dK []) pot hc1
    refine fun c2 hc2 => ⟨upd_same, [(.inl 0, .int 1)], rfl, by decide, ?_⟩
    rw [show mergeK [] [((.inl 0 : Key), V.int 1)] = [(.inl 0, .int 1)] from rfl]
    obtain ⟨s2, p2, f2⟩ := al2 (o := .dK []) (o' := .dK [(.inl 0, .int 1)]) p1 hc2
    refine ⟨szle (by show 1 ≤ 100000; decide), fun c3 hc3 => ?_⟩
    obtain ⟨s3, p3, f3⟩ := al (o := .lst [.non]) p2 hc3
    refine ⟨szle (by show 2 ≤ 100000; decide), fun c4 hc4 => ?_⟩
    obtain ⟨s4, p4, f4⟩ := al (o := .lst [.int 0, .int 1]) p3 hc4
    refine ⟨szle (by show 1 ≤ 100000; decide), fun c5 hc5 => ?_⟩
    obtain ⟨s5, p5, f5⟩ := al (o := .lst [.ref c4]) p4 hc5
    refine ⟨szle (by show 2 ≤ 100000; decide), fun c6 hc6 => ?_⟩
    obtain ⟨s6, p6, f6⟩ := al (o := .lst [.str "0", .str "1"]) p5 hc6
    refine ⟨szle (by show 2 ≤ 100000; decide), fun c7 hc7 => ?_⟩
    obtain ⟨s7, p7, f7⟩ := al (o := .lst [.int 0, .bl true]) p6 hc7
    refine ⟨szle (by show 2 ≤ 100000; decide), fun c8 hc8 => ?_⟩
    obtain ⟨s8, p8, f8⟩ := al (o := .lst [.str "0", .int 1]) p7 hc8
    refine ⟨szle (by show 2 ≤ 100000; decide), fun c9 hc9 => ?_⟩
    obtain ⟨s9, p9, f9⟩ := al (o := .tup [.bl false, .int 1]) p8 hc9
    refine ⟨_, rfl, szle (by show 2 ≤ 100000; decide), fun c10 hc10 => ?_⟩
    dsimp only
    obtain ⟨s10, p10, f10⟩ := al (o := .lst [.int (-1), .int 0]) p9 hc10
    refine ⟨szle (by show 15 ≤ 100000; decide), fun D hD => ?_⟩
    obtain ⟨G0, eG, sD, pG, hDl, t10⟩ := al3 (o := .lst [.non, .int 0, .bl true, .str "", .str "01", .ref c1, .ref c2, .ref c3, .ref c5, .ref c6, .ref c7, .ref c8, .ref c9, .ref c10, .int 1]) p10 hD
    rw [eG]
    have t9 := (er_s (a := a) (D := a) s10).trans t10
    have t8 := (er_s (a := a) (D := a) s9).trans t9
    have t7 := (er_s (a := a) (D := a) s8).trans t8
    have t6 := (er_s (a := a) (D := a) s7).trans t7
    have t5 := (er_s (a := a) (D := a) s6).trans t6
    have t4 := (er_s (a := a) (D := a) s5).trans t5
    have t3 := (er_s (a := a) (D := a) s4).trans t4
    have t2 := (er_s (a := a) (D := a) s3).trans t3
    have t1 := (er_s (a := a) (D := a) s2).trans t2
    have all0 : ∀ x ∈ ([.non, .int 0, .bl true, .str "", .str "01", .ref c1, .ref c2, .ref c3, .ref c5, .ref c6, .ref c7, .ref c8, .ref c9, .ref c10, .int 1] : List V), AnyV K (er a D G0) x := fun x hx => by
      simp only [List.mem_cons, List.not_mem_nil, or_false] at hx
      rcases hx with rfl | rfl | rfl | rfl | rfl | rfl | rfl | rfl | rfl | rfl | rfl | rfl | rfl | rfl | rfl
      · exact any_non
      · exact any_int (by decide)
      · exact any_bl
      · exact any_str (by decide +kernel)
      · exact any_str (by decide +kernel)
      · exact any_s (any_d0 f1) t1
      · exact any_s (any_d1 f2) t2
      · exact any_s (any_lst f3 (os := [none]) (ds := [.none]) ⟨iv_non, trivial⟩ (by simp) (.cons .non .nil) (repk (by decide +kernel) (by decide +kernel) (by decide +kernel) (by decide +kernel))) t3
      · exact any_s (any_ll (l := [0, 1]) f5 (er_s (a := a) (D := a) s5 _ _ f4) (by decide) (by decide)) t5
      · exact any_s (any_lst f6 (os := [none, none]) (ds := [.str "0", .str "1"]) ⟨iv_str, iv_str, trivial⟩ (by simp) (.cons (.str _) (.cons (.str _) .nil)) (repk (by decide +kernel) (by decide +kernel) (by decide +kernel) (by decide +kernel))) t6
      · exact any_s (any_lst f7 (os := [some 0, none]) (ds := [.int 0, .bool true]) ⟨.int 0, .bl true, trivial⟩ (by simp) (.cons (.int _) (.cons (.bl _) .nil)) (repk (by decide +kernel) (by decide +kernel) (by decide +kernel) (by decide +kernel))) t7
      · exact any_s (any_lst f8 (os := [none, some 1]) (ds := [.str "0", .int 1]) ⟨iv_str, .int 1, trivial⟩ (by simp) (.cons (.str _) (.cons (.int _) .nil)) (repk (by decide +kernel) (by decide +kernel) (by decide +kernel) (by decide +kernel))) t8
      · exact any_s (any_tup f9 (os := [none, some 1]) (ds := [.bool false, .int 1]) ⟨.bl false, .int 1, trivial⟩ (by simp) (.cons (.bl _) (.cons (.int _) .nil)) (repk (by decide +kernel) (by decide +kernel) (by decide +kernel) (by decide +kernel))) t9
      · exact any_s (any_il (l := [-1, 0]) f10 (by decide) (by decide)) t10
      · exact any_int (by decide)
    have s0G := ((((((((s1.trans s2).trans s3).trans s4).trans s5).trans s6).trans s7).trans s8).trans s9).trans (s10.trans sD)
    have hD0 : H D = none := ((((((((s1.trans s2).trans s3).trans s4).trans s5).trans s6).trans s7).trans s8).trans s9).trans s10 |>.free hD
    have xG := smx_of (a := a) s0G
    have hpG := s0G _ _ hp
    have nDa : D ≠ a := pot_free pot hD0
    have npa : p ≠ a := fun e => by obtain ⟨x, y, g, _⟩ := pot; rw [e, g] at hp; cases hp
    have npD : p ≠ D := fun e => by rw [e, hD0] at hp; cases hp
    obtain ⟨L0, eL⟩ : ∃ L0 : List V, [.non, .int 0, .bl true, .str "", .str "01", .ref c1, .ref c2, .ref c3, .ref c5, .ref c6, .ref c7, .ref c8, .ref c9, .ref c10, .int 1] = L0 := ⟨_, rfl⟩
    have l15 : L0.length = 15 := by rw [← eL]; rfl
    rw [eL] at hDl all0
    clear eL eG t1 t2 t3 t4 t5 t6 t7 t8 t9 t10 f1 f2 f3 f4 f5 f6 f7 f8 f9 f10 s1 s2 s3 s4 s5 s6 s7 s8 s9 s10 sD s0G p1 p2 p3 p4 p5 p6 p7 p8 p9 p10 hc1 hc2 hc3 hc4 hc5 hc6 hc7 hc8 hc9 hc10 hD
    -- all lots
    have small : ∀ l, Lot n l → l.length < 60 ∧ l.length ≤ 5 ∧ ∀ x ∈ l, x.natAbs < 10 ^ 12 := fun l hl => by
      have h1 := nodup_le (lt_nd hl.1) hl.2
      rw [things_len] at h1
      refine ⟨by omega, by omega, fun x hx => ?_⟩
      have := mem_things.mp (hl.2 x hx)
      omega
    refine ⟨_, rfl, p, _, _, _, rfl, rfl, st_of hpG, rfl, n, rfl, n5, fun G1 r xs os s1 hr0 hr' ls fr pm _ => ⟨r, rfl, ⟨xs, sl_of hr'⟩, ?_⟩⟩
    have nra : r ≠ a := pot_free pG hr0
    have nrD : r ≠ D := fun e => by rw [e, hDl] at hr0; cases hr0
    have lxo := ls_len ls
    have loN : os.length ≤ 32 := by
      rw [pm.length_eq, allLots_len]
      have h1 : n = 0 ∨ n = 1 ∨ n = 2 ∨ n = 3 ∨ n = 4 ∨ n = 5 := by omega
      rcases h1 with rfl | rfl | rfl | rfl | rfl | rfl <;> decide
    have hrE : er a D G1 r = some (.lst xs) := er_get nra nrD hr'
    have hpE : er a D G1 p = some (.tup [.int n, .ref u, .ref v]) := er_get npa npD (s1 _ _ hpG)
    refine for_list (K := K) (a := r) (xs := xs) (fun i σ G => ∃ (acc : List V) (v3 : Option V), σ = [some (V.ref a), some (V.ref p), some (V.ref D), v3] ∧ SmX a H G ∧ Pot G a ∧ Same (er a D G1) (er a D G) ∧ G D = some (.lst acc) ∧ acc.length ≤ 15 + i ∧ ∀ x ∈ acc, AnyV K (er a D G) x)
      ⟨L0, none, rfl, xG.trans (smx_of s1), pot_s pG s1, fun _ _ h => h, s1 _ _ hDl, by omega, fun x hx => any_s (all0 x hx) (er_s s1)⟩ (fun i σ G _ z => by obtain ⟨_, _, _, _, _, E, _⟩ := z; exact sl_of (er_le _ _ (E _ _ hrE))) ?_ ?_
    · rintro i x σ G hx ⟨acc, v3, rfl, xS, pG2, E, hacc, la, all⟩
      obtain ⟨o, q', ho, rfl, hq⟩ := ls_at ls hx
      obtain ⟨q2, eq2, hq0⟩ := fr _ (List.mem_of_getElem? hx)
      cases eq2
      have hi := lt_of_at hx
      have lot : Lot n o := mem_allLots.mp (pm.mem_iff.mp (List.mem_of_getElem? ho))
      obtain ⟨sm1, _, sm2⟩ := small o lot
      have hqE : er a D G1 q' = some (.lst (o.map V.int)) := er_get (pot_free pG hq0) (fun e => by rw [e, hDl] at hq0; cases hq0) hq
      refine ⟨_, rfl, .inl ⟨rfl, _, sl_of hacc⟩, ?_⟩
      refine ⟨_, rfl, a, 2, rfl, pG2, by decide, by decide, fun G2 d sx p2 d0 d1 => ⟨rfl, _, Tk.dec_bl, ?_⟩⟩
      have E2 := E.trans (er_x (D := D) sx)
      have hq2 := er_le _ _ (E2 _ _ hqE)
      have hacc2 := sx _ _ nDa hacc
      have xS2 := xS.trans sx
      have all2 : ∀ x ∈ acc, AnyV K (er a D G2) x := fun x hx => any_s (all x hx) (er_x sx)
      by_cases c : d = 0
      · rw [decide_eq_true c]
        refine iteT ⟨_, rfl, q', _, rfl, .inl ⟨sl_of hq2, fun t ht => ?_⟩⟩
        have s3 := same_new (o := .tup (o.map V.int)) ht
        have ntD : t ≠ D := fun e => by rw [e, hacc2] at ht; cases ht
        have E3 := er_s (a := a) (D := D) s3
        refine ⟨D, acc, _, rfl, rfl, s3 _ _ hacc2, szlt (by omega), acc ++ [.ref t], _, rfl, smx_up (xS2.trans (smx_of s3)) hD0, pot_up (pot_s p2 s3) nDa, E2.trans (E3.trans er_up), upd_same, by rw [List.length_append, List.length_singleton]; omega, fun x hx => ?_⟩
        rcases List.mem_append.mp hx with k | k
        · exact any_s (all2 x k) (E3.trans er_up)
        · rw [List.mem_singleton.mp k]
          exact any_s (any_it (er_get (pot_free p2 ht) ntD upd_same) sm1 sm2) er_up
      · rw [decide_eq_false c]
        refine iteF ⟨_, rfl, ?_⟩
        refine ⟨D, acc, _, rfl, rfl, hacc2, szlt (by omega), acc ++ [.ref q'], _, rfl, smx_up xS2 hD0, pot_up p2 nDa, E2.trans er_up, upd_same, by rw [List.length_append, List.length_singleton]; omega, fun x hx => ?_⟩
        rcases List.mem_append.mp hx with k | k
        · exact any_s (all2 x k) er_up
        · rw [List.mem_singleton.mp k]
          exact any_s (any_il (E2 _ _ hqE) sm1 sm2) er_up
    rintro σ G ⟨acc, v3, rfl, xS, pG2, E, hacc, la, all⟩
    have hpG2 := er_le _ _ (E _ _ hpE)
    clear E hrE hpE hDl all0 fr ls hr' hr0 s1 pm
    -- one lot
    refine ⟨_, rfl, _, rfl, p, _, _, _, rfl, rfl, st_of hpG2, rfl, n, rfl, n5, fun G3 r3 xs3 os3 s3 hr30 hr3 ls3 fr3 pm3 _ => ?_⟩
    have lx3 := ls_len ls3
    have lo3 : os3.length ≤ 32 ∧ 0 < os3.length := by
      rw [pm3.length_eq, allLots_len]
      have h1 : n = 0 ∨ n = 1 ∨ n = 2 ∨ n = 3 ∨ n = 4 ∨ n = 5 := by omega
      rcases h1 with rfl | rfl | rfl | rfl | rfl | rfl <;> decide
    refine ⟨a, r3, xs3, rfl, pot_s pG2 s3, hr3, pot_free pG2 hr30, (fun e => by rw [e] at lx3; simp at lx3; omega), by omega, fun G4 i w0 sx4 p4 hw => ?_⟩
    obtain ⟨o, q', ho, rfl, hq3⟩ := ls_at ls3 hw
    obtain ⟨q2, eq2, hq0⟩ := fr3 _ (List.mem_of_getElem? hw)
    cases eq2
    have lot : Lot n o := mem_allLots.mp (pm3.mem_iff.mp (List.mem_of_getElem? ho))
    obtain ⟨sm1, sm3, sm2⟩ := small o lot
    have nqa := pot_free pG2 hq0
    have hq := sx4 _ _ nqa hq3
    have hp4 := sx4 _ _ npa (s3 _ _ hpG2)
    have hD4 := sx4 _ _ nDa (s3 _ _ hacc)
    have all4 : ∀ x ∈ acc, AnyV K G4 x := fun x hx => any_s (any_s (any_s (all x hx) (er_s s3)) (er_x sx4)) er_le
    have x4 := (xS.trans (smx_of s3)).trans sx4
    clear all hq3 ls3 fr3 pm3 hr3 hr30 hw sx4 s3 hacc pG2 xS hpG2 hq0 lx3 lo3
    -- turned about
    refine ⟨_, rfl, _, rfl, q', _, rfl, sl_of hq, fun e1 he1 => ?_⟩
    have y1 := same_new (o := .lst (o.map V.int).reverse) he1
    -- its last twice
    obtain ⟨m, em, sub⟩ := cut_ints o (some (-1)) none
    refine ⟨_, rfl, _, rfl, _, rfl, _, rfl, q', _, rfl, sl_of (y1 _ _ hq), fun e2 he2 => ?_⟩
    have y2 := same_new (o := .lst (cutV (o.map V.int) (some (-1)) none)) he2
    refine ⟨q', e2, _, _, rfl, rfl, (y1.trans y2) _ _ hq, upd_same, szle (by rw [em, List.length_map, List.length_map]; have := sub.length_le; omega), fun e3 he3 => ?_⟩
    have y3 := same_new (o := .lst (o.map V.int ++ cutV (o.map V.int) (some (-1)) none)) he3
    have y13 := (y1.trans y2).trans y3
    -- and one that is no thing
    refine ⟨_, rfl, _, rfl, p, _, _, _, rfl, rfl, st_of (y13 _ _ hp4), rfl, szle (by show 1 ≤ 100000; decide), fun e4 he4 => ?_⟩
    have y4 := same_new (o := .lst [V.int (n : Int)]) he4
    refine ⟨q', e4, _, _, rfl, rfl, (y13.trans y4) _ _ hq, upd_same, szle (by rw [List.length_map, List.length_singleton]; omega), fun e5 he5 => ?_⟩
    have y5 := same_new (o := .lst (o.map V.int ++ [V.int (n : Int)])) he5
    have y15 := (y13.trans y4).trans y5
    -- within a list
    refine ⟨_, rfl, szle (by show 1 ≤ 100000; decide), fun e6 he6 => ?_⟩
    have y6 := same_new (o := .lst [V.ref q']) he6
    -- and None
    refine ⟨_, rfl, szle (by show 1 ≤ 100000; decide), fun e7 he7 => ?_⟩
    have y7 := same_new (o := .lst [V.non]) he7
    have y17 := (y15.trans y6).trans y7
    refine ⟨q', e7, _, _, rfl, rfl, y17 _ _ hq, upd_same, szle (by rw [List.length_map, List.length_singleton]; omega), fun e8 he8 => ?_⟩
    have y8 := same_new (o := .lst (o.map V.int ++ [V.non])) he8
    refine ⟨szle (by show 5 ≤ 100000; decide), fun e9 he9 => ?_⟩
    have y9 := same_new (o := .lst [V.ref e1, V.ref e3, V.ref e5, V.ref e6, V.ref e8]) he9
    have y19 := (y17.trans y8).trans y9
    refine ⟨D, e9, acc, _, rfl, rfl, y19 _ _ hD4, upd_same, szle (by show acc.length + 5 ≤ 100000; omega), fun rr hrr => ?_⟩
    have yA := same_new (o := .lst (acc ++ [V.ref e1, V.ref e3, V.ref e5, V.ref e6, V.ref e8])) hrr
    have y1A := y19.trans yA
    have y9A := y9.trans yA
    have y8A := y8.trans y9A
    have y7A := y7.trans y8A
    have y6A := y6.trans y7A
    have y5A := y5.trans y6A
    have y4A := y4.trans y5A
    have y3A := y3.trans y4A
    have y2A := y2.trans y3A
    refine q _ rr _ (x4.trans (smx_of y1A)) (pot_s p4 y1A) upd_same (fun x hx => ?_) (by rw [List.length_append]; show acc.length + 5 ≤ 60; omega)
    rcases List.mem_append.mp hx with k | k
    · exact any_s (all4 x k) y1A
    · simp only [List.mem_cons, List.not_mem_nil, or_false] at k
      rcases k with rfl | rfl | rfl | rfl | rfl
      · exact any_il (l := o.reverse) (by rw [List.map_reverse]; exact y2A _ _ upd_same) (by rw [List.length_reverse]; omega) fun x hx => sm2 x (List.mem_reverse.mp hx)
      · refine any_il (l := o ++ m) (by rw [List.map_append, ← em]; exact y4A _ _ upd_same) (by rw [List.length_append]; have := sub.length_le; omega) fun x hx => ?_
        rcases List.mem_append.mp hx with z | z
        · exact sm2 x z
        · exact sm2 x (sub.subset z)
      · refine any_il (l := o ++ [(n : Int)]) (by rw [List.map_append]; exact y6A _ _ upd_same) (by rw [List.length_append, List.length_singleton]; omega) fun x hx => ?_
        rcases List.mem_append.mp hx with z | z
        · exact sm2 x z
        · rw [List.mem_singleton.mp z]; omega
      · exact any_ll (l := o) (y7A _ _ upd_same) (y1A _ _ hq) sm1 sm2
      · exact any_iln (l := o) (y9A _ _ upd_same) (by omega) sm2
end
end Tk

namespace Tk
open PySem PySem.Spec PyProof.Rows L2
/-! ## is_barred, of any value -/
theorem mergeB42 {A : Bool → Hp → Prop} {R : Prop} (S : Bool → Hp → Prop) (rest : ∀ k G, S k G → A k G) (use : (∀ k G, S k G → A k G) → R) : R := use rest
theorem bar_congr2 {n : Nat} {as as' ts ts' : List (Int × Int)} {l : List Int} (pA : as'.Perm as) (pT : ts'.Perm ts) : Bar n as' ts' l ↔ Bar n as ts l := ⟨bar_congr pA.symm pT.symm, bar_congr pA pT⟩
theorem str_ne2 {t : Str} : V.bl (!decide (V.str t = V.str t)) = V.bl false := by simp
def KwRev2 (fd : FuncData) (ks ps : List Str) : Prop := ∀ (s : Shared) (ws : List Value), ws.length = ks.length → BindsTo s fd ⟨[], ks.zip ws⟩ (ps.zip ws.reverse)
structure Calls42 (P : Program) (w : World) (K : PySem.W.Frag) (mg : Str → Option Value) (base : Heap) (C : Addr) : Prop where
  draw : ∃ f fd, Df K mg "_law_draw" sDraw ["_law_pot_here", "_law_size"] f fd ∧ FnOk P w K mg base CX0 1 f fd ["_law_pot_here", "_law_size"] spDraw
  world : ∃ f fd, Df K mg "_law_world" sWorld ["_law_pot_here", "_law_many"] f fd ∧ FnOk P w K mg base CX0 3 f fd ["_law_pot_here", "_law_many"] (spWorld K)
  made : ∃ f fd, Df K mg "_law_made" sMade ["_law_pot_here", "_law_world_here"] f fd ∧ FnOk P w K mg base CX0 9 f fd ["_law_pot_here", "_law_world_here"] (spMade K C)
  values : ∃ f fd, Df K mg "_law_values" sValuesV ["_law_pot_here", "_law_world_here"] f fd ∧ FnOk P w K mg base CX0 3 f fd ["_law_pot_here", "_law_world_here"] (spValuesV K)
  due : ∃ f fd, Df K mg "_law_due" sDueV ["_law_world_here", "_law_value"] f fd ∧ FnOk P w K mg base CX0 4 f fd ["_law_world_here", "_law_value"] (spDueV K)
  barred : ∃ f fd, Df K mg "is_barred" sIsBarred ["plan", "value"] f fd ∧ FnOk P w K mg base CX0 9 f fd ["plan", "value"] (spIsBarred K C) ∧ KwRev2 fd ["value", "plan"] ["plan", "value"]
def spRight : Sp := fun vs H Q _ => ∃ a : Addr, vs = [.ref a] ∧ Pot H a ∧ ∀ H', Q (.bl true) H'
def spLaw (K : PySem.W.Frag) : Sp := fun vs H Q _ => ∃ (a : Addr) (ns : List Int), vs = [.ref a] ∧ SqL K H a (ns.map V.int) ∧ ∀ H', Q (.bl true) H'
section
variable {P : Program} {w : World} {K : PySem.W.Frag} {mg : Str → Option Value} {base : Heap}
abbrev nRight : List Str := ["_law_pot_here", "_law_world_here", "_law_plan", "_law_at", "_law_value", "_law_due_here", "_law_shown", "_law_told"]
theorem sc_right : FnScope nRight ["_law_pot_here"] (defScope sRight) := ⟨rfl, rfl, rfl, by decide +kernel, rfl, by decide +kernel, by decide +kernel⟩
theorem ok_right {f C : Addr} {fd : FuncData} (F : Fun K "_law_right" "_law_right" sRight f fd) (Z : Calls42 P w K mg base C) (B : Bl mg) : FnG P w K mg base 10 f fd ["_law_pot_here"] spRight := by
  obtain ⟨fD, dD, DD, GD⟩ := Z.draw
  obtain ⟨fW, dW, DW, GW⟩ := Z.world
  obtain ⟨fM, dM, DM, GM⟩ := Z.made
  obtain ⟨fV, dV, DV, GV⟩ := Z.values
  obtain ⟨fU, dU, DU, GU⟩ := Z.due
  obtain ⟨fB, dB, DB, GB, kB⟩ := Z.barred
  refine okG F sc_right (fun vs H Q E h => ?_) (fun cdv A outer s H vs Q E hgd hr h => ?_)
  · obtain ⟨a, rfl, _⟩ := h
    rfl
  · obtain ⟨a, rfl, pot, q⟩ := h
    have hr1 : Room 1 _ := hr.mono (by decide)
    have hr3 : Room 3 _ := hr.mono (by decide)
    have hr4 : Room 4 _ := hr.mono (by decide)
    have hu64 := hr.units
    refine ⟨_, pss_cons (ps_set (i := 1) sc_right.nd rfl (Or.inl rfl) (pe_call GW hr3 rfl DW.g DW.F.kp DW.b .nil pass0 (pa_cons (pv 0) (pa_cons (pe_call GD hr1 rfl DD.g DD.F.kp DD.b .nil pass0 (pa_cons (pv 0) (pa_cons pe_int pa_nil))) pa_nil))))
      (pss_cons (ps_set (i := 2) sc_right.nd rfl (Or.inl rfl) (pe_call GM hr rfl DM.g DM.F.kp DM.b .nil pass0 (pa_cons (pv 0) (pa_cons (pv 1) pa_nil))))
      (pss_cons (ps_for PassesOwn.never rfl (pi_enum rfl B.enumerate (pa_cons (pe_call GV hr3 rfl DV.g DV.F.kp DV.b .nil pass0 (pa_cons (pv 0) (pa_cons (pv 1) pa_nil))) pa_nil)) (pg_tup rfl (pgs_cons (pg_name (i := 3) sc_right.nd rfl (Or.inl rfl)) (pgs_cons (pg_name (i := 4) sc_right.nd rfl (Or.inl rfl)) pgs_nil)))
        (pss_cons (ps_par (i := 5) (j := 6) rfl sc_right.nd rfl rfl (by decide) rfl rfl (pa_cons (pe_call GU hr4 rfl DU.g DU.F.kp DU.b .nil pass0 (pa_cons (pv 1) (pa_cons (pv 4) pa_nil)))
            (pa_cons (pe_callB (call_reprX hgd hu64) (by rfl) B.repr PyProof.Rows.boot_repr (pa_cons (pv 4) pa_nil)) pa_nil)) (by rfl))
        (pss_cons (ps_set (i := 7) sc_right.nd rfl (Or.inl rfl) (pe_ifExp (pt_cmpR op_eq (pe_op op_mod (pe_callTy call_int1 (by rfl) B.int PyProof.Rows.boot_int (pa_cons (pv 3) pa_nil)) pe_int) pe_int (nomark _))
            (pe_call GB hr rfl DB.g DB.F.kp DB.b .nil pass0 (pa_cons (pv 2) (pa_cons (pv 4) pa_nil)))
            (pe_kwR GB hr rfl DB.g DB.F.kp kB (pk_cons (pv 4) (pk_cons (pv 2) pk_nil)))))
        (pss_one (ps_if (PW.pt (pw_or (pt_cmpR op_ne (pe_callB (call_reprX hgd hu64) (by rfl) B.repr PyProof.Rows.boot_repr (pa_cons (pv 7) pa_nil)) (pe_callB (call_reprX hgd hu64) (by rfl) B.repr PyProof.Rows.boot_repr (pa_cons (pv 5) pa_nil)) (nomark _))
            (pw_or1 (pt_cmpR op_ne (pe_callB (call_reprX hgd hu64) (by rfl) B.repr PyProof.Rows.boot_repr (pa_cons (pv 4) pa_nil)) (pv 6) (nomark _))))) (pss_one (ps_ret pe_bl)) pss_nil)))))
      (pss_one (ps_ret pe_bl)))), ?_⟩
    refine ⟨_, rfl, _, rfl, a, 6, rfl, pot, by decide, by decide, fun H1 d x1 p1 d0 d1 => ?_⟩
    obtain ⟨n, rfl⟩ : ∃ n : Nat, d = (n : Int) := ⟨d.toNat, by omega⟩
    refine ⟨a, n, rfl, p1, by omega, fun H2 p l m xs ys as ts x2 p2 hp _ _ _ nla nma hl hm dx dy pas acy pts lt => ?_⟩
    refine ⟨_, rfl, _, rfl, a, p, l, m, n, xs, ys, as, ts, rfl, p2, hp, nla, nma, hl, hm, dx, dy, by omega, pas, acy, pts, lt, fun H3 x as' ts' x3 p3 pmA pmT PX => ?_⟩
    have npa : p ≠ a := fun e => by obtain ⟨u, v, g, _⟩ := p2; rw [e, g] at hp; cases hp
    have hp3 := x3 _ _ npa hp
    refine ⟨_, rfl, _, rfl, a, p, l, m, n, rfl, p3, hp3, by omega, fun H4 r vals x4 p4 hr' all few => ?_⟩
    have hp4 := x4 _ _ npa hp3
    have hl4 := x4 _ _ nla (x3 _ _ nla hl)
    have hm4 := x4 _ _ nma (x3 _ _ nma hm)
    have dx4 := dps_x (dps_x dx p2 x3) p3 x4
    have dy4 := dps_x (dps_x dy p2 x3) p3 x4
    have PX4 := plan_x PX p3 x4
    clear hp hl hm dx dy hp3 PX
    refine ⟨r, vals, rfl, sl_of hr', for_it (walk_enum (K := K) (a := r) (xs := vals)) (fun i σ G => ∃ (v3 v4 v5 v6 v7 : Option V), σ = [some (V.ref a), some (V.ref p), some (V.ref x), v3, v4, v5, v6, v7] ∧ Same H4 G)
      ⟨_, _, _, _, _, rfl, fun _ _ h => h⟩ (fun i σ G _ z => by obtain ⟨_, _, _, _, _, _, z⟩ := z; exact sl_of (z _ _ hr')) ?_ ?_⟩
    · rintro i y σ G Ge hi ⟨v3, v4, v5, v6, v7, rfl, sG⟩ ⟨T, xi, yo, rfl, hT, rfl, hx, hy⟩
      cases hx
      have any := all yo (List.mem_of_getElem? hy)
      have sE := sG.trans (same_new (o := .tup [.int (i : Nat), yo]) hT)
      refine ⟨T, _, rfl, st_of upd_same, rfl, _, _, rfl, _, _, rfl, rfl, ?_⟩
      generalize upd G T (.tup [.int (i : Nat), yo]) = Ge at sE
      obtain ⟨⟨o, ho⟩, t, ht⟩ := any
      refine ⟨_, rfl, _, rfl, p, l, m, n, as, ts, yo, o, rfl, sE _ _ hp4, ⟨xs, sl_of (sE _ _ hl4), dps_s dx4 sE⟩, ⟨ys, sl_of (sE _ _ hm4), dps_s dy4 sE⟩, by omega, pas, lotv_s ho sE, fun Ga b1 sa k1 => ?_⟩
      have sEa := sE.trans sa
      refine ⟨_, rfl, yo, t, rfl, shown_s ht sEa, _, _, rfl, ?_⟩
      have PXa := plan_s PX4 sEa
      have hoa := lotv_s ho sEa
      refine' mergeB42 (fun b2 G => Same Ga G ∧ (b2 = true ↔ ∃ l, o = some (l.map some) ∧ Bar n as ts l)) ?rest (fun rest => ?use)
      case use =>
        refine ⟨_, rfl, .inl ⟨_, rfl, _, _, rfl, rfl, (show (0 : Int) < 2 by decide), rfl, _, Tk.dec_bl, ?_⟩⟩
        refine ite2 (fun c => ?_) (fun c => ?_)
        · refine ⟨_, rfl, _, rfl, x, n, as', ts', yo, o, rfl, PXa, hoa, fun Gb b2 sb k2 => rest b2 Gb ⟨sb, k2.trans (exists_congr fun l => and_congr Iff.rfl (bar_congr2 pmA pmT))⟩⟩
        · refine ⟨_, rfl, _, rfl, rfl, x, n, as', ts', yo, o, rfl, PXa, hoa, fun Gb b2 sb k2 => rest b2 Gb ⟨sb, k2.trans (exists_congr fun l => and_congr Iff.rfl (bar_congr2 pmA pmT))⟩⟩
      case rest =>
        rintro b2 Gb ⟨sb, k2⟩
        have e12 : b2 = b1 := by
          cases b2 <;> cases b1 <;> first | rfl | (have := k1.mpr (k2.mp rfl); cases this) | (have := k2.mpr (k1.mp rfl); cases this)
        subst e12
        have sEb := sEa.trans sb
        refine ⟨_, rfl, _, _, rfl, .dp (.bl _) trivial, _, rfl, _, _, rfl, .dp (.bl _) trivial, rfl, false, str_ne2, iteF ?_⟩
        refine ⟨_, rfl, yo, t, rfl, shown_s ht sEb, _, rfl, rfl, false, str_ne2, iteF ?_⟩
        exact ⟨_, _, _, _, _, rfl, sEb⟩
    · rintro σ G ⟨v3, v4, v5, v6, v7, rfl, sG⟩
      exact q G
theorem sc_law : FnScope ["_law_script"] ["_law_script"] (defScope sLaw) := ⟨rfl, rfl, rfl, by decide +kernel, rfl, by decide +kernel, by decide +kernel⟩
theorem ok_law {f f1 f2 : Addr} {fd fd1 fd2 : FuncData} (F : Fun K "law" "law" sLaw f fd) (D1 : Df K mg "_law_pot" sPot ["_law_script", "_law_k"] f1 fd1) (D2 : Df K mg "_law_right" sRight ["_law_pot_here"] f2 fd2)
    (G2 : FnG P w K mg base 10 f2 fd2 ["_law_pot_here"] spRight) (B : Bl mg) : FnG P w K mg base 11 f fd ["_law_script"] (spLaw K) := by
  have G1 : FnOk P w K mg base CX0 1 f1 fd1 ["_law_script", "_law_k"] (spPot K) := ok_pot D1.F B
  refine okG F sc_law (fun vs H Q E h => ?_) (fun cdv A outer s H vs Q E hgd hr h => ?_)
  · obtain ⟨a, ns, rfl, _⟩ := h
    rfl
  · obtain ⟨a, ns, rfl, ha, q⟩ := h
    refine ⟨_, pss_one (ps_ret (pe_callG G2 hgd hr rfl D2.g D2.F.kp D2.b (pa_cons (pe_call G1 (hr.mono (by decide)) rfl D1.g D1.F.kp D1.b .nil pass0 (pa_cons (pv 0) (pa_cons pe_int pa_nil))) pa_nil))), ?_⟩
    exact ⟨_, rfl, a, ns, rfl, ha, fun H1 p s1 hp pot => ⟨p, rfl, pot, q⟩⟩
end
end Tk

namespace Tk
open PySem PySem.Spec PyProof.Rows L2
theorem kit_self {K : PySem.W.Frag} {C : Addr} : PySem.W.kitOne K (.ref C) (.ref C) = some true := by
  unfold PySem.W.kitOne
  rw [if_pos (by simp)]
theorem all_mk {P : Program} {w : World} {K : PySem.W.Frag} {h : Heap} {mg : Str → Option Value} {fa C pW f0 f1 f2 f3 f4 f5 f6 f7 f8 f9 f10 f11 f12 f13 f14 f15 f16 f17 f18 f19 f20 f21 f22 f23 f24 f25 f26 f27 f28 f29 f30 f31 f32 f33 f34 f35 f36 f37 f38 f39 f40 f41 f42 : Addr} {rest : List Value} {tkM : Tok} (X : K.In h) (G : h.Ns mainGlobals mg) (hfa : mg "law" = some (.ref fa))
    {od0 an0 od1 an1 od2 an2 od3 an3 od4 an4 od5 an5 od6 an6 od7 an7 od8 an8 od9 an9 od10 an10 od11 an11 od12 an12 od13 an13 od14 an14 od15 an15 od16 an16 od17 an17 od18 an18 od19 an19 od20 an20 od21 an21 od22 an22 od23 an23 od24 an24 od25 an25 od26 an26 od27 an27 od28 an28 od29 an29 od30 an30 od31 an31 od32 an32 od33 an33 od34 an34 od35 an35 od36 an36 od37 an37 od38 an38 od39 an39 od40 an40 od41 an41 od42 an42 : Option Addr} {sl0 sl1 sl2 sl3 sl4 sl5 sl6 sl7 sl8 sl9 sl10 sl11 sl12 sl13 sl14 sl15 sl16 sl17 sl18 sl19 sl20 sl21 sl22 sl23 sl24 sl25 sl26 sl27 sl28 sl29 sl30 sl31 sl32 sl33 sl34 sl35 sl36 sl37 sl38 sl39 sl40 sl41 sl42 : Array (Option Value)}
    {oc0 kV0 dc0 pm0 cd0 ct0 oc1 kV1 dc1 pm1 cd1 ct1 oc2 kV2 dc2 pm2 cd2 ct2 oc3 kV3 dc3 pm3 cd3 ct3 oc4 kV4 dc4 pm4 cd4 ct4 oc5 kV5 dc5 pm5 cd5 ct5 oc6 kV6 dc6 pm6 cd6 ct6 oc7 kV7 dc7 pm7 cd7 ct7 oc8 kV8 dc8 pm8 cd8 ct8 oc9 kV9 dc9 pm9 cd9 ct9 oc10 kV10 dc10 pm10 cd10 ct10 oc11 kV11 dc11 pm11 cd11 ct11 oc12 kV12 dc12 pm12 cd12 ct12 oc13 kV13 dc13 pm13 cd13 ct13 oc14 kV14 dc14 pm14 cd14 ct14 oc15 kV15 dc15 pm15 cd15 ct15 oc16 kV16 dc16 pm16 cd16 ct16 oc17 kV17 dc17 pm17 cd17 ct17 oc18 kV18 dc18 pm18 cd18 ct18 oc19 kV19 dc19 pm19 cd19 ct19 oc20 kV20 dc20 pm20 cd20 ct20 oc21 kV21 dc21 pm21 cd21 ct21 oc22 kV22 dc22 pm22 cd22 ct22 oc23 kV23 dc23 pm23 cd23 ct23 oc24 kV24 dc24 pm24 cd24 ct24 oc25 kV25 dc25 pm25 cd25 ct25 oc26 kV26 dc26 pm26 cd26 ct26 oc27 kV27 dc27 pm27 cd27 ct27 oc28 kV28 dc28 pm28 cd28 ct28 oc29 kV29 dc29 pm29 cd29 ct29 oc30 kV30 dc30 pm30 cd30 ct30 oc31 kV31 dc31 pm31 cd31 ct31 oc32 kV32 dc32 pm32 cd32 ct32 oc33 kV33 dc33 pm33 cd33 ct33 oc34 kV34 dc34 pm34 cd34 ct34 oc35 kV35 dc35 pm35 cd35 ct35 oc36 kV36 dc36 pm36 cd36 ct36 oc37 kV37 dc37 pm37 cd37 ct37 oc38 kV38 dc38 pm38 cd38 ct38 oc39 kV39 dc39 pm39 cd39 ct39 oc40 kV40 dc40 pm40 cd40 ct40 oc41 kV41 dc41 pm41 cd41 ct41 oc42 kV42 dc42 pm42 cd42 ct42 : Value}
    (aC : PySem.W.nsIn K mainGlobals "Plan" = some (some (.ref C)))
    (a0 : PySem.W.nsIn K mainGlobals "is_integer" = some (some (.ref f0)))
    (l0 : K.lookup f0 = some ⟨oc0, od0, .func (PySem.W.fnOf "is_integer" "is_integer" (defArgs sIsInt) (defBody sIsInt) (defScope sIsInt) .none kV0 dc0 pm0 an0 cd0 ct0), sl0⟩)
    (c0 : PySem.W.codeIn K cd0 "is_integer" = true)
    (k0 : PySem.W.keepIn K (.ref f0) = true)
    (a1 : PySem.W.nsIn K mainGlobals "is_count" = some (some (.ref f1)))
    (l1 : K.lookup f1 = some ⟨oc1, od1, .func (PySem.W.fnOf "is_count" "is_count" (defArgs sIsCnt) (defBody sIsCnt) (defScope sIsCnt) .none kV1 dc1 pm1 an1 cd1 ct1), sl1⟩)
    (c1 : PySem.W.codeIn K cd1 "is_count" = true)
    (k1 : PySem.W.keepIn K (.ref f1) = true)
    (a2 : PySem.W.nsIn K mainGlobals "is_list" = some (some (.ref f2)))
    (l2 : K.lookup f2 = some ⟨oc2, od2, .func (PySem.W.fnOf "is_list" "is_list" (defArgs sIsLst) (defBody sIsLst) (defScope sIsLst) .none kV2 dc2 pm2 an2 cd2 ct2), sl2⟩)
    (c2 : PySem.W.codeIn K cd2 "is_list" = true)
    (k2 : PySem.W.keepIn K (.ref f2) = true)
    (a3 : PySem.W.nsIn K mainGlobals "is_thing" = some (some (.ref f3)))
    (l3 : K.lookup f3 = some ⟨oc3, od3, .func (PySem.W.fnOf "is_thing" "is_thing" (defArgs sIsThg) (defBody sIsThg) (defScope sIsThg) .none kV3 dc3 pm3 an3 cd3 ct3), sl3⟩)
    (c3 : PySem.W.codeIn K cd3 "is_thing" = true)
    (k3 : PySem.W.keepIn K (.ref f3) = true)
    (a4 : PySem.W.nsIn K mainGlobals "is_pair" = some (some (.ref f4)))
    (l4 : K.lookup f4 = some ⟨oc4, od4, .func (PySem.W.fnOf "is_pair" "is_pair" (defArgs sIsPair) (defBody sIsPair) (defScope sIsPair) .none kV4 dc4 pm4 an4 cd4 ct4), sl4⟩)
    (c4 : PySem.W.codeIn K cd4 "is_pair" = true)
    (k4 : PySem.W.keepIn K (.ref f4) = true)
    (a5 : PySem.W.nsIn K mainGlobals "are_pairs" = some (some (.ref f5)))
    (l5 : K.lookup f5 = some ⟨oc5, od5, .func (PySem.W.fnOf "are_pairs" "are_pairs" (defArgs sArePairs) (defBody sArePairs) (defScope sArePairs) .none kV5 dc5 pm5 an5 cd5 ct5), sl5⟩)
    (c5 : PySem.W.codeIn K cd5 "are_pairs" = true)
    (k5 : PySem.W.keepIn K (.ref f5) = true)
    (a6 : PySem.W.nsIn K mainGlobals "are_arrows" = some (some (.ref f6)))
    (l6 : K.lookup f6 = some ⟨oc6, od6, .func (PySem.W.fnOf "are_arrows" "are_arrows" (defArgs sAreArr) (defBody sAreArr) (defScope sAreArr) .none kV6 dc6 pm6 an6 cd6 ct6), sl6⟩)
    (c6 : PySem.W.codeIn K cd6 "are_arrows" = true)
    (k6 : PySem.W.keepIn K (.ref f6) = true)
    (a7 : PySem.W.nsIn K mainGlobals "are_ties" = some (some (.ref f7)))
    (l7 : K.lookup f7 = some ⟨oc7, od7, .func (PySem.W.fnOf "are_ties" "are_ties" (defArgs sAreTies) (defBody sAreTies) (defScope sAreTies) .none kV7 dc7 pm7 an7 cd7 ct7), sl7⟩)
    (c7 : PySem.W.codeIn K cd7 "are_ties" = true)
    (k7 : PySem.W.keepIn K (.ref f7) = true)
    (a8 : PySem.W.nsIn K mainGlobals "are_things" = some (some (.ref f8)))
    (l8 : K.lookup f8 = some ⟨oc8, od8, .func (PySem.W.fnOf "are_things" "are_things" (defArgs sAreThings) (defBody sAreThings) (defScope sAreThings) .none kV8 dc8 pm8 an8 cd8 ct8), sl8⟩)
    (c8 : PySem.W.codeIn K cd8 "are_things" = true)
    (k8 : PySem.W.keepIn K (.ref f8) = true)
    (a9 : PySem.W.nsIn K mainGlobals "turned" = some (some (.ref f9)))
    (l9 : K.lookup f9 = some ⟨oc9, od9, .func (PySem.W.fnOf "turned" "turned" (defArgs sTurned) (defBody sTurned) (defScope sTurned) .none kV9 dc9 pm9 an9 cd9 ct9), sl9⟩)
    (c9 : PySem.W.codeIn K cd9 "turned" = true)
    (k9 : PySem.W.keepIn K (.ref f9) = true)
    (a10 : PySem.W.nsIn K mainGlobals "both_ways" = some (some (.ref f10)))
    (l10 : K.lookup f10 = some ⟨oc10, od10, .func (PySem.W.fnOf "both_ways" "both_ways" (defArgs sBothWays) (defBody sBothWays) (defScope sBothWays) .none kV10 dc10 pm10 an10 cd10 ct10), sl10⟩)
    (c10 : PySem.W.codeIn K cd10 "both_ways" = true)
    (k10 : PySem.W.keepIn K (.ref f10) = true)
    (a11 : PySem.W.nsIn K mainGlobals "within" = some (some (.ref f11)))
    (l11 : K.lookup f11 = some ⟨oc11, od11, .func (PySem.W.fnOf "within" "within" (defArgs sWithin) (defBody sWithin) (defScope sWithin) .none kV11 dc11 pm11 an11 cd11 ct11), sl11⟩)
    (c11 : PySem.W.codeIn K cd11 "within" = true)
    (k11 : PySem.W.keepIn K (.ref f11) = true)
    (a12 : PySem.W.nsIn K mainGlobals "order_of" = some (some (.ref f12)))
    (l12 : K.lookup f12 = some ⟨oc12, od12, .func (PySem.W.fnOf "order_of" "order_of" (defArgs sOrdOf) (defBody sOrdOf) (defScope sOrdOf) .none kV12 dc12 pm12 an12 cd12 ct12), sl12⟩)
    (c12 : PySem.W.codeIn K cd12 "order_of" = true)
    (k12 : PySem.W.keepIn K (.ref f12) = true)
    (a13 : PySem.W.nsIn K mainGlobals "reached" = some (some (.ref f13)))
    (l13 : K.lookup f13 = some ⟨oc13, od13, .func (PySem.W.fnOf "reached" "reached" (defArgs sReached) (defBody sReached) (defScope sReached) .none kV13 dc13 pm13 an13 cd13 ct13), sl13⟩)
    (c13 : PySem.W.codeIn K cd13 "reached" = true)
    (k13 : PySem.W.keepIn K (.ref f13) = true)
    (a14 : PySem.W.nsIn K mainGlobals "is_size" = some (some (.ref f14)))
    (l14 : K.lookup f14 = some ⟨oc14, od14, .func (PySem.W.fnOf "is_size" "is_size" (defArgs sIsSize) (defBody sIsSize) (defScope sIsSize) .none kV14 dc14 pm14 an14 cd14 ct14), sl14⟩)
    (c14 : PySem.W.codeIn K cd14 "is_size" = true)
    (k14 : PySem.W.keepIn K (.ref f14) = true)
    (a15 : PySem.W.nsIn K mainGlobals "check_size" = some (some (.ref f15)))
    (l15 : K.lookup f15 = some ⟨oc15, od15, .func (PySem.W.fnOf "check_size" "check_size" (defArgs sChkSize) (defBody sChkSize) (defScope sChkSize) .none kV15 dc15 pm15 an15 cd15 ct15), sl15⟩)
    (c15 : PySem.W.codeIn K cd15 "check_size" = true)
    (k15 : PySem.W.keepIn K (.ref f15) = true)
    (a16 : PySem.W.nsIn K mainGlobals "check_plan" = some (some (.ref f16)))
    (l16 : K.lookup f16 = some ⟨oc16, od16, .func (PySem.W.fnOf "check_plan" "check_plan" (defArgs sChkPlan) (defBody sChkPlan) (defScope sChkPlan) .none kV16 dc16 pm16 an16 cd16 ct16), sl16⟩)
    (c16 : PySem.W.codeIn K cd16 "check_plan" = true)
    (k16 : PySem.W.keepIn K (.ref f16) = true)
    (a17 : PySem.W.nsIn K mainGlobals "is_rising" = some (some (.ref f17)))
    (l17 : K.lookup f17 = some ⟨oc17, od17, .func (PySem.W.fnOf "is_rising" "is_rising" (defArgs sIsRising) (defBody sIsRising) (defScope sIsRising) .none kV17 dc17 pm17 an17 cd17 ct17), sl17⟩)
    (c17 : PySem.W.codeIn K cd17 "is_rising" = true)
    (k17 : PySem.W.keepIn K (.ref f17) = true)
    (a18 : PySem.W.nsIn K mainGlobals "is_lot_of" = some (some (.ref f18)))
    (l18 : K.lookup f18 = some ⟨oc18, od18, .func (PySem.W.fnOf "is_lot_of" "is_lot_of" (defArgs sIsLotOf) (defBody sIsLotOf) (defScope sIsLotOf) .none kV18 dc18 pm18 an18 cd18 ct18), sl18⟩)
    (c18 : PySem.W.codeIn K cd18 "is_lot_of" = true)
    (k18 : PySem.W.keepIn K (.ref f18) = true)
    (a19 : PySem.W.nsIn K mainGlobals "check_lot" = some (some (.ref f19)))
    (l19 : K.lookup f19 = some ⟨oc19, od19, .func (PySem.W.fnOf "check_lot" "check_lot" (defArgs sChkLot) (defBody sChkLot) (defScope sChkLot) .none kV19 dc19 pm19 an19 cd19 ct19), sl19⟩)
    (c19 : PySem.W.codeIn K cd19 "check_lot" = true)
    (k19 : PySem.W.keepIn K (.ref f19) = true)
    (a20 : PySem.W.nsIn K mainGlobals "head" = some (some (.ref f20)))
    (l20 : K.lookup f20 = some ⟨oc20, od20, .func (PySem.W.fnOf "head" "head" (defArgs sHead) (defBody sHead) (defScope sHead) .none kV20 dc20 pm20 an20 cd20 ct20), sl20⟩)
    (c20 : PySem.W.codeIn K cd20 "head" = true)
    (k20 : PySem.W.keepIn K (.ref f20) = true)
    (a21 : PySem.W.nsIn K mainGlobals "hangs" = some (some (.ref f21)))
    (l21 : K.lookup f21 = some ⟨oc21, od21, .func (PySem.W.fnOf "hangs" "hangs" (defArgs sHangs) (defBody sHangs) (defScope sHangs) .none kV21 dc21 pm21 an21 cd21 ct21), sl21⟩)
    (c21 : PySem.W.codeIn K cd21 "hangs" = true)
    (k21 : PySem.W.keepIn K (.ref f21) = true)
    (a22 : PySem.W.nsIn K mainGlobals "is_barred" = some (some (.ref f22)))
    (l22 : K.lookup f22 = some ⟨oc22, od22, .func (PySem.W.fnOf "is_barred" "is_barred" (defArgs sIsBarred) (defBody sIsBarred) (defScope sIsBarred) .none kV22 dc22 pm22 an22 cd22 ct22), sl22⟩)
    (c22 : PySem.W.codeIn K cd22 "is_barred" = true)
    (k22 : PySem.W.keepIn K (.ref f22) = true)
    (a23 : PySem.W.nsIn K mainGlobals "_law_pot" = some (some (.ref f23)))
    (l23 : K.lookup f23 = some ⟨oc23, od23, .func (PySem.W.fnOf "_law_pot" "_law_pot" (defArgs sPot) (defBody sPot) (defScope sPot) .none kV23 dc23 pm23 an23 cd23 ct23), sl23⟩)
    (c23 : PySem.W.codeIn K cd23 "_law_pot" = true)
    (k23 : PySem.W.keepIn K (.ref f23) = true)
    (a24 : PySem.W.nsIn K mainGlobals "_law_draw" = some (some (.ref f24)))
    (l24 : K.lookup f24 = some ⟨oc24, od24, .func (PySem.W.fnOf "_law_draw" "_law_draw" (defArgs sDraw) (defBody sDraw) (defScope sDraw) .none kV24 dc24 pm24 an24 cd24 ct24), sl24⟩)
    (c24 : PySem.W.codeIn K cd24 "_law_draw" = true)
    (k24 : PySem.W.keepIn K (.ref f24) = true)
    (a25 : PySem.W.nsIn K mainGlobals "_law_pick" = some (some (.ref f25)))
    (l25 : K.lookup f25 = some ⟨oc25, od25, .func (PySem.W.fnOf "_law_pick" "_law_pick" (defArgs sPick) (defBody sPick) (defScope sPick) .none kV25 dc25 pm25 an25 cd25 ct25), sl25⟩)
    (c25 : PySem.W.codeIn K cd25 "_law_pick" = true)
    (k25 : PySem.W.keepIn K (.ref f25) = true)
    (a26 : PySem.W.nsIn K mainGlobals "_law_leaders" = some (some (.ref f26)))
    (l26 : K.lookup f26 = some ⟨oc26, od26, .func (PySem.W.fnOf "_law_leaders" "_law_leaders" (defArgs sLeaders) (defBody sLeaders) (defScope sLeaders) .none kV26 dc26 pm26 an26 cd26 ct26), sl26⟩)
    (c26 : PySem.W.codeIn K cd26 "_law_leaders" = true)
    (k26 : PySem.W.keepIn K (.ref f26) = true)
    (a27 : PySem.W.nsIn K mainGlobals "_law_heads" = some (some (.ref f27)))
    (l27 : K.lookup f27 = some ⟨oc27, od27, .func (PySem.W.fnOf "_law_heads" "_law_heads" (defArgs sHeads) (defBody sHeads) (defScope sHeads) .none kV27 dc27 pm27 an27 cd27 ct27), sl27⟩)
    (c27 : PySem.W.codeIn K cd27 "_law_heads" = true)
    (k27 : PySem.W.keepIn K (.ref f27) = true)
    (a28 : PySem.W.nsIn K mainGlobals "_law_hung" = some (some (.ref f28)))
    (l28 : K.lookup f28 = some ⟨oc28, od28, .func (PySem.W.fnOf "_law_hung" "_law_hung" (defArgs sHung) (defBody sHung) (defScope sHung) .none kV28 dc28 pm28 an28 cd28 ct28), sl28⟩)
    (c28 : PySem.W.codeIn K cd28 "_law_hung" = true)
    (k28 : PySem.W.keepIn K (.ref f28) = true)
    (a29 : PySem.W.nsIn K mainGlobals "_law_hangs" = some (some (.ref f29)))
    (l29 : K.lookup f29 = some ⟨oc29, od29, .func (PySem.W.fnOf "_law_hangs" "_law_hangs" (defArgs sLHangs) (defBody sLHangs) (defScope sLHangs) .none kV29 dc29 pm29 an29 cd29 ct29), sl29⟩)
    (c29 : PySem.W.codeIn K cd29 "_law_hangs" = true)
    (k29 : PySem.W.keepIn K (.ref f29) = true)
    (a30 : PySem.W.nsIn K mainGlobals "_law_lots" = some (some (.ref f30)))
    (l30 : K.lookup f30 = some ⟨oc30, od30, .func (PySem.W.fnOf "_law_lots" "_law_lots" (defArgs sLots) (defBody sLots) (defScope sLots) .none kV30 dc30 pm30 an30 cd30 ct30), sl30⟩)
    (c30 : PySem.W.codeIn K cd30 "_law_lots" = true)
    (k30 : PySem.W.keepIn K (.ref f30) = true)
    (a31 : PySem.W.nsIn K mainGlobals "_law_is_bar" = some (some (.ref f31)))
    (l31 : K.lookup f31 = some ⟨oc31, od31, .func (PySem.W.fnOf "_law_is_bar" "_law_is_bar" (defArgs sIsBar) (defBody sIsBar) (defScope sIsBar) .none kV31 dc31 pm31 an31 cd31 ct31), sl31⟩)
    (c31 : PySem.W.codeIn K cd31 "_law_is_bar" = true)
    (k31 : PySem.W.keepIn K (.ref f31) = true)
    (a32 : PySem.W.nsIn K mainGlobals "_law_order" = some (some (.ref f32)))
    (l32 : K.lookup f32 = some ⟨oc32, od32, .func (PySem.W.fnOf "_law_order" "_law_order" (defArgs sOrder) (defBody sOrder) (defScope sOrder) .none kV32 dc32 pm32 an32 cd32 ct32), sl32⟩)
    (c32 : PySem.W.codeIn K cd32 "_law_order" = true)
    (k32 : PySem.W.keepIn K (.ref f32) = true)
    (a33 : PySem.W.nsIn K mainGlobals "_law_world" = some (some (.ref f33)))
    (l33 : K.lookup f33 = some ⟨oc33, od33, .func (PySem.W.fnOf "_law_world" "_law_world" (defArgs sWorld) (defBody sWorld) (defScope sWorld) .none kV33 dc33 pm33 an33 cd33 ct33), sl33⟩)
    (c33 : PySem.W.codeIn K cd33 "_law_world" = true)
    (k33 : PySem.W.keepIn K (.ref f33) = true)
    (a34 : PySem.W.nsIn K mainGlobals "_law_made" = some (some (.ref f34)))
    (l34 : K.lookup f34 = some ⟨oc34, od34, .func (PySem.W.fnOf "_law_made" "_law_made" (defArgs sMade) (defBody sMade) (defScope sMade) .none kV34 dc34 pm34 an34 cd34 ct34), sl34⟩)
    (c34 : PySem.W.codeIn K cd34 "_law_made" = true)
    (k34 : PySem.W.keepIn K (.ref f34) = true)
    (a35 : PySem.W.nsIn K mainGlobals "_law_due" = some (some (.ref f35)))
    (l35 : K.lookup f35 = some ⟨oc35, od35, .func (PySem.W.fnOf "_law_due" "_law_due" (defArgs sDueV) (defBody sDueV) (defScope sDueV) .none kV35 dc35 pm35 an35 cd35 ct35), sl35⟩)
    (c35 : PySem.W.codeIn K cd35 "_law_due" = true)
    (k35 : PySem.W.keepIn K (.ref f35) = true)
    (a36 : PySem.W.nsIn K mainGlobals "_law_values" = some (some (.ref f36)))
    (l36 : K.lookup f36 = some ⟨oc36, od36, .func (PySem.W.fnOf "_law_values" "_law_values" (defArgs sValuesV) (defBody sValuesV) (defScope sValuesV) .none kV36 dc36 pm36 an36 cd36 ct36), sl36⟩)
    (c36 : PySem.W.codeIn K cd36 "_law_values" = true)
    (k36 : PySem.W.keepIn K (.ref f36) = true)
    (a37 : PySem.W.nsIn K mainGlobals "_law_right" = some (some (.ref f37)))
    (l37 : K.lookup f37 = some ⟨oc37, od37, .func (PySem.W.fnOf "_law_right" "_law_right" (defArgs sRight) (defBody sRight) (defScope sRight) .none kV37 dc37 pm37 an37 cd37 ct37), sl37⟩)
    (c37 : PySem.W.codeIn K cd37 "_law_right" = true)
    (k37 : PySem.W.keepIn K (.ref f37) = true)
    (a38 : PySem.W.nsIn K mainGlobals "law" = some (some (.ref f38)))
    (l38 : K.lookup f38 = some ⟨oc38, od38, .func (PySem.W.fnOf "law" "law" (defArgs sLaw) (defBody sLaw) (defScope sLaw) .none kV38 dc38 pm38 an38 cd38 ct38), sl38⟩)
    (c38 : PySem.W.codeIn K cd38 "law" = true)
    (k38 : PySem.W.keepIn K (.ref f38) = true)
    (a39 : PySem.W.findIn K (.ref C) "__init__" = some (some (.ref f39)))
    (i39 : PySem.W.isFn K (.ref f39) = true)
    (l39 : K.lookup f39 = some ⟨oc39, od39, .func (PySem.W.fnOf "__init__" "Plan.__init__" (defArgs sInit) (defBody sInit) (defScope sInit) .none kV39 dc39 pm39 an39 cd39 ct39), sl39⟩)
    (c39 : PySem.W.codeIn K cd39 "Plan.__init__" = true)
    (k39 : PySem.W.keepIn K (.ref f39) = true)
    (a40 : PySem.W.findIn K (.ref C) "arrows" = some (some (.ref f40)))
    (i40 : PySem.W.isFn K (.ref f40) = true)
    (l40 : K.lookup f40 = some ⟨oc40, od40, .func (PySem.W.fnOf "arrows" "Plan.arrows" (defArgs sArrows) (defBody sArrows) (defScope sArrows) .none kV40 dc40 pm40 an40 cd40 ct40), sl40⟩)
    (c40 : PySem.W.codeIn K cd40 "Plan.arrows" = true)
    (k40 : PySem.W.keepIn K (.ref f40) = true)
    (a41 : PySem.W.findIn K (.ref C) "ties" = some (some (.ref f41)))
    (i41 : PySem.W.isFn K (.ref f41) = true)
    (l41 : K.lookup f41 = some ⟨oc41, od41, .func (PySem.W.fnOf "ties" "Plan.ties" (defArgs sTies) (defBody sTies) (defScope sTies) .none kV41 dc41 pm41 an41 cd41 ct41), sl41⟩)
    (c41 : PySem.W.codeIn K cd41 "Plan.ties" = true)
    (k41 : PySem.W.keepIn K (.ref f41) = true)
    (pa : PySem.W.findIn K (.ref C) "width" = some (some (.ref pW)))
    (pg : PySem.W.specialIn K (.ref pW) "__get__" = some (some (.builtin "property.__get__")))
    (pt : PySem.W.takesIn K (.ref pW) = some true)
    (pr : PySem.W.recIn K pW "property" = some (.ref f42 :: rest))
    (l42 : K.lookup f42 = some ⟨oc42, od42, .func (PySem.W.fnOf "width" "Plan.width" (defArgs sWidth) (defBody sWidth) (defScope sWidth) .none kV42 dc42 pm42 an42 cd42 ct42), sl42⟩)
    (c42 : PySem.W.codeIn K cd42 "Plan.width" = true)
    (k42 : PySem.W.keepIn K (.ref f42) = true)
    (q1 : PySem.W.plainGet K C Str.empty = true)
    (q2 : PySem.W.hasDictIn K C = true)
    (q3 : PySem.W.plainOver K C = true)
    (q4 : PySem.W.findIn K (.ref C) "__setattr__" = some (some (.builtin "object.__setattr__")))
    (q5 : PySem.W.makesIn K C = true)
    (q6 : PySem.W.keepIn K (.ref C) = true)
    (n1 : PySem.W.findIn K (.ref C) "_size" = some none)
    (n2 : PySem.W.findIn K (.ref C) "_arrows" = some none)
    (n3 : PySem.W.findIn K (.ref C) "_ties" = some none)
    (w1 : PySem.W.findIn K (.ref C) "__class__" = some (some (.builtin "object.__class__")))
    (w2 : PySem.W.specialIn K (.builtin "object.__class__") "__get__" = some (some (.builtin "getset_descriptor.__get__")))
    (w3 : PySem.W.takesIn K (.builtin "object.__class__") = some true)
    (w4 : PySem.W.mroIn K C (.type "object") = some true)
    (m1 : PySem.W.nsIn K mainGlobals "MOST_THINGS" = some (some (.int 6 tkM)))
    (z_isinstance : PySem.W.nsIn K mainGlobals "isinstance" = some none)
    (z_int : PySem.W.nsIn K mainGlobals "int" = some none)
    (z_bool : PySem.W.nsIn K mainGlobals "bool" = some none)
    (z_list : PySem.W.nsIn K mainGlobals "list" = some none)
    (z_tuple : PySem.W.nsIn K mainGlobals "tuple" = some none)
    (z_len : PySem.W.nsIn K mainGlobals "len" = some none)
    (z_all : PySem.W.nsIn K mainGlobals "all" = some none)
    (z_any : PySem.W.nsIn K mainGlobals "any" = some none)
    (z_set : PySem.W.nsIn K mainGlobals "set" = some none)
    (z_range : PySem.W.nsIn K mainGlobals "range" = some none)
    (z_sorted : PySem.W.nsIn K mainGlobals "sorted" = some none)
    (z_sum : PySem.W.nsIn K mainGlobals "sum" = some none)
    (z_abs : PySem.W.nsIn K mainGlobals "abs" = some none)
    (z_max : PySem.W.nsIn K mainGlobals "max" = some none)
    (z_min : PySem.W.nsIn K mainGlobals "min" = some none)
    (z_divmod : PySem.W.nsIn K mainGlobals "divmod" = some none)
    (z_repr : PySem.W.nsIn K mainGlobals "repr" = some none)
    (z_enumerate : PySem.W.nsIn K mainGlobals "enumerate" = some none)
    (z_zip : PySem.W.nsIn K mainGlobals "zip" = some none) :
    ∃ fd : FuncData, (∀ (s : Shared) (v : Value), BindsTo s fd ⟨[v], []⟩ [("_law_script", v)]) ∧ ∀ base : Heap, K.In base → base.Ns mainGlobals mg → FnG P w K mg base 11 fa fd ["_law_script"] (spLaw K) := by
  have e := hfa.symm.trans (PySem.W.mg_of X G a38)
  cases e
  have B : Bl mg := ⟨PySem.W.mg_none_of X G z_isinstance, PySem.W.mg_none_of X G z_int, PySem.W.mg_none_of X G z_bool, PySem.W.mg_none_of X G z_list, PySem.W.mg_none_of X G z_tuple, PySem.W.mg_none_of X G z_len, PySem.W.mg_none_of X G z_all, PySem.W.mg_none_of X G z_any, PySem.W.mg_none_of X G z_set, PySem.W.mg_none_of X G z_range, PySem.W.mg_none_of X G z_sorted, PySem.W.mg_none_of X G z_sum, PySem.W.mg_none_of X G z_abs, PySem.W.mg_none_of X G z_max, PySem.W.mg_none_of X G z_min, PySem.W.mg_none_of X G z_divmod, PySem.W.mg_none_of X G z_repr, PySem.W.mg_none_of X G z_enumerate, PySem.W.mg_none_of X G z_zip⟩
  have F0 := fun_mk (st := sIsInt) l0 c0 k0
  have D0 : Df K mg "is_integer" sIsInt ["value"] f0 _ := ⟨F0, PySem.W.mg_of X G a0, F0.binds (ps := ["value"]) fun _ _ _ _ _ _ us hl => match us, hl with | [_], _ => rfl⟩
  have F1 := fun_mk (st := sIsCnt) l1 c1 k1
  have D1 : Df K mg "is_count" sIsCnt ["value"] f1 _ := ⟨F1, PySem.W.mg_of X G a1, F1.binds (ps := ["value"]) fun _ _ _ _ _ _ us hl => match us, hl with | [_], _ => rfl⟩
  have F2 := fun_mk (st := sIsLst) l2 c2 k2
  have D2 : Df K mg "is_list" sIsLst ["value"] f2 _ := ⟨F2, PySem.W.mg_of X G a2, F2.binds (ps := ["value"]) fun _ _ _ _ _ _ us hl => match us, hl with | [_], _ => rfl⟩
  have F3 := fun_mk (st := sIsThg) l3 c3 k3
  have D3 : Df K mg "is_thing" sIsThg ["size", "value"] f3 _ := ⟨F3, PySem.W.mg_of X G a3, F3.binds (ps := ["size", "value"]) fun _ _ _ _ _ _ us hl => match us, hl with | [_, _], _ => rfl⟩
  have F4 := fun_mk (st := sIsPair) l4 c4 k4
  have D4 : Df K mg "is_pair" sIsPair ["size", "value"] f4 _ := ⟨F4, PySem.W.mg_of X G a4, F4.binds (ps := ["size", "value"]) fun _ _ _ _ _ _ us hl => match us, hl with | [_, _], _ => rfl⟩
  have F5 := fun_mk (st := sArePairs) l5 c5 k5
  have D5 : Df K mg "are_pairs" sArePairs ["size", "value"] f5 _ := ⟨F5, PySem.W.mg_of X G a5, F5.binds (ps := ["size", "value"]) fun _ _ _ _ _ _ us hl => match us, hl with | [_, _], _ => rfl⟩
  have F6 := fun_mk (st := sAreArr) l6 c6 k6
  have D6 : Df K mg "are_arrows" sAreArr ["size", "value"] f6 _ := ⟨F6, PySem.W.mg_of X G a6, F6.binds (ps := ["size", "value"]) fun _ _ _ _ _ _ us hl => match us, hl with | [_, _], _ => rfl⟩
  have F7 := fun_mk (st := sAreTies) l7 c7 k7
  have D7 : Df K mg "are_ties" sAreTies ["size", "value"] f7 _ := ⟨F7, PySem.W.mg_of X G a7, F7.binds (ps := ["size", "value"]) fun _ _ _ _ _ _ us hl => match us, hl with | [_, _], _ => rfl⟩
  have F8 := fun_mk (st := sAreThings) l8 c8 k8
  have D8 : Df K mg "are_things" sAreThings ["size", "value"] f8 _ := ⟨F8, PySem.W.mg_of X G a8, F8.binds (ps := ["size", "value"]) fun _ _ _ _ _ _ us hl => match us, hl with | [_, _], _ => rfl⟩
  have F9 := fun_mk (st := sTurned) l9 c9 k9
  have D9 : Df K mg "turned" sTurned ["pairs"] f9 _ := ⟨F9, PySem.W.mg_of X G a9, F9.binds (ps := ["pairs"]) fun _ _ _ _ _ _ us hl => match us, hl with | [_], _ => rfl⟩
  have F10 := fun_mk (st := sBothWays) l10 c10 k10
  have D10 : Df K mg "both_ways" sBothWays ["ties"] f10 _ := ⟨F10, PySem.W.mg_of X G a10, F10.binds (ps := ["ties"]) fun _ _ _ _ _ _ us hl => match us, hl with | [_], _ => rfl⟩
  have F11 := fun_mk (st := sWithin) l11 c11 k11
  have D11 : Df K mg "within" sWithin ["pairs", "things"] f11 _ := ⟨F11, PySem.W.mg_of X G a11, F11.binds (ps := ["pairs", "things"]) fun _ _ _ _ _ _ us hl => match us, hl with | [_, _], _ => rfl⟩
  have F12 := fun_mk (st := sOrdOf) l12 c12 k12
  have D12 : Df K mg "order_of" sOrdOf ["size", "arrows"] f12 _ := ⟨F12, PySem.W.mg_of X G a12, F12.binds (ps := ["size", "arrows"]) fun _ _ _ _ _ _ us hl => match us, hl with | [_, _], _ => rfl⟩
  have F13 := fun_mk (st := sReached) l13 c13 k13
  have D13 : Df K mg "reached" sReached ["pairs", "start"] f13 _ := ⟨F13, PySem.W.mg_of X G a13, F13.binds (ps := ["pairs", "start"]) fun _ _ _ _ _ _ us hl => match us, hl with | [_, _], _ => rfl⟩
  have F14 := fun_mk (st := sIsSize) l14 c14 k14
  have D14 : Df K mg "is_size" sIsSize ["value"] f14 _ := ⟨F14, PySem.W.mg_of X G a14, F14.binds (ps := ["value"]) fun _ _ _ _ _ _ us hl => match us, hl with | [_], _ => rfl⟩
  have F15 := fun_mk (st := sChkSize) l15 c15 k15
  have D15 : Df K mg "check_size" sChkSize ["size"] f15 _ := ⟨F15, PySem.W.mg_of X G a15, F15.binds (ps := ["size"]) fun _ _ _ _ _ _ us hl => match us, hl with | [_], _ => rfl⟩
  have F16 := fun_mk (st := sChkPlan) l16 c16 k16
  have D16 : Df K mg "check_plan" sChkPlan ["plan"] f16 _ := ⟨F16, PySem.W.mg_of X G a16, F16.binds (ps := ["plan"]) fun _ _ _ _ _ _ us hl => match us, hl with | [_], _ => rfl⟩
  have F17 := fun_mk (st := sIsRising) l17 c17 k17
  have D17 : Df K mg "is_rising" sIsRising ["size", "value"] f17 _ := ⟨F17, PySem.W.mg_of X G a17, F17.binds (ps := ["size", "value"]) fun _ _ _ _ _ _ us hl => match us, hl with | [_, _], _ => rfl⟩
  have F18 := fun_mk (st := sIsLotOf) l18 c18 k18
  have D18 : Df K mg "is_lot_of" sIsLotOf ["plan", "value"] f18 _ := ⟨F18, PySem.W.mg_of X G a18, F18.binds (ps := ["plan", "value"]) fun _ _ _ _ _ _ us hl => match us, hl with | [_, _], _ => rfl⟩
  have F19 := fun_mk (st := sChkLot) l19 c19 k19
  have D19 : Df K mg "check_lot" sChkLot ["plan", "lot"] f19 _ := ⟨F19, PySem.W.mg_of X G a19, F19.binds (ps := ["plan", "lot"]) fun _ _ _ _ _ _ us hl => match us, hl with | [_, _], _ => rfl⟩
  have F20 := fun_mk (st := sHead) l20 c20 k20
  have D20 : Df K mg "head" sHead ["plan", "lot"] f20 _ := ⟨F20, PySem.W.mg_of X G a20, F20.binds (ps := ["plan", "lot"]) fun _ _ _ _ _ _ us hl => match us, hl with | [_, _], _ => rfl⟩
  have F21 := fun_mk (st := sHangs) l21 c21 k21
  have D21 : Df K mg "hangs" sHangs ["plan", "lot"] f21 _ := ⟨F21, PySem.W.mg_of X G a21, F21.binds (ps := ["plan", "lot"]) fun _ _ _ _ _ _ us hl => match us, hl with | [_, _], _ => rfl⟩
  have F22 := fun_mk (st := sIsBarred) l22 c22 k22
  have D22 : Df K mg "is_barred" sIsBarred ["plan", "value"] f22 _ := ⟨F22, PySem.W.mg_of X G a22, F22.binds (ps := ["plan", "value"]) fun _ _ _ _ _ _ us hl => match us, hl with | [_, _], _ => rfl⟩
  have F23 := fun_mk (st := sPot) l23 c23 k23
  have D23 : Df K mg "_law_pot" sPot ["_law_script", "_law_k"] f23 _ := ⟨F23, PySem.W.mg_of X G a23, F23.binds (ps := ["_law_script", "_law_k"]) fun _ _ _ _ _ _ us hl => match us, hl with | [_, _], _ => rfl⟩
  have F24 := fun_mk (st := sDraw) l24 c24 k24
  have D24 : Df K mg "_law_draw" sDraw ["_law_pot_here", "_law_size"] f24 _ := ⟨F24, PySem.W.mg_of X G a24, F24.binds (ps := ["_law_pot_here", "_law_size"]) fun _ _ _ _ _ _ us hl => match us, hl with | [_, _], _ => rfl⟩
  have F25 := fun_mk (st := sPick) l25 c25 k25
  have D25 : Df K mg "_law_pick" sPick ["_law_pot_here", "_law_some"] f25 _ := ⟨F25, PySem.W.mg_of X G a25, F25.binds (ps := ["_law_pot_here", "_law_some"]) fun _ _ _ _ _ _ us hl => match us, hl with | [_, _], _ => rfl⟩
  have F26 := fun_mk (st := sLeaders) l26 c26 k26
  have D26 : Df K mg "_law_leaders" sLeaders ["_law_arrows", "_law_lot", "_law_thing"] f26 _ := ⟨F26, PySem.W.mg_of X G a26, F26.binds (ps := ["_law_arrows", "_law_lot", "_law_thing"]) fun _ _ _ _ _ _ us hl => match us, hl with | [_, _, _], _ => rfl⟩
  have F27 := fun_mk (st := sHeads) l27 c27 k27
  have D27 : Df K mg "_law_heads" sHeads ["_law_arrows", "_law_lot"] f27 _ := ⟨F27, PySem.W.mg_of X G a27, F27.binds (ps := ["_law_arrows", "_law_lot"]) fun _ _ _ _ _ _ us hl => match us, hl with | [_, _], _ => rfl⟩
  have F28 := fun_mk (st := sHung) l28 c28 k28
  have D28 : Df K mg "_law_hung" sHung ["_law_ties", "_law_lot", "_law_thing"] f28 _ := ⟨F28, PySem.W.mg_of X G a28, F28.binds (ps := ["_law_ties", "_law_lot", "_law_thing"]) fun _ _ _ _ _ _ us hl => match us, hl with | [_, _, _], _ => rfl⟩
  have F29 := fun_mk (st := sLHangs) l29 c29 k29
  have D29 : Df K mg "_law_hangs" sLHangs ["_law_ties", "_law_lot"] f29 _ := ⟨F29, PySem.W.mg_of X G a29, F29.binds (ps := ["_law_ties", "_law_lot"]) fun _ _ _ _ _ _ us hl => match us, hl with | [_, _], _ => rfl⟩
  have F30 := fun_mk (st := sLots) l30 c30 k30
  have D30 : Df K mg "_law_lots" sLots ["_law_many"] f30 _ := ⟨F30, PySem.W.mg_of X G a30, F30.binds (ps := ["_law_many"]) fun _ _ _ _ _ _ us hl => match us, hl with | [_], _ => rfl⟩
  have F31 := fun_mk (st := sIsBar) l31 c31 k31
  have D31 : Df K mg "_law_is_bar" sIsBar ["_law_world_here", "_law_lot"] f31 _ := ⟨F31, PySem.W.mg_of X G a31, F31.binds (ps := ["_law_world_here", "_law_lot"]) fun _ _ _ _ _ _ us hl => match us, hl with | [_, _], _ => rfl⟩
  have F32 := fun_mk (st := sOrder) l32 c32 k32
  have D32 : Df K mg "_law_order" sOrder ["_law_pot_here", "_law_many"] f32 _ := ⟨F32, PySem.W.mg_of X G a32, F32.binds (ps := ["_law_pot_here", "_law_many"]) fun _ _ _ _ _ _ us hl => match us, hl with | [_, _], _ => rfl⟩
  have F33 := fun_mk (st := sWorld) l33 c33 k33
  have D33 : Df K mg "_law_world" sWorld ["_law_pot_here", "_law_many"] f33 _ := ⟨F33, PySem.W.mg_of X G a33, F33.binds (ps := ["_law_pot_here", "_law_many"]) fun _ _ _ _ _ _ us hl => match us, hl with | [_, _], _ => rfl⟩
  have F34 := fun_mk (st := sMade) l34 c34 k34
  have D34 : Df K mg "_law_made" sMade ["_law_pot_here", "_law_world_here"] f34 _ := ⟨F34, PySem.W.mg_of X G a34, F34.binds (ps := ["_law_pot_here", "_law_world_here"]) fun _ _ _ _ _ _ us hl => match us, hl with | [_, _], _ => rfl⟩
  have F35 := fun_mk (st := sDueV) l35 c35 k35
  have D35 : Df K mg "_law_due" sDueV ["_law_world_here", "_law_value"] f35 _ := ⟨F35, PySem.W.mg_of X G a35, F35.binds (ps := ["_law_world_here", "_law_value"]) fun _ _ _ _ _ _ us hl => match us, hl with | [_, _], _ => rfl⟩
  have F36 := fun_mk (st := sValuesV) l36 c36 k36
  have D36 : Df K mg "_law_values" sValuesV ["_law_pot_here", "_law_world_here"] f36 _ := ⟨F36, PySem.W.mg_of X G a36, F36.binds (ps := ["_law_pot_here", "_law_world_here"]) fun _ _ _ _ _ _ us hl => match us, hl with | [_, _], _ => rfl⟩
  have F37 := fun_mk (st := sRight) l37 c37 k37
  have D37 : Df K mg "_law_right" sRight ["_law_pot_here"] f37 _ := ⟨F37, PySem.W.mg_of X G a37, F37.binds (ps := ["_law_pot_here"]) fun _ _ _ _ _ _ us hl => match us, hl with | [_], _ => rfl⟩
  have F38 := fun_mk (st := sLaw) l38 c38 k38
  have F39 := fun_mk (st := sInit) l39 c39 k39
  have b39 := F39.binds (ps := ["self", "size", "arrows", "ties"]) fun _ _ _ _ _ _ us hl => match us, hl with | [_, _, _, _], _ => rfl
  have F40 := fun_mk (st := sArrows) l40 c40 k40
  have b40 := F40.binds (ps := ["self"]) fun _ _ _ _ _ _ us hl => match us, hl with | [_], _ => rfl
  have F41 := fun_mk (st := sTies) l41 c41 k41
  have b41 := F41.binds (ps := ["self"]) fun _ _ _ _ _ _ us hl => match us, hl with | [_], _ => rfl
  have F42 := fun_mk (st := sWidth) l42 c42 k42
  have b42 := F42.binds (ps := ["self"]) fun _ _ _ _ _ _ us hl => match us, hl with | [_], _ => rfl
  have T : PlC K mg C := ⟨⟨q1, q2, q3, q4⟩, n1, n2, n3, PySem.W.mg_of X G aC⟩
  have I : C8.InsC K C := ⟨T.cl, w1, w2, w3, w4, kit_self⟩
  have M : PlM K mg C pW f42 f40 f41 _ _ _ := ⟨T, I, ⟨pa, pg, pt, ⟨_, pr⟩⟩, F42, b42, ⟨a40, i40, k40⟩, F40, b40, ⟨a41, i41, k41⟩, F41, b41⟩
  refine ⟨PySem.W.fnOf "law" "law" (defArgs sLaw) (defBody sLaw) (defScope sLaw) .none kV38 dc38 pm38 an38 cd38 ct38, fun s v => .of_eq rfl, fun base _ _ => ?_⟩
  have G5 : FnOk P w K mg base CX0 5 f5 _ ["size", "value"] (spArePairs K) := ok_arePairs D5.F D0 D1 D3 D4 D2 B
  have GS : FnOk P w K mg base CX0 3 f14 _ ["value"] spIsSize := ok_isSize D14.F D0 D1 (PySem.W.mg_of X G m1) B
  have GC : FnOk P w K mg base CX0 4 f15 _ ["size"] spChkSize := ok_chkSize D15.F D14 GS
  have GA : FnOk P w K mg base CX0 6 f6 _ ["size", "value"] (spAreArr K) := ok_areArr D6.F D5 G5 D12 B
  have GT : FnOk P w K mg base CX0 6 f7 _ ["size", "value"] (spAreTies K) := ok_areTies D7.F D5 G5 B
  have GI := ok_init (P := P) (w := w) (base := base) F39 T D15 GC D6 GA D7 GT B
  have MI : Mk K C f39 := ⟨q5, a39, i39, q6⟩
  have GTh : FnOk P w K mg base CX0 4 f8 _ ["size", "value"] (spAreThings K) := ok_areThings D8.F D0 D1 D3 D2 B
  have GLo : FnOk P w K mg base CX0 6 f18 _ ["plan", "value"] (spIsLotOf K C) := ok_isLotOf D18.F M D17 (ok_isRising D17.F D8 GTh B) B
  have GCl : FnOk P w K mg base CX0 7 f19 _ ["plan", "lot"] (spChkLot K C) := ok_chkLot D19.F D18 GLo
  have GHd : FnOk P w K mg base CX0 8 f20 _ ["plan", "lot"] (spHead K C) := ok_head D20.F M D16 D19 GCl D11 D9 D13 B
  have GHg : FnOk P w K mg base CX0 8 f21 _ ["plan", "lot"] (spHangs K C) := ok_hangs D21.F M D16 D19 GCl D11 D9 D10 D13 B
  have GIs : FnOk P w K mg base CX0 9 f22 _ ["plan", "value"] (spIsBarred K C) := ok_isBarred D22.F M D16 D18 GLo D20 GHd D21 GHg B
  have GIb : FnOk P w K mg base CX0 3 f31 _ ["_law_world_here", "_law_lot"] (spIsBar K) := ok_isBar D31.F D29 (ok_lhangs D29.F D28 B) D27 (ok_heads D27.F D26 B) B
  have Z : Calls42 P w K mg base C :=
    { draw := ⟨_, _, D24, ok_draw D24.F B⟩,
       world := ⟨_, _, D33, ok_world D33.F D24 D32 B⟩,
       made := ⟨_, _, D34, ok_made D34.F D24 MI T.mgC b39 GI B⟩,
       values := ⟨_, _, D36, ok_valuesV D36.F D24 D30 D25 B⟩,
       due := ⟨_, _, D35, ok_dueV D35.F D31 GIb B⟩,
       barred := ⟨_, _, D22, GIs, fun s ws h => match ws, h with | [_, _], _ => .of_eq rfl⟩ }
  exact ok_law F38 D23 D37 (ok_right D37.F Z B) B
theorem walk {l : PySem.W.OpenLaw} {q : Program} {loose : List Str} {XP : (Str → Option Value) → Heap → Prop} {YP : World → Heap → Prop} {d : DefRec} {K : Params → PySem.W.Frag} (hn : l.most = some 63) (hdf : d.params.defaults = [])
    (hY : ∀ (w : World) (h : Heap), YP w h → (K w.params).In h)
    (F : ∀ (w : World) (mg : Str → Option Value) (fa : Addr) (h : Heap), (K w.params).In h → h.Ns mainGlobals mg → mg d.name = some (.ref fa) →
      ∃ fd : FuncData, (∀ (s : Shared) (u : Value), BindsTo s fd ⟨[u], []⟩ [("_law_script", u)]) ∧ ∀ base : Heap, (K w.params).In base → base.Ns mainGlobals mg → FnG l.prog w (K w.params) mg base 11 fa fd ["_law_script"] (spLaw (K w.params))) :
    PySem.W.WalkO q loose XP YP l.row.toRowW d [] (fun f vs => PySem.call f vs) :=
  walkG (n := 63) (k := 11) (x := "_law_script") (sp := fun w => spLaw (K w.params)) hn (by decide) hdf ⟨rfl, by decide, by decide⟩ hY F (fun _ _ a ns _ _ _ hS => ⟨a, ns, rfl, hS, fun _ => rfl⟩)
end Tk
open PySem PySem.W PyProof.Rows
set_option maxRecDepth 100000 in
set_option maxHeartbeats 0 in
theorem PySem.Challenge.cw_toldpushes_k42_any_value_as_barred_lot_holds : PySem.Challenge.rw_toldpushes_k42_any_value_as_barred_lot.Holds := by
  w_on; o_law; k_head; (case hw => w_witness2)
  k_fill
  refine Tk.walk (l := PySem.Challenge.rw_toldpushes_k42_any_value_as_barred_lot) rfl rfl (fun w h Y => PySem.W.kIn_of Y) ?F
  case F =>
    intro w mg fa h KX G hmg
    refine' Tk.all_mk KX G hmg ?aC ?a0 ?l0 ?c0 ?k0 ?a1 ?l1 ?c1 ?k1 ?a2 ?l2 ?c2 ?k2 ?a3 ?l3 ?c3 ?k3 ?a4 ?l4 ?c4 ?k4 ?a5 ?l5 ?c5 ?k5 ?a6 ?l6 ?c6 ?k6 ?a7 ?l7 ?c7 ?k7 ?a8 ?l8 ?c8 ?k8 ?a9 ?l9 ?c9 ?k9 ?a10 ?l10 ?c10 ?k10 ?a11 ?l11 ?c11 ?k11 ?a12 ?l12 ?c12 ?k12 ?a13 ?l13 ?c13 ?k13 ?a14 ?l14 ?c14 ?k14 ?a15 ?l15 ?c15 ?k15 ?a16 ?l16 ?c16 ?k16 ?a17 ?l17 ?c17 ?k17 ?a18 ?l18 ?c18 ?k18 ?a19 ?l19 ?c19 ?k19 ?a20 ?l20 ?c20 ?k20 ?a21 ?l21 ?c21 ?k21 ?a22 ?l22 ?c22 ?k22 ?a23 ?l23 ?c23 ?k23 ?a24 ?l24 ?c24 ?k24 ?a25 ?l25 ?c25 ?k25 ?a26 ?l26 ?c26 ?k26 ?a27 ?l27 ?c27 ?k27 ?a28 ?l28 ?c28 ?k28 ?a29 ?l29 ?c29 ?k29 ?a30 ?l30 ?c30 ?k30 ?a31 ?l31 ?c31 ?k31 ?a32 ?l32 ?c32 ?k32 ?a33 ?l33 ?c33 ?k33 ?a34 ?l34 ?c34 ?k34 ?a35 ?l35 ?c35 ?k35 ?a36 ?l36 ?c36 ?k36 ?a37 ?l37 ?c37 ?k37 ?a38 ?l38 ?c38 ?k38 ?a39 ?i39 ?l39 ?c39 ?k39 ?a40 ?i40 ?l40 ?c40 ?k40 ?a41 ?i41 ?l41 ?c41 ?k41 ?pa ?pg ?pt ?pr ?l42 ?c42 ?k42 ?q1 ?q2 ?q3 ?q4 ?q5 ?q6 ?n1 ?n2 ?n3 ?w1 ?w2 ?w3 ?w4 ?m1 ?z_isinstance ?z_int ?z_bool ?z_list ?z_tuple ?z_len ?z_all ?z_any ?z_set ?z_range ?z_sorted ?z_sum ?z_abs ?z_max ?z_min ?z_divmod ?z_repr ?z_enumerate ?z_zip
    (case aC => k_is)
    (case a0 => k_is)
    (case l0 => k_is)
    (case c0 => k_is)
    (case k0 => k_is)
    (case a1 => k_is)
    (case l1 => k_is)
    (case c1 => k_is)
    (case k1 => k_is)
    (case a2 => k_is)
    (case l2 => k_is)
    (case c2 => k_is)
    (case k2 => k_is)
    (case a3 => k_is)
    (case l3 => k_is)
    (case c3 => k_is)
    (case k3 => k_is)
    (case a4 => k_is)
    (case l4 => k_is)
    (case c4 => k_is)
    (case k4 => k_is)
    (case a5 => k_is)
    (case l5 => k_is)
    (case c5 => k_is)
    (case k5 => k_is)
    (case a6 => k_is)
    (case l6 => k_is)
    (case c6 => k_is)
    (case k6 => k_is)
    (case a7 => k_is)
    (case l7 => k_is)
    (case c7 => k_is)
    (case k7 => k_is)
    (case a8 => k_is)
    (case l8 => k_is)
    (case c8 => k_is)
    (case k8 => k_is)
    (case a9 => k_is)
    (case l9 => k_is)
    (case c9 => k_is)
    (case k9 => k_is)
    (case a10 => k_is)
    (case l10 => k_is)
    (case c10 => k_is)
    (case k10 => k_is)
    (case a11 => k_is)
    (case l11 => k_is)
    (case c11 => k_is)
    (case k11 => k_is)
    (case a12 => k_is)
    (case l12 => k_is)
    (case c12 => k_is)
    (case k12 => k_is)
    (case a13 => k_is)
    (case l13 => k_is)
    (case c13 => k_is)
    (case k13 => k_is)
    (case a14 => k_is)
    (case l14 => k_is)
    (case c14 => k_is)
    (case k14 => k_is)
    (case a15 => k_is)
    (case l15 => k_is)
    (case c15 => k_is)
    (case k15 => k_is)
    (case a16 => k_is)
    (case l16 => k_is)
    (case c16 => k_is)
    (case k16 => k_is)
    (case a17 => k_is)
    (case l17 => k_is)
    (case c17 => k_is)
    (case k17 => k_is)
    (case a18 => k_is)
    (case l18 => k_is)
    (case c18 => k_is)
    (case k18 => k_is)
    (case a19 => k_is)
    (case l19 => k_is)
    (case c19 => k_is)
    (case k19 => k_is)
    (case a20 => k_is)
    (case l20 => k_is)
    (case c20 => k_is)
    (case k20 => k_is)
    (case a21 => k_is)
    (case l21 => k_is)
    (case c21 => k_is)
    (case k21 => k_is)
    (case a22 => k_is)
    (case l22 => k_is)
    (case c22 => k_is)
    (case k22 => k_is)
    (case a23 => k_is)
    (case l23 => k_is)
    (case c23 => k_is)
    (case k23 => k_is)
    (case a24 => k_is)
    (case l24 => k_is)
    (case c24 => k_is)
    (case k24 => k_is)
    (case a25 => k_is)
    (case l25 => k_is)
    (case c25 => k_is)
    (case k25 => k_is)
    (case a26 => k_is)
    (case l26 => k_is)
    (case c26 => k_is)
    (case k26 => k_is)
    (case a27 => k_is)
    (case l27 => k_is)
    (case c27 => k_is)
    (case k27 => k_is)
    (case a28 => k_is)
    (case l28 => k_is)
    (case c28 => k_is)
    (case k28 => k_is)
    (case a29 => k_is)
    (case l29 => k_is)
    (case c29 => k_is)
    (case k29 => k_is)
    (case a30 => k_is)
    (case l30 => k_is)
    (case c30 => k_is)
    (case k30 => k_is)
    (case a31 => k_is)
    (case l31 => k_is)
    (case c31 => k_is)
    (case k31 => k_is)
    (case a32 => k_is)
    (case l32 => k_is)
    (case c32 => k_is)
    (case k32 => k_is)
    (case a33 => k_is)
    (case l33 => k_is)
    (case c33 => k_is)
    (case k33 => k_is)
    (case a34 => k_is)
    (case l34 => k_is)
    (case c34 => k_is)
    (case k34 => k_is)
    (case a35 => k_is)
    (case l35 => k_is)
    (case c35 => k_is)
    (case k35 => k_is)
    (case a36 => k_is)
    (case l36 => k_is)
    (case c36 => k_is)
    (case k36 => k_is)
    (case a37 => k_is)
    (case l37 => k_is)
    (case c37 => k_is)
    (case k37 => k_is)
    (case a38 => k_is)
    (case l38 => k_is)
    (case c38 => k_is)
    (case k38 => k_is)
    (case a39 => k_is)
    (case i39 => k_is)
    (case l39 => k_is)
    (case c39 => k_is)
    (case k39 => k_is)
    (case a40 => k_is)
    (case i40 => k_is)
    (case l40 => k_is)
    (case c40 => k_is)
    (case k40 => k_is)
    (case a41 => k_is)
    (case i41 => k_is)
    (case l41 => k_is)
    (case c41 => k_is)
    (case k41 => k_is)
    (case pa => k_is)
    (case pg => k_is)
    (case pt => k_is)
    (case pr => k_is)
    (case l42 => k_is)
    (case c42 => k_is)
    (case k42 => k_is)
    (case q1 => k_is)
    (case q2 => k_is)
    (case q3 => k_is)
    (case q4 => k_is)
    (case q5 => k_is)
    (case q6 => k_is)
    (case n1 => k_is)
    (case n2 => k_is)
    (case n3 => k_is)
    (case w1 => k_is)
    (case w2 => k_is)
    (case w3 => k_is)
    (case w4 => k_is)
    (case m1 => k_is)
    (case z_isinstance => k_is)
    (case z_int => k_is)
    (case z_bool => k_is)
    (case z_list => k_is)
    (case z_tuple => k_is)
    (case z_len => k_is)
    (case z_all => k_is)
    (case z_any => k_is)
    (case z_set => k_is)
    (case z_range => k_is)
    (case z_sorted => k_is)
    (case z_sum => k_is)
    (case z_abs => k_is)
    (case z_max => k_is)
    (case z_min => k_is)
    (case z_divmod => k_is)
    (case z_repr => k_is)
    (case z_enumerate => k_is)
    (case z_zip => k_is)
