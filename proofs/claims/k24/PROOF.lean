import PyProof.Rows.All
import Wide.All
import OpenK.AllK
import Wide.FinOn
import HandS.ForMost
import HandS.EndBits
import HandS.TupSets
import HandS.Deep
import HandS.Defaults
import HandS.Property
import HandS.IsInst
import HandS.Style
import HandS.Wide
import HandS.WideBits
import HandS.Flow
import PyProof.ReprRoads
import HandS.Conv
import HandS.SetFor
import HandS.SortRule
import HandS.Codes
import HandS.SortInts
import HandS.Star
import HandS.Walk
import HandS.Iter
import KE.SortData
import PyProof.ReprLen
import OpenK.KMore
import PySem.Challenge.RW_toldpushes_k24_whole_parts_by_ties
set_option Elab.async false
set_option linter.all false
set_option maxRecDepth 100000
set_option maxHeartbeats 8000000
namespace Tk
open PySem PySem.Spec PyProof.Rows L2

/-! ## promises of defs that want to know that no repr is running -/
structure FnG (P : Program) (w : World) (K : PySem.W.Frag) (mg : Str → Option Value) (base : Heap) (k : Nat) (f : Addr) (fd : FuncData) (ps : List Str) (sp : Sp) : Prop where
  len : ∀ vs H Q E, sp vs H Q E → vs.length = ps.length
  run : ∀ (A : Around) (outer : List Env) (s : Shared) (H : Hp) (args : Args) (us : List Value) (vs : List V) (Q : VK) (E : XK),
    A.guards = some [] → Room k A → Env0 P w K mg base A outer s H → BindsTo s fd args (ps.zip us) → Vals vs us → sp vs H Q E →
    codeAny (model P w) A (.call (.ref f) args) (CR CX0 outer P w H s Q E) s

theorem deeper_guards (A : Around) (env : Env) : (A.deeper env).guards = A.guards := rfl

section
variable {P : Program} {w : World} {K : PySem.W.Frag} {mg : Str → Option Value} {base : Heap}
/-- a def by its body, the body being told that no repr runs -/
theorem okG {nm qual : Str} {st : Stmt} {f : Addr} {fd : FuncData} {N ps : List Str} {k : Nat} {sp : Sp} (F : Fun K nm qual st f fd) (S : FnScope N ps (defScope st)) (len : ∀ vs H Q E, sp vs H Q E → vs.length = ps.length)
    (body : ∀ (cdv : Value) (A : Around) (outer : List Env) (s : Shared) (H : Hp) (vs : List V) (Q : VK) (E : XK), A.guards = some [] →
      Room k (A.deeper (envOfC qual (defScope st) s.heap.objs.size f cdv)) → sp vs H Q E →
      ∃ t, PSs (cxOf CX0 P w K mg base N qual (defScope st) f cdv A outer s H E).nox (defBody st) t ∧ t { nx := fun _ H' => Q .non H', rt := Q } (start N vs) H) :
    FnG P w K mg base (k + 1) f fd ps sp := by
  obtain ⟨oc, od, kV, doc, pm, an, cdv, ct, osl, rfl, lk, hcd⟩ := F.ex
  constructor
  · exact len
  intro A outer s H args us vs Q E hgd room en bnd vals hsp
  have nvs := len _ _ _ _ hsp
  have inK : K.In s.heap := en.mod.kin.keeps (fun b o z => (en.bs b o z).1)
  have noLim : s.heap.NoLimit := en.mod.nolimit.keeps (fun b o z => (en.bs b o z).1)
  have places : ∀ y ∈ ps.zip us, (defScope st).names.lookup y.1 = some .local ∨ ((defScope st).names.lookup y.1 = some .cell ∧ ((cellsFrom (s.heap.objs.size + 1) (defScope st).names []).lookup y.1).isSome = true) := by
    rintro ⟨n, v⟩ hy
    cases S.par n (List.of_mem_zip hy).1 with
    | inl l => exact Or.inl l
    | inr c => exact Or.inr ⟨c, PySem.W.cellsFrom_some _ _ _ (Or.inl c)⟩
  apply codeAny_call_function room.depth (inK _ _ lk) rfl S.co S.gen rfl (PySem.W.codeRec_of inK hcd)
  apply bnd
  apply wpAny_newFunctionEnv_cells S.kind places
  intro ev hev st1 ic
  subst hev
  refine ⟨noLim.keeps ic.toInCall.keep, ?_⟩
  apply codeAny_func
  obtain ⟨t, ht0, hq⟩ := body cdv A outer s H vs Q E hgd (room.deeper _) hsp
  have ht := ht0.nox
  have inv0 : Inv (cxOf CX0 P w K mg base N qual (defScope st) f cdv A outer s H E) [] (start N vs) H st1 := inv_start S room.hd en nvs vals ic
  have done : ∀ {σ' : L2.St} {H' : Hp} {v : V} {u : Value} {s' : Shared}, Inv (cxOf CX0 P w K mg base N qual (defScope st) f cdv A outer s H E) [] σ' H' s' → RelV v u → Q v H' → CE outer P w H s Q u s' := by
    intro σ' H' v u s' J rv q
    exact ⟨v, H', J.os, J.bare, J.base, J.hok, rv, q⟩
  refine wpAny_mono (ht.run [] st1 (start N vs) H _ inv0 hq) ?_ (fun e s' z => z)
  intro fl s' z
  cases fl with
  | next => obtain ⟨σ', H', J, q⟩ := z; exact done (v := V.non) (u := Value.none) J rfl q
  | ret u => obtain ⟨v, σ', H', J, rv, q⟩ := z; exact done J rv q
  | brk => obtain ⟨a1, a2, a3, q⟩ := z; exact q.elim
  | cont => obtain ⟨a1, a2, a3, q⟩ := z; exact q.elim
end

section
variable {X : Cx} {k : Nat} {f : Addr} {fd : FuncData} {ps : List Str} {sp : Sp} {x : Str} {p pos : Pos} {e : Expr} {es : List Expr} {t : TA}
theorem pe_callG (F : FnG X.prog X.w X.K X.mg X.base k f fd ps sp) (hgd : X.A.guards = some []) (hr : Room k X.A) (hg : Gl X x) (hm : X.mg x = some (.ref f)) (hk : PySem.W.keepIn X.K (.ref f) = true) (hb : Binds X.K fd ps [])
    (ha : PA X (e :: es) t) (hdb : (x == ("__debug__" : Str)) = false := by decide) (he : starEach (e :: es) X.env = (false, eval e X.env) :: starEach es X.env := by rfl) (hpl : (backTo pos (starEach es X.env)).any (·.1) = false := by rfl) :
    PE X (.Call (.Name x p) (e :: es) [] pos) (tCall sp [] E0 t) := by
  constructor
  intro pins s σ H Q I h
  apply wpAny_Call_Name_kw
  apply ld_glob I hg hm _ hdb
  refine PySem.W.callWith_K (h₀ := X.base) I.ok.mod.kin hk (thn (ha.run pos pins s σ H _ I h) ?_) he hpl
  rintro us s1 ⟨vs, H1, I1, rv, q⟩
  refine ⟨I1.kIn, ?_⟩
  rw [List.append_nil] at q
  have ln : us.length = ps.length := by rw [← rv.length]; exact F.len _ _ _ _ q
  have bd := hb s1 us I1.kIn (by rw [List.append_nil]; exact ln)
  rw [List.append_nil] at bd
  apply wpAny_call
  refine codeAny_mono (F.run X.A X.stack s1 H1 ⟨us, []⟩ us vs Q E0 hgd hr I1.env0 bd rv q) ?_
  intro r s' hq
  cases r with
  | error er => exact hq.elim
  | ok fl =>
    cases fl with
    | ret u => exact I1.after hq
    | next => exact hq.elim
    | brk => exact hq.elim
    | cont => exact hq.elim

/-- repr of data of any depth -/
def rRepD (K : PySem.W.Frag) : List V → Hp → VK → Prop := fun xs H Q => ∃ (a : Addr) (d : PyData), xs = [.ref a] ∧ Dp K H (.ref a) d ∧ d.showable = true ∧ d.hasDict = false ∧ d.depth ≤ 50 ∧ d.shown.length ≤ sizeLine ∧ Q (.str d.shown) H
theorem call_reprD (hgd : X.A.guards = some []) (hu : X.A.units + 64 < cLine) : CallR X (.builtin "repr") (rRepD X.K) := by
  intro pins s σ H xs us Q I r h
  obtain ⟨a, d, rfl, hd, hs, hn, hdp, hz, q⟩ := h
  obtain rfl : us = [Value.ref a] := Vals.ref1 r
  obtain ⟨as, rd⟩ := Dp.reads I d (.ref a) (.ref a) hd rfl
  refine repr_of_reads' (h₀ := s.heap) rd hs (PyData.noDict_hsm hn) hgd (by omega) (fun b o z => z) (fun h' u tk keep => ?_) hz
  have J : Inv X pins σ H { s with heap := h' } := I.kept keep
  exact ⟨.str d.shown, H, J.tok _, ⟨u, rfl⟩, q⟩
end

/-! ## the end: the law's def as the outermost call, no repr around it -/
theorem law_callG {P : Program} {w : World} {K : PySem.W.Frag} {mg mb : Str → Option Value} {k : Nat} {fa a : Addr} {fd : FuncData} {x : Str} {sp : Sp} {s1 : Shared} {vs : List Value} {ns : List Int}
    (inK : K.In s1.heap) (gn : s1.heap.Ns mainGlobals mg) (bn : s1.heap.Ns builtinsNs mb) (bb : ∀ y : Str, y ≠ "__name__" → mb y = bootBuiltins y) (noLim : s1.heap.NoLimit) (noGen : s1.gens = #[])
    (obj : s1.heap.get? a = some { cls := .type "list", data := .seq vs.toArray }) (hints : IntsAre vs ns) (short : ns.length ≤ sizeLine) (room : Room k callerA)
    (F : ∀ base : Heap, K.In base → base.Ns mainGlobals mg → FnG P w K mg base k fa fd [x] sp) (bind : ∀ (s : Shared) (u : Value), BindsTo s fd ⟨[u], []⟩ [(x, u)])
    (keeps : ∀ H : Hp, Only H → SqL K H a (ns.map V.int) → sp [.ref a] H (fun v _ => v = .bl true) fun _ _ _ => False) :
    codeAny (model P w) callerA (.call (.ref fa) ⟨[.ref a], []⟩) (fun r s' => r = .ok (.ret (.bool true)) ∧ OldK s1.heap s'.heap ∧ s'.os = s1.os ∧ AllBare s'.gens) s1 := by
  have rel := vals_ints hints
  have many := hints.length
  have main : ∀ H : Hp, Only H → SqL K H a (ns.map V.int) → HOk P w H s1.heap → (∀ b, H b ≠ none → b = a) → (H a ≠ none → K.lookup a = none) →
      codeAny (model P w) callerA (.call (.ref fa) ⟨[.ref a], []⟩) (fun r s' => r = .ok (.ret (.bool true)) ∧ OldK s1.heap s'.heap ∧ s'.os = s1.os ∧ AllBare s'.gens) s1 := by
    intro H only isl hok just noK
    have ofB : ∀ {b : Addr} {o : Obj}, s1.heap.get? b = some o → H b = none → (hidT s1.heap H).get? b = some o := fun z n => hidT_get z n
    have notA : ∀ {b : Addr} {o : Obj} {es : Array DictEntry} {ep : Nat}, s1.heap.get? b = some o → o.data = .dict es ep → H b = none := by
      intro b o es ep z d
      cases hb : H b with
      | none => rfl
      | some u =>
        obtain rfl : b = a := just b (by rw [hb]; simp)
        rw [obj] at z
        cases z
        exact absurd (show Data.seq vs.toArray _ = Data.dict es ep from d) (by intro y; cases y)
    have nsB : ∀ {b : Addr} {m : Str → Option Value}, s1.heap.Ns b m → (hidT s1.heap H).Ns b m := by
      rintro b m ⟨o, es, ep, z, d, r⟩
      exact ⟨o, es, ep, ofB z (notA z d), d, r⟩
    have inKb : K.In (hidT s1.heap H) := by
      intro b o z
      refine ofB (inK b o z) ?_
      cases hb : H b with
      | none => rfl
      | some u =>
        obtain rfl : b = a := just b (by rw [hb]; simp)
        rw [noK (by rw [hb]; simp)] at z
        cases z
    have md : Mod K mg (hidT s1.heap H) := by
      obtain ⟨mc, l1, l2⟩ := noLim
      exact ⟨inKb, nsB gn, ⟨mb, nsB bn, bb⟩, ⟨mc, nsB l1, l2⟩⟩
    have en : Env0 P w K mg (hidT s1.heap H) callerA [] s1 H := by
      refine ⟨rfl, md, fun b o z => of_hidT z, Nat.le_of_eq (hidT_size _ _), trivial, ?_, hok, .of_eq noGen⟩
      intro b hb
      exact absurd (show b ∈ ([] : List Addr) from hb) (by simp)
    refine codeAny_mono ((F _ inKb (nsB gn)).run callerA [] s1 H ⟨[.ref a], []⟩ [.ref a] [.ref a] _ _ rfl room en (bind s1 (.ref a)) (.cons rfl .nil) (keeps H only isl)) ?_
    intro r s' hr
    cases r with
    | error er => exact hr.elim
    | ok fl =>
      cases fl with
      | next => exact hr.elim
      | brk => exact hr.elim
      | cont => exact hr.elim
      | ret u =>
        obtain ⟨v, H', os, bare, un, hok', rv, q⟩ := hr
        obtain rfl : v = .bl true := q
        obtain rfl : u = Value.bool true := rv
        refine ⟨rfl, OldK.of_keep ?_, os, bare⟩
        intro b o z
        cases hb : H b with
        | none => exact un.keep b o z hb (fun y => absurd (show b ∈ ([] : List Addr) from y) (by simp)) (by simp)
        | some u =>
          rcases only b with n | ⟨ob, xs, y⟩
          · rw [hb] at n; cases n
          · obtain ⟨e1, _⟩ := hok b _ y
            obtain ⟨e2, _⟩ := hok' b _ (un.frzs b ob _ y)
            rw [z] at e1
            cases e1
            exact e2
  cases hk : K.lookup a with
  | some o =>
    have z := inK a o hk
    rw [obj] at z
    cases z
    exact main (fun _ => none) (fun _ => .inl rfl) (.inr ⟨_, vs.toArray, _, hk, rfl, rfl, rfl, by rw [List.size_toArray, many]; exact short, by simpa using rel⟩) (fun b u y => nomatch (show (none : Option HO) = some u from y)) (fun b y => absurd rfl y) (fun y => absurd rfl y)
  | none =>
    refine main (fun b => if b = a then some (.frz { cls := .type "list", data := .seq vs.toArray } (.lst (ns.map V.int))) else none) ?_ (.inl (.inr ⟨{ cls := .type "list", data := .seq vs.toArray }, if_pos rfl⟩)) ?_ ?_ (fun _ => hk)
    · intro b
      by_cases q : b = a
      · exact Or.inr ⟨_, _, if_pos q⟩
      · exact Or.inl (if_neg q)
    · intro b u y
      by_cases q : b = a
      · subst q
        have y1 := (if_pos rfl).symm.trans y
        cases y1
        exact ⟨obj, by rw [List.length_map]; exact short, vs, _, rel, obj⟩
      · have y1 := (if_neg q).symm.trans y
        cases y1
    · intro b y
      by_cases q : b = a
      · exact q
      · exact absurd (if_neg q) y

theorem walkG {l : PySem.W.OpenLaw} {n k : Nat} {q : Program} {loose : List Str} {XP : (Str → Option Value) → Heap → Prop} {YP : World → Heap → Prop} {d : DefRec} {K : Params → PySem.W.Frag} {sp : World → Sp} {x : Str}
    (hn : l.most = some n) (hn2 : n ≤ sizeLine) (hdf : d.params.defaults = []) (room : Room k callerA) (inK : ∀ (w : World) (h : Heap), YP w h → (K w.params).In h)
    (F : ∀ (w : World) (mg : Str → Option Value) (fa : Addr) (h : Heap), (K w.params).In h → h.Ns mainGlobals mg → mg d.name = some (.ref fa) →
      ∃ fd : FuncData, (∀ (s : Shared) (u : Value), BindsTo s fd ⟨[u], []⟩ [(x, u)]) ∧ ∀ base : Heap, (K w.params).In base → base.Ns mainGlobals mg → FnG l.prog w (K w.params) mg base k fa fd [x] (sp w))
    (keeps : ∀ (w : World) (H : Hp) (a : Addr) (ns : List Int), ns.length ≤ n → (∀ z ∈ ns, Builtin.Int.intBits z ≤ 1048576) → Only H → SqL (K w.params) H a (ns.map V.int) → sp w [.ref a] H (fun v _ => v = .bl true) fun _ _ _ => False) :
    PySem.W.WalkO q loose XP YP l.row.toRowW d [] (fun f vs => PySem.call f vs) := by
  refine Att.attach_callB hn hdf ?_
  intro w s0 s1 mg mb fa o pm cd doc a vs ns G Y ho hd hcd hmg hobj hints hlen hbits hg
  obtain ⟨fd, hb, hF⟩ := F w mg fa _ (inK w _ Y) G.T.g hmg
  exact law_callG (inK w _ Y) G.T.g G.T.b G.T.builtins G.T.nolimit hg hobj hints (Nat.le_trans hlen hn2) room hF hb (fun H hO hS => keeps w H a ns hlen hbits hO hS)
end Tk

namespace Tk
open PySem PySem.Spec PyProof.Rows L2

theorem same_rd {H H' : Hp} {a : Addr} {u : HO} (e : Same H H') (h : Rd H a u) : Rd H' a u := by
  rcases h with h | ⟨o, h⟩
  · exact Or.inl (e a _ h)
  · exact Or.inr ⟨o, e a _ h⟩
theorem same_l {K : PySem.W.Frag} {H H' : Hp} {a : Addr} {xs : List V} (e : Same H H') (h : SqL K H a xs) : SqL K H' a xs := by
  rcases h with h | h
  · exact Or.inl (same_rd e h)
  · exact Or.inr h
theorem same_t {K : PySem.W.Frag} {H H' : Hp} {a : Addr} {xs : List V} (e : Same H H') (h : SqT K H a xs) : SqT K H' a xs := by
  rcases h with h | h
  · exact Or.inl (same_rd e h)
  · exact Or.inr h
theorem same_new {H : Hp} {p : Addr} {o : HO} (h : H p = none) : Same H (upd H p o) := by
  intro a u e
  rw [upd_ne (ne_of_none e h)]
  exact e
/-- what is new in a later heap may change -/
theorem same_mut {H H' : Hp} {p : Addr} {o : HO} (e : Same H H') (h : H p = none) : Same H (upd H' p o) := by
  intro a u ha
  rw [upd_ne (ne_of_none ha h)]
  exact e a u ha
theorem sl_of {K : PySem.W.Frag} {H : Hp} {a : Addr} {xs : List V} (h : H a = some (.lst xs)) : SqL K H a xs := Or.inl (Or.inl h)
theorem st_of {K : PySem.W.Frag} {H : Hp} {a : Addr} {xs : List V} (h : H a = some (.tup xs)) : SqT K H a xs := Or.inl (Or.inl h)
theorem szle {n : Nat} (h : n ≤ 100000) : n ≤ sizeLine := Nat.le_trans h (by decide)
theorem szlt {n : Nat} (h : n < 100000) : n < sizeLine := Nat.lt_of_lt_of_le h (by decide)

mutual
theorem dp_same {K : PySem.W.Frag} {H H' : Hp} (e : Same H H') : ∀ (d : PyData) (v : V), Dp K H v d → Dp K H' v d
  | .none, _, h => by cases h; exact .non
  | .bool b, _, h => by cases h; exact .bl b
  | .int i, _, h => by cases h; exact .int i
  | .str x, _, h => by cases h; exact .str x
  | .list ds, _, h => by
    cases h with
    | lst h1 h2 => exact .lst (same_l e h1) (dps_same e ds _ h2)
  | .tuple ds, _, h => by
    cases h with
    | tup h1 h2 => exact .tup (same_t e h1) (dps_same e ds _ h2)
  | .dict _, _, h => by cases h
theorem dps_same {K : PySem.W.Frag} {H H' : Hp} (e : Same H H') : ∀ (ds : List PyData) (vs : List V), DpAll K H vs ds → DpAll K H' vs ds
  | [], _, h => by cases h; exact .nil
  | d :: ds, _, h => by
    cases h with
    | cons h1 h2 => exact .cons (dp_same e d _ h1) (dps_same e ds _ h2)
end
theorem dp_s {K : PySem.W.Frag} {H H' : Hp} {d : PyData} {v : V} (h : Dp K H v d) (e : Same H H') : Dp K H' v d := dp_same e d v h
theorem dps_s {K : PySem.W.Frag} {H H' : Hp} {ds : List PyData} {vs : List V} (h : DpAll K H vs ds) (e : Same H H') : DpAll K H' vs ds := dps_same e ds vs h
theorem dps_len {K : PySem.W.Frag} {H : Hp} : ∀ {ds : List PyData} {vs : List V}, DpAll K H vs ds → vs.length = ds.length
  | [], _, h => by cases h; rfl
  | d :: ds, _, h => by
    cases h with
    | cons h1 h2 => simp [dps_len h2]
theorem dps_at {K : PySem.W.Frag} {H : Hp} : ∀ {ds : List PyData} {vs : List V}, DpAll K H vs ds → ∀ (i : Nat) (x : V), vs[i]? = some x → ∃ d, ds[i]? = some d ∧ Dp K H x d
  | [], _, h, i, x, hx => by cases h; simp at hx
  | d :: ds, _, h, i, x, hx => by
    cases h with
    | cons h1 h2 =>
      cases i with
      | zero => simp at hx; subst hx; exact ⟨d, by simp, h1⟩
      | succ i => simp at hx; simpa using dps_at h2 i x hx
theorem dps_app {K : PySem.W.Frag} {H : Hp} : ∀ {ds es : List PyData} {vs ws : List V}, DpAll K H vs ds → DpAll K H ws es → DpAll K H (vs ++ ws) (ds ++ es)
  | [], _, _, _, h, h' => by cases h; exact h'
  | d :: ds, _, _, _, h, h' => by
    cases h with
    | cons h1 h2 => exact .cons h1 (dps_app h2 h')
theorem dps_ints {K : PySem.W.Frag} {H : Hp} : ∀ (ns : List Int), DpAll K H (ns.map V.int) (ns.map PyData.int)
  | [] => .nil
  | n :: ns => .cons (.int n) (dps_ints ns)
theorem ints_dps {K : PySem.W.Frag} {H : Hp} : ∀ {ns : List Int} {vs : List V}, DpAll K H vs (ns.map PyData.int) → vs = ns.map V.int
  | [], _, h => by cases h; rfl
  | n :: ns, _, h => by
    cases h with
    | cons h1 h2 => cases h1; rw [ints_dps h2]; rfl
theorem dps_bls {K : PySem.W.Frag} {H : Hp} : ∀ (bs : List Bool), DpAll K H (bs.map V.bl) (bs.map PyData.bool)
  | [] => .nil
  | n :: ns => .cons (.bl n) (dps_bls ns)

/-- a pair of ints, as data -/
def dP (p : Int × Int) : PyData := .tuple [.int p.1, .int p.2]
/-- v is a list of pairs -/
abbrev PL (K : PySem.W.Frag) (H : Hp) (a : Addr) (ps : List (Int × Int)) : Prop := ∃ xs, SqL K H a xs ∧ DpAll K H xs (ps.map dP)
/-- v is a list of ints -/
abbrev IL (K : PySem.W.Frag) (H : Hp) (a : Addr) (ns : List Int) : Prop := SqL K H a (ns.map V.int)
theorem pl_s {K : PySem.W.Frag} {H H' : Hp} {a : Addr} {ps : List (Int × Int)} (h : PL K H a ps) (e : Same H H') : PL K H' a ps :=
  let ⟨xs, h1, h2⟩ := h; ⟨xs, same_l e h1, dps_s h2 e⟩
theorem dP_inv {K : PySem.W.Frag} {H : Hp} {v : V} {p : Int × Int} (h : Dp K H v (dP p)) : ∃ t, v = .ref t ∧ SqT K H t [.int p.1, .int p.2] := by
  unfold dP at h
  cases h with
  | @tup a xs _ h1 h2 =>
    cases h2 with
    | cons a1 a2 =>
      cases a1
      cases a2 with
      | cons b1 b2 =>
        cases b1
        cases b2
        exact ⟨a, rfl, h1⟩
theorem dP_mk {K : PySem.W.Frag} {H : Hp} {t : Addr} {i j : Int} (h : SqT K H t [.int i, .int j]) : Dp K H (.ref t) (dP (i, j)) := .tup h (.cons (.int i) (.cons (.int j) .nil))
theorem pl_at {K : PySem.W.Frag} {H : Hp} {xs : List V} {ps : List (Int × Int)} (h : DpAll K H xs (ps.map dP)) {i : Nat} {x : V} (hx : xs[i]? = some x) :
    ∃ p t, ps[i]? = some p ∧ x = .ref t ∧ SqT K H t [.int p.1, .int p.2] := by
  obtain ⟨d, hd, hp⟩ := dps_at h i x hx
  rw [List.getElem?_map] at hd
  cases e : ps[i]? with
  | none => rw [e] at hd; cases hd
  | some p =>
    rw [e] at hd
    cases hd
    obtain ⟨t, rfl, ht⟩ := dP_inv hp
    exact ⟨p, t, rfl, rfl, ht⟩
theorem int_at {ns : List Int} {i : Nat} {x : V} (h : (ns.map V.int)[i]? = some x) : ∃ n, ns[i]? = some n ∧ x = .int n := by
  rw [List.getElem?_map] at h
  cases e : ns[i]? with
  | none => rw [e] at h; cases h
  | some n => rw [e] at h; cases h; exact ⟨n, rfl, rfl⟩
theorem lt_of_at {α : Type} {l : List α} {i : Nat} {x : α} (h : l[i]? = some x) : i < l.length := (List.getElem?_eq_some_iff.mp h).1
theorem take_at {α : Type} {l : List α} {i : Nat} {x : α} (h : l[i]? = some x) : l.take (i + 1) = l.take i ++ [x] := by
  rw [List.take_add_one, h]; rfl

/-- a comprehension's list behind one more item -/
theorem lc_put {H1 H4 : Hp} {D : Addr} {acc : List V} {y : V} {Pv : Hp → Prop} (h : H4 D = some (.lst acc)) (hl : acc.length < 100000) (q : Pv (upd H4 D (.lst (acc ++ [y])))) :
    ∃ acc', H4 D = some (.lst acc') ∧ acc'.length < sizeLine ∧ Pv (upd H4 D (.lst (acc' ++ [y]))) := ⟨acc, h, szlt hl, q⟩

theorem tyx_t {K : PySem.W.Frag} {H : Hp} {a : Addr} {xs : List V} (h : SqT K H a xs) : TyX K H (.ref a) (.type "tuple") := by
  rcases h with (h | ⟨o, h⟩) | ⟨o, its, n, h1, h2, _⟩
  · exact .base (.tup h)
  · exact .fTuple h
  · exact .kTuple h1 h2
theorem tyx_l {K : PySem.W.Frag} {H : Hp} {a : Addr} {xs : List V} (h : SqL K H a xs) : TyX K H (.ref a) (.type "list") := by
  rcases h with (h | ⟨o, h⟩) | ⟨o, its, n, h1, h2, _⟩
  · exact .base (.lst h)
  · exact .base (.frz h)
  · exact .kList h1 h2
theorem kit_lt {K : PySem.W.Frag} : PySem.W.kitAny K (.type "list") [.type "list", .type "tuple"] = some true := by
  refine kitAny_cons (b := true) (kit_ty (by decide +kernel)) (fun z => nomatch z) (fun _ => rfl)
/-- what stands of a comprehension over a heap H1 whose list D holds acc -/
def LcP (H1 : Hp) (D : Addr) (out : Nat → List V) (i : Nat) (H : Hp) : Prop := Same H1 H ∧ H D = some (.lst (out i))
theorem lcp_0 {H1 : Hp} {D : Addr} {out : Nat → List V} (hD : H1 D = none) (h0 : out 0 = []) : LcP H1 D out 0 (upd H1 D (.lst [])) := ⟨same_new hD, by rw [upd_same, h0]⟩
/-- one more item -/
theorem lcp_put {H1 H4 : Hp} {D : Addr} {out : Nat → List V} {i : Nat} {y : V} (hD : H1 D = none) (h : LcP H1 D out i H4) (ho : out (i + 1) = out i ++ [y]) (hl : (out i).length < 100000) :
    ∃ acc, H4 D = some (.lst acc) ∧ acc.length < sizeLine ∧ LcP H1 D out (i + 1) (upd H4 D (.lst (acc ++ [y]))) :=
  ⟨out i, h.2, szlt hl, same_mut h.1 hD, by rw [upd_same, ho]⟩
theorem lcp_no {H1 H4 : Hp} {D : Addr} {out : Nat → List V} {i : Nat} (h : LcP H1 D out i H4) (ho : out (i + 1) = out i) : LcP H1 D out (i + 1) H4 := ⟨h.1, by rw [h.2, ho]⟩
theorem lcp_s {H1 H2 H4 : Hp} {D : Addr} {out : Nat → List V} {i : Nat} (h : LcP H1 D out i H2) (e : Same H2 H4) : LcP H1 D out i H4 := ⟨h.1.trans e, e _ _ h.2⟩

section
variable {X : Cx}
/-- len of a set of tuples -/
theorem call_lenSetT : CallR X (.builtin "len") (fun xs H Q => ∃ a L, xs = [.ref a] ∧ H a = some (SetTO X.prog X.w a L) ∧ (∀ p ∈ L, SqT X.K H p.1 (p.2.map V.int)) ∧ ((L.map (·.2)).Nodup → Q (.int L.length) H)) := by
  intro pins s σ H xs us Q I r h
  obtain ⟨a, L, rfl, ha, ht, q⟩ := h
  rw [Vals.ref1 r]
  have R0 : SetT0 X.prog X.w s.heap a L := (I.hok a _ ha).1
  obtain ⟨es, ep, t, R⟩ := R0.full fun p hp => I.isT (ht p hp)
  obtain ⟨o, ho, hex, hd⟩ := R.ob
  have hs := R.size
  have hf := R.few
  refine call_len_set ho hex hd R.fits (by omega) ⟨.int L.length, H, (I.tok _), ⟨_, by rw [hs]⟩, q R.nd⟩

variable {k n : Nat} {f : Addr} {fd : FuncData} {ps ks : List Str} {sp : Sp} {x : Str} {p pos : Pos} {kws : List Keyword} {tk : TA} {g : List Value → List Value → List Value} {gV : List V → List V → List V} {CX : CXT} {E : XK}
end
end Tk

/-! plain mathematics: lists of pairs, orders, reaching -/
namespace Tk
theorem nodup_le {α : Type} [DecidableEq α] : ∀ {l m : List α}, l.Nodup → (∀ x ∈ l, x ∈ m) → l.length ≤ m.length
  | [], _, _, _ => Nat.zero_le _
  | x :: l, m, hn, hs => by
    have hx : x ∈ m := hs x (List.mem_cons_self ..)
    have hn' := List.nodup_cons.mp hn
    have h := nodup_le (l := l) (m := m.erase x) hn'.2 (fun y hy => by
      have hne : y ≠ x := fun e => hn'.1 (e ▸ hy)
      exact (List.mem_erase_of_ne hne).mpr (hs y (List.mem_cons_of_mem _ hy)))
    have hl := List.length_erase_of_mem hx
    have hp : 0 < m.length := List.length_pos_of_mem hx
    simp only [List.length_cons]
    omega
theorem nodup_eq {α : Type} [DecidableEq α] {l m : List α} (hl : l.Nodup) (hm : m.Nodup) (h : ∀ x, x ∈ l ↔ x ∈ m) : l.length = m.length :=
  Nat.le_antisymm (nodup_le hl fun x hx => (h x).mp hx) (nodup_le hm fun x hx => (h x).mpr hx)
/-- the things of a plan of this size -/
def things (n : Nat) : List Int := (List.range n).map Int.ofNat
theorem mem_things {n : Nat} {x : Int} : x ∈ things n ↔ 0 ≤ x ∧ x < n := by
  unfold things
  rw [List.mem_map]
  constructor
  · rintro ⟨k, hk, rfl⟩
    have := List.mem_range.mp hk
    exact ⟨by simp, by simpa using this⟩
  · rintro ⟨h0, h1⟩
    exact ⟨x.toNat, List.mem_range.mpr (by omega), by simp; omega⟩
theorem things_nodup (n : Nat) : (things n).Nodup := by
  unfold things
  show List.Pairwise _ _
  rw [List.pairwise_map]
  exact List.Pairwise.imp (fun h e => h (Int.ofNat.inj e)) (List.nodup_range (n := n))
theorem things_len (n : Nat) : (things n).length = n := by simp [things]

/-- along the list each arrow goes from an earlier to a later place -/
structure Topo (n : Nat) (ps : List (Int × Int)) (o : List Int) : Prop where
  nd : o.Nodup
  mem : ∀ x, x ∈ o ↔ x ∈ things n
  at_ : ∀ p ∈ ps, ∀ i j : Nat, o[i]? = some p.1 → o[j]? = some p.2 → i < j
/-- some numbering rises along the arrows -/
def Acy (ps : List (Int × Int)) : Prop := ∃ r : Int → Nat, ∀ p ∈ ps, r p.1 < r p.2
/-- an order on its way: o told, l left -/
structure OInv (n : Nat) (ps : List (Int × Int)) (o l : List Int) : Prop where
  no : o.Nodup
  nl : l.Nodup
  dj : ∀ x ∈ o, x ∉ l
  al : ∀ x, x ∈ things n ↔ x ∈ o ∨ x ∈ l
  st : ∀ p ∈ ps, p.2 ∈ o → p.1 ∈ o
  at_ : ∀ p ∈ ps, ∀ i j : Nat, o[i]? = some p.1 → o[j]? = some p.2 → i < j
theorem oinv_0 (n : Nat) (ps : List (Int × Int)) : OInv n ps [] (things n) :=
  ⟨List.nodup_nil, things_nodup n, (fun _ h => nomatch h), (fun x => by simp), (fun _ _ h => nomatch h), (fun _ _ i j h => by simp at h)⟩
theorem oinv_end {n : Nat} {ps : List (Int × Int)} {o : List Int} (h : OInv n ps o []) : Topo n ps o :=
  ⟨h.no, fun x => by rw [h.al x]; simp, h.at_⟩
/-- some thing left that nothing left pushes -/
theorem has_free {l : List Int} {ps : List (Int × Int)} (ha : Acy ps) (hl : l ≠ []) : ∃ x ∈ l, ∀ p ∈ ps, p.1 ∈ l → p.2 ≠ x := by
  obtain ⟨r, hr⟩ := ha
  have : ∀ (k : Nat) (x : Int), x ∈ l → r x ≤ k → ∃ y ∈ l, ∀ p ∈ ps, p.1 ∈ l → p.2 ≠ y := by
    intro k
    induction k with
    | zero =>
      intro x hx h0
      refine ⟨x, hx, fun p hp _ e => ?_⟩
      have := hr p hp
      rw [e] at this
      omega
    | succ k ih =>
      intro x hx h0
      by_cases c : ∃ p ∈ ps, p.1 ∈ l ∧ p.2 = x
      · obtain ⟨p, hp, h1, h2⟩ := c
        have := hr p hp
        rw [h2] at this
        exact ih p.1 h1 (by omega)
      · exact ⟨x, hx, fun p hp h1 h2 => c ⟨p, hp, h1, h2⟩⟩
  cases l with
  | nil => exact absurd rfl hl
  | cons x l => exact this (r x) x (List.mem_cons_self ..) (Nat.le_refl _)
/-- the ends of the arrows from what is left -/
def pushedL (ps : List (Int × Int)) (l : List Int) : List Int := (ps.filter fun p => decide (p.1 ∈ l)).map (·.2)
def freeL (ps : List (Int × Int)) (l : List Int) : List Int := l.filter fun x => !decide (x ∈ pushedL ps l)
theorem mem_pushedL {ps : List (Int × Int)} {l : List Int} {x : Int} : x ∈ pushedL ps l ↔ ∃ p ∈ ps, p.1 ∈ l ∧ p.2 = x := by
  unfold pushedL
  simp only [List.mem_map, List.mem_filter, decide_eq_true_eq]
  constructor
  · rintro ⟨p, ⟨h1, h2⟩, h3⟩; exact ⟨p, h1, h2, h3⟩
  · rintro ⟨p, h1, h2, h3⟩; exact ⟨p, ⟨h1, h2⟩, h3⟩
theorem mem_freeL {ps : List (Int × Int)} {l : List Int} {x : Int} : x ∈ freeL ps l ↔ x ∈ l ∧ ∀ p ∈ ps, p.1 ∈ l → p.2 ≠ x := by
  unfold freeL
  simp only [List.mem_filter, Bool.not_eq_true', decide_eq_false_iff_not, mem_pushedL]
  constructor
  · rintro ⟨h1, h2⟩; exact ⟨h1, fun p hp h3 h4 => h2 ⟨p, hp, h3, h4⟩⟩
  · rintro ⟨h1, h2⟩; exact ⟨h1, fun ⟨p, hp, h3, h4⟩ => h2 p hp h3 h4⟩
theorem freeL_ne {ps : List (Int × Int)} {l : List Int} (ha : Acy ps) (hl : l ≠ []) : freeL ps l ≠ [] := by
  obtain ⟨x, h1, h2⟩ := has_free ha hl
  intro e
  have : x ∈ freeL ps l := mem_freeL.mpr ⟨h1, h2⟩
  rw [e] at this
  exact nomatch this
theorem oinv_step {n : Nat} {ps : List (Int × Int)} {o l : List Int} {x : Int} (h : OInv n ps o l) (hr : ∀ p ∈ ps, p.1 ∈ things n) (hx : x ∈ freeL ps l) : OInv n ps (o ++ [x]) (l.erase x) := by
  obtain ⟨h1, h2⟩ := mem_freeL.mp hx
  have xo : x ∉ o := fun z => h.dj x z h1
  have starts : ∀ p ∈ ps, p.2 = x → p.1 ∈ o := fun p hp e => by
    rcases (h.al p.1).mp (hr p hp) with z | z
    · exact z
    · exact absurd e (h2 p hp z)
  refine ⟨?_, h.nl.erase x, ?_, ?_, ?_, ?_⟩
  · rw [List.nodup_append]
    refine ⟨h.no, by simp, ?_⟩
    intro a ha b hb e
    simp at hb
    subst hb
    subst e
    exact xo ha
  · intro y hy z
    rcases List.mem_append.mp hy with q | q
    · exact h.dj y q (List.mem_of_mem_erase z)
    · simp at q
      subst q
      exact (List.Nodup.not_mem_erase h.nl) z
  · intro y
    rw [h.al y]
    constructor
    · rintro (q | q)
      · exact .inl (List.mem_append_left _ q)
      · by_cases e : y = x
        · exact .inl (List.mem_append_right _ (by simp [e]))
        · exact .inr ((List.mem_erase_of_ne e).mpr q)
    · rintro (q | q)
      · rcases List.mem_append.mp q with q | q
        · exact .inl q
        · simp at q
          exact .inr (q ▸ h1)
      · exact .inr (List.mem_of_mem_erase q)
  · intro p hp q
    rcases List.mem_append.mp q with q | q
    · exact List.mem_append_left _ (h.st p hp q)
    · simp at q
      exact List.mem_append_left _ (starts p hp q)
  · intro p hp i j hi hj
    by_cases jl : j < o.length
    · rw [List.getElem?_append_left jl] at hj
      have hs : p.1 ∈ o := h.st p hp (List.mem_of_getElem? hj)
      by_cases il : i < o.length
      · rw [List.getElem?_append_left il] at hi
        exact h.at_ p hp i j hi hj
      · rw [List.getElem?_append_right (by omega)] at hi
        have : i - o.length = 0 := by
          cases e : i - o.length with
          | zero => rfl
          | succ k => rw [e] at hi; simp at hi
        rw [this] at hi
        simp at hi
        exact absurd (hi ▸ hs) xo
    · rw [List.getElem?_append_right (by omega)] at hj
      have j0 : j - o.length = 0 := by
        cases e : j - o.length with
        | zero => rfl
        | succ k => rw [e] at hj; simp at hj
      rw [j0] at hj
      simp at hj
      have hs := starts p hp hj.symm
      by_cases il : i < o.length
      · omega
      · rw [List.getElem?_append_right (by omega)] at hi
        have : i - o.length = 0 := by
          cases e : i - o.length with
          | zero => rfl
          | succ k => rw [e] at hi; simp at hi
        rw [this] at hi
        simp at hi
        exact absurd (hi ▸ hs) xo
theorem topo_len {n : Nat} {ps : List (Int × Int)} {o : List Int} (h : Topo n ps o) : o.length = n := by
  rw [nodup_eq h.nd (things_nodup n) h.mem, things_len]
end Tk

namespace Tk
/-- along the pairs one comes from a to b -/
inductive Reach (ps : List (Int × Int)) (a : Int) : Int → Prop
  | refl : Reach ps a a
  | tail {b c : Int} : Reach ps a b → (b, c) ∈ ps → Reach ps a c
theorem Reach.trans {ps : List (Int × Int)} {a b c : Int} (h : Reach ps a b) (g : Reach ps b c) : Reach ps a c := by
  induction g with
  | refl => exact h
  | tail _ hp ih => exact .tail ih hp
theorem Reach.head {ps : List (Int × Int)} {a b c : Int} (h : (a, b) ∈ ps) (g : Reach ps b c) : Reach ps a c := Reach.trans (.tail .refl h) g
theorem Reach.sub {ps qs : List (Int × Int)} {a b : Int} (h : Reach ps a b) (s : ∀ p ∈ ps, p ∈ qs) : Reach qs a b := by
  induction h with
  | refl => exact .refl
  | tail _ hp ih => exact .tail ih (s _ hp)
def swp (p : Int × Int) : Int × Int := (p.2, p.1)
theorem Reach.swap {ps : List (Int × Int)} {a b : Int} (h : Reach ps a b) : Reach (ps.map swp) b a := by
  induction h with
  | refl => exact .refl
  | @tail b c _ hp ih =>
    have : (c, b) ∈ ps.map swp := List.mem_map.mpr ⟨(b, c), hp, rfl⟩
    exact Reach.head this ih
theorem swp_swp (ps : List (Int × Int)) : (ps.map swp).map swp = ps := by
  rw [List.map_map]
  have : swp ∘ swp = id := by funext p; rfl
  rw [this, List.map_id]
theorem reach_swap {ps : List (Int × Int)} {a b : Int} : Reach (ps.map swp) a b ↔ Reach ps b a :=
  ⟨fun h => by have := h.swap; rw [swp_swp] at this; exact this, Reach.swap⟩
/-- a search on its way -/
structure RInv (n : Nat) (ps : List (Int × Int)) (st : Int) (fo wa : List Int) : Prop where
  nd : fo.Nodup
  th : ∀ x ∈ fo, x ∈ things n
  ss : st ∈ fo
  re : ∀ x ∈ fo, Reach ps st x
  wf : ∀ x ∈ wa, x ∈ fo
  cl : ∀ x ∈ fo, x ∉ wa → ∀ p ∈ ps, p.1 = x → p.2 ∈ fo
def freshL (ps : List (Int × Int)) (fo : List Int) (x : Int) : List Int := (ps.filter fun p => decide (p.1 = x) && !decide (p.2 ∈ fo)).map (·.2)
theorem mem_freshL {ps : List (Int × Int)} {fo : List Int} {x y : Int} : y ∈ freshL ps fo x ↔ (x, y) ∈ ps ∧ y ∉ fo := by
  unfold freshL
  simp only [List.mem_map, List.mem_filter, Bool.and_eq_true, decide_eq_true_eq, Bool.not_eq_true', decide_eq_false_iff_not]
  constructor
  · rintro ⟨⟨a, b⟩, ⟨h1, h2, h3⟩, rfl⟩
    simp at h2
    subst h2
    exact ⟨h1, h3⟩
  · rintro ⟨h1, h2⟩
    exact ⟨(x, y), ⟨h1, rfl, h2⟩, rfl⟩
theorem freshL_nodup {ps : List (Int × Int)} (hn : ps.Nodup) (fo : List Int) (x : Int) : (freshL ps fo x).Nodup := by
  unfold freshL
  show List.Pairwise _ _
  rw [List.pairwise_map]
  have h : (ps.filter fun p => decide (p.1 = x) && !decide (p.2 ∈ fo)).Nodup := hn.filter _
  refine List.Pairwise.imp_of_mem (fun {a b} ha hb hne e => hne ?_) h
  have h1 := (List.mem_filter.mp ha).2
  have h2 := (List.mem_filter.mp hb).2
  simp at h1 h2
  exact Prod.ext (h1.1.trans h2.1.symm) e
theorem rinv_0 {n : Nat} {ps : List (Int × Int)} {st : Int} (h : st ∈ things n) : RInv n ps st [st] [st] :=
  ⟨by simp, (fun x hx => by simp at hx; exact hx ▸ h), by simp, (fun x hx => by simp at hx; rw [hx]; exact .refl), (fun x hx => hx), (fun x hx hw => absurd hx hw)⟩
theorem rinv_step {n : Nat} {ps : List (Int × Int)} {st x : Int} {fo wa : List Int} (h : RInv n ps st fo (wa ++ [x])) (hn : ps.Nodup) (hr : ∀ p ∈ ps, p.2 ∈ things n) :
    RInv n ps st (fo ++ freshL ps fo x) (wa ++ freshL ps fo x) := by
  have hx : x ∈ fo := h.wf x (by simp)
  refine ⟨?_, ?_, ?_, ?_, ?_, ?_⟩
  · rw [List.nodup_append]
    refine ⟨h.nd, freshL_nodup hn fo x, ?_⟩
    intro a ha b hb e
    subst e
    exact (mem_freshL.mp hb).2 ha
  · intro y hy
    rcases List.mem_append.mp hy with q | q
    · exact h.th y q
    · exact hr _ (mem_freshL.mp q).1
  · exact List.mem_append_left _ h.ss
  · intro y hy
    rcases List.mem_append.mp hy with q | q
    · exact h.re y q
    · exact .tail (h.re x hx) (mem_freshL.mp q).1
  · intro y hy
    rcases List.mem_append.mp hy with q | q
    · exact List.mem_append_left _ (h.wf y (List.mem_append_left _ q))
    · exact List.mem_append_right _ q
  · intro y hy hw p hp e
    have hw1 : y ∉ wa := fun q => hw (List.mem_append_left _ q)
    have hw2 : y ∉ freshL ps fo x := fun q => hw (List.mem_append_right _ q)
    have hy' : y ∈ fo := by
      rcases List.mem_append.mp hy with q | q
      · exact q
      · exact absurd q hw2
    by_cases c : y = x
    · by_cases d : p.2 ∈ fo
      · exact List.mem_append_left _ d
      · refine List.mem_append_right _ (mem_freshL.mpr ⟨?_, d⟩)
        have : (x, p.2) = p := Prod.ext (by show x = p.1; rw [e, c]) rfl
        rw [this]; exact hp
    · refine List.mem_append_left _ (h.cl y hy' (fun q => ?_) p hp e)
      rcases List.mem_append.mp q with q | q
      · exact hw1 q
      · simp at q
        exact c q
theorem rinv_end {n : Nat} {ps : List (Int × Int)} {st : Int} {fo : List Int} (h : RInv n ps st fo []) (y : Int) : y ∈ fo ↔ Reach ps st y := by
  refine ⟨h.re y, fun r => ?_⟩
  induction r with
  | refl => exact h.ss
  | tail _ hp ih => exact h.cl _ ih (by simp) _ hp rfl
theorem rinv_len {n : Nat} {ps : List (Int × Int)} {st : Int} {fo wa : List Int} (h : RInv n ps st fo wa) : fo.length ≤ n := by
  have := nodup_le h.nd (m := things n) (fun x hx => h.th x hx)
  rw [things_len] at this
  exact this
/-- two rising lists with the same members -/
theorem rise_eq : ∀ {l m : List Int}, l.Pairwise (· < ·) → m.Pairwise (· < ·) → (∀ x, x ∈ l ↔ x ∈ m) → l = m
  | [], [], _, _, _ => rfl
  | [], y :: m, _, _, h => absurd ((h y).mpr (List.mem_cons_self ..)) (by simp)
  | x :: l, [], _, _, h => absurd ((h x).mp (List.mem_cons_self ..)) (by simp)
  | x :: l, y :: m, hl, hm, h => by
    have hl' := List.pairwise_cons.mp hl
    have hm' := List.pairwise_cons.mp hm
    have e : x = y := by
      have h1 := (h x).mp (List.mem_cons_self ..)
      have h2 := (h y).mpr (List.mem_cons_self ..)
      rcases List.mem_cons.mp h1 with q | q
      · exact q
      · rcases List.mem_cons.mp h2 with r | r
        · exact r.symm
        · have a := hm'.1 x q
          have b := hl'.1 y r
          omega
    subst e
    refine congrArg (x :: ·) (rise_eq hl'.2 hm'.2 fun z => ?_)
    constructor
    · intro hz
      rcases List.mem_cons.mp ((h z).mp (List.mem_cons_of_mem _ hz)) with q | q
      · have := hl'.1 z hz
        omega
      · exact q
    · intro hz
      rcases List.mem_cons.mp ((h z).mpr (List.mem_cons_of_mem _ hz)) with q | q
      · have := hm'.1 z hz
        omega
      · exact q
theorem things_rise (n : Nat) : (things n).Pairwise (· < ·) := by
  unfold things
  rw [List.pairwise_map]
  exact List.Pairwise.imp (fun h => by simpa using h) (List.pairwise_lt_range (n := n))
theorem le_nodup_lt {l : List Int} (h : l.Pairwise (· ≤ ·)) (n : l.Nodup) : l.Pairwise (· < ·) := by
  have : l.Pairwise (fun a b => a ≤ b ∧ a ≠ b) := List.Pairwise.and h n
  exact this.imp fun h => by omega
/-- earlier in the order -/
theorem topo_reach {n : Nat} {ps : List (Int × Int)} {o : List Int} (h : Topo n ps o) (hr : ∀ p ∈ ps, p.1 ∈ things n ∧ p.2 ∈ things n) {a b : Int} (r : Reach ps a b) (ha : a ∈ things n) :
    b ∈ things n ∧ (a ≠ b → ∀ i j : Nat, o[i]? = some a → o[j]? = some b → i < j) := by
  induction r with
  | refl => exact ⟨ha, fun q => absurd rfl q⟩
  | @tail b c _ hp ih =>
    refine ⟨(hr _ hp).2, fun _ i j hi hj => ?_⟩
    obtain ⟨k, hk⟩ := List.getElem?_of_mem ((h.mem b).mpr ih.1)
    have kj := h.at_ _ hp k j hk hj
    by_cases e : a = b
    · subst e
      have ik : i = k := by
        have hi' := List.getElem?_eq_some_iff.mp hi
        have hk' := List.getElem?_eq_some_iff.mp hk
        obtain ⟨hi1, hi2⟩ := hi'
        obtain ⟨hk1, hk2⟩ := hk'
        exact (List.getElem_inj h.nd).mp (hi2.trans hk2.symm)
      omega
    · have := ih.2 e i k hi hk
      omega
theorem acy_irr {ps : List (Int × Int)} (h : Acy ps) {a b : Int} (r1 : Reach ps a b) (r2 : Reach ps b a) : a = b := by
  obtain ⟨r, hr⟩ := h
  have le : ∀ {x y : Int}, Reach ps x y → x = y ∨ r x < r y := by
    intro x y q
    induction q with
    | refl => exact .inl rfl
    | tail _ hp ih =>
      have := hr _ hp
      simp at this
      rcases ih with e | l
      · right; rw [e]; exact this
      · right; omega
  rcases le r1 with e | l1
  · exact e
  · rcases le r2 with e | l2
    · exact e.symm
    · omega
end Tk

namespace Tk
/-- places told so far: before (i, j) -/
structure Sn (n i j : Nat) (ix : List (Nat × Nat)) : Prop where
  nd : ix.Nodup
  bd : ∀ q ∈ ix, q.1 < q.2 ∧ q.2 < n ∧ (q.1 < i ∨ (q.1 = i ∧ q.2 < j))
theorem sn_0 (n i j : Nat) : Sn n i j [] := ⟨List.nodup_nil, (fun _ h => nomatch h)⟩
theorem sn_up {n i j i' j' : Nat} {ix : List (Nat × Nat)} (h : Sn n i j ix) (hh : i < i' ∨ (i = i' ∧ j ≤ j')) : Sn n i' j' ix :=
  ⟨h.nd, fun q hq => by
    obtain ⟨a, b, c⟩ := h.bd q hq
    refine ⟨a, b, ?_⟩
    rcases c with c | ⟨c1, c2⟩ <;> rcases hh with d | ⟨d1, d2⟩
    · left; omega
    · left; omega
    · left; omega
    · right; omega⟩
theorem sn_end {n i j : Nat} {ix : List (Nat × Nat)} (h : Sn n i j ix) (hj : n ≤ j) : Sn n (i + 1) 0 ix :=
  ⟨h.nd, fun q hq => by
    obtain ⟨a, b, c⟩ := h.bd q hq
    exact ⟨a, b, by left; omega⟩⟩
theorem sn_put {n i j : Nat} {ix : List (Nat × Nat)} (h : Sn n i j ix) (hij : i < j) (hj : j < n) : Sn n i (j + 1) (ix ++ [(i, j)]) := by
  refine ⟨?_, ?_⟩
  · rw [List.nodup_append]
    refine ⟨h.nd, by simp, ?_⟩
    intro a ha b hb e
    simp at hb
    subst hb
    subst e
    have := (h.bd _ ha).2.2
    simp at this
  · intro q hq
    rcases List.mem_append.mp hq with c | c
    · obtain ⟨a, b, d⟩ := h.bd q c
      exact ⟨a, b, by omega⟩
    · simp at c
      subst c
      exact ⟨hij, hj, by right; exact ⟨rfl, by simp⟩⟩
theorem sn_few {n i j : Nat} {ix : List (Nat × Nat)} (h : Sn n i j ix) (hn : n ≤ 6) : ix.length ≤ 36 := by
  have sub : ∀ q ∈ ix, q ∈ (List.range 6).flatMap fun a => (List.range 6).map fun b => (a, b) := fun q hq => by
    obtain ⟨a, b, _⟩ := h.bd q hq
    simp only [List.mem_flatMap, List.mem_map, List.mem_range]
    exact ⟨q.1, by omega, q.2, by omega, rfl⟩
  have := nodup_le h.nd sub
  have e : ((List.range 6).flatMap fun a => (List.range 6).map fun b => (a, b)).length = 36 := by decide
  omega
/-- the item at a place -/
def it (o : List Int) (i : Nat) : Int := o.getD i 0
def prA (o : List Int) (q : Nat × Nat) : Int × Int := (it o q.1, it o q.2)
def prT (o : List Int) (q : Nat × Nat) : Int × Int := (if it o q.2 < it o q.1 then it o q.2 else it o q.1, if it o q.2 > it o q.1 then it o q.2 else it o q.1)
theorem it_some {o : List Int} {i : Nat} (h : i < o.length) : o[i]? = some (it o i) := by
  unfold it
  rw [List.getD_eq_getElem?_getD, List.getElem?_eq_getElem h]; rfl
theorem it_mem {o : List Int} {i : Nat} (h : i < o.length) : it o i ∈ o := List.mem_of_getElem? (it_some h)
theorem it_inj {o : List Int} (hn : o.Nodup) {i j : Nat} (hi : i < o.length) (hj : j < o.length) (e : it o i = it o j) : i = j := by
  have h1 := it_some hi
  have h2 := it_some hj
  rw [e] at h1
  obtain ⟨_, a⟩ := List.getElem?_eq_some_iff.mp h1
  obtain ⟨_, b⟩ := List.getElem?_eq_some_iff.mp h2
  exact (List.getElem_inj hn).mp (a.trans b.symm)
def PrsN (n : Nat) (ps : List (Int × Int)) : Prop := ps.Nodup ∧ ps.length < 60 ∧ ∀ p ∈ ps, 0 ≤ p.1 ∧ p.1 < (n : Int) ∧ 0 ≤ p.2 ∧ p.2 < (n : Int) ∧ p.1 ≠ p.2
section
variable {n i j : Nat} {o : List Int} {ix : List (Nat × Nat)}
theorem prs_a (ho : o.Perm (things n)) (h : Sn n i j ix) (hn : n ≤ 6) : PrsN n (ix.map (prA o)) := by
  have nd : o.Nodup := ho.nodup_iff.mpr (things_nodup n)
  have ln : o.length = n := by rw [ho.length_eq, things_len]
  refine ⟨?_, by rw [List.length_map]; have := sn_few h hn; omega, ?_⟩
  · show List.Pairwise _ _
    rw [List.pairwise_map]
    refine List.Pairwise.imp_of_mem (fun {a b} ha hb hne e => hne ?_) h.nd
    obtain ⟨a1, a2, _⟩ := h.bd a ha
    obtain ⟨b1, b2, _⟩ := h.bd b hb
    have e1 := congrArg Prod.fst e
    have e2 := congrArg Prod.snd e
    exact Prod.ext (it_inj nd (by omega) (by omega) e1) (it_inj nd (by omega) (by omega) e2)
  · intro p hp
    obtain ⟨q, hq, rfl⟩ := List.mem_map.mp hp
    obtain ⟨q1, q2, _⟩ := h.bd q hq
    have m1 := mem_things.mp (ho.mem_iff.mp (it_mem (o := o) (i := q.1) (by omega)))
    have m2 := mem_things.mp (ho.mem_iff.mp (it_mem (o := o) (i := q.2) (by omega)))
    refine ⟨m1.1, m1.2, m2.1, m2.2, fun e => ?_⟩
    have := it_inj nd (by omega) (by omega) e
    omega
theorem acy_a (ho : o.Perm (things n)) (h : Sn n i j ix) : Acy (ix.map (prA o)) := by
  have nd : o.Nodup := ho.nodup_iff.mpr (things_nodup n)
  have ln : o.length = n := by rw [ho.length_eq, things_len]
  refine ⟨fun x => o.idxOf x, fun p hp => ?_⟩
  obtain ⟨q, hq, rfl⟩ := List.mem_map.mp hp
  obtain ⟨q1, q2, _⟩ := h.bd q hq
  have key : ∀ k, k < o.length → o.idxOf (it o k) = k := fun k hk => by
    have h1 : o.idxOf (it o k) < o.length := List.idxOf_lt_length_of_mem (it_mem hk)
    have h2 := List.getElem_idxOf h1
    have h3 := it_some hk
    obtain ⟨_, h4⟩ := List.getElem?_eq_some_iff.mp h3
    exact (List.getElem_inj nd).mp (h2.trans h4.symm)
  show o.idxOf (it o q.1) < o.idxOf (it o q.2)
  rw [key _ (by omega), key _ (by omega)]
  exact q1
theorem prs_t (ho : o.Perm (things n)) (h : Sn n i j ix) (hn : n ≤ 6) : PrsN n (ix.map (prT o)) ∧ ∀ p ∈ ix.map (prT o), p.1 < p.2 := by
  have nd : o.Nodup := ho.nodup_iff.mpr (things_nodup n)
  have ln : o.length = n := by rw [ho.length_eq, things_len]
  have lt : ∀ p ∈ ix.map (prT o), p.1 < p.2 := by
    intro p hp
    obtain ⟨q, hq, rfl⟩ := List.mem_map.mp hp
    obtain ⟨q1, q2, _⟩ := h.bd q hq
    have ne : it o q.1 ≠ it o q.2 := fun e => by
      have := it_inj nd (by omega) (by omega) e
      omega
    unfold prT
    split <;> split <;> simp <;> omega
  refine ⟨⟨?_, by rw [List.length_map]; have := sn_few h hn; omega, ?_⟩, lt⟩
  · show List.Pairwise _ _
    rw [List.pairwise_map]
    refine List.Pairwise.imp_of_mem (fun {a b} ha hb hne e => hne ?_) h.nd
    obtain ⟨a1, a2, _⟩ := h.bd a ha
    obtain ⟨b1, b2, _⟩ := h.bd b hb
    have e1 : (prT o a).1 = (prT o b).1 := congrArg Prod.fst e
    have e2 : (prT o a).2 = (prT o b).2 := congrArg Prod.snd e
    have both : (it o a.1 = it o b.1 ∧ it o a.2 = it o b.2) ∨ (it o a.1 = it o b.2 ∧ it o a.2 = it o b.1) := by
      simp only [prT] at e1 e2
      split at e1 <;> split at e1 <;> split at e2 <;> split at e2 <;> omega
    rcases both with ⟨c, d⟩ | ⟨c, d⟩
    · exact Prod.ext (it_inj nd (by omega) (by omega) c) (it_inj nd (by omega) (by omega) d)
    · have c' := it_inj nd (by omega) (by omega) c
      have d' := it_inj nd (by omega) (by omega) d
      omega
  · intro p hp
    have l := lt p hp
    obtain ⟨q, hq, rfl⟩ := List.mem_map.mp hp
    obtain ⟨q1, q2, _⟩ := h.bd q hq
    have m1 := mem_things.mp (ho.mem_iff.mp (it_mem (o := o) (i := q.1) (by omega)))
    have m2 := mem_things.mp (ho.mem_iff.mp (it_mem (o := o) (i := q.2) (by omega)))
    have r : 0 ≤ (prT o q).1 ∧ (prT o q).1 < (n : Int) ∧ 0 ≤ (prT o q).2 ∧ (prT o q).2 < (n : Int) := by
      simp only [prT]
      split <;> split <;> omega
    exact ⟨r.1, r.2.1, r.2.2.1, r.2.2.2, by omega⟩
end
end Tk

namespace Tk
/-! parts by ties -/
def both (ts : List (Int × Int)) : List (Int × Int) := ts ++ ts.map swp
theorem mem_both {ts : List (Int × Int)} {p : Int × Int} : p ∈ both ts ↔ p ∈ ts ∨ swp p ∈ ts := by
  unfold both
  rw [List.mem_append, List.mem_map]
  constructor
  · rintro (h | ⟨q, h, rfl⟩)
    · exact .inl h
    · exact .inr (by obtain ⟨a, b⟩ := q; exact h)
  · rintro (h | h)
    · exact .inl h
    · exact .inr ⟨swp p, h, by obtain ⟨a, b⟩ := p; rfl⟩
theorem both_sym {ts : List (Int × Int)} {a b : Int} (h : Reach (both ts) a b) : Reach (both ts) b a := by
  refine h.swap.sub fun p hp => ?_
  obtain ⟨q, hq, rfl⟩ := List.mem_map.mp hp
  rcases mem_both.mp hq with c | c
  · exact mem_both.mpr (.inr (by obtain ⟨a, b⟩ := q; exact c))
  · exact mem_both.mpr (.inl c)
theorem both_snoc {ts : List (Int × Int)} {u v : Int} {x y : Int} : Reach (both (ts ++ [(u, v)])) x y ↔ Reach (both ts) x y ∨ (Reach (both ts) x u ∧ Reach (both ts) v y) ∨ (Reach (both ts) x v ∧ Reach (both ts) u y) := by
  have up : ∀ {a b : Int}, Reach (both ts) a b → Reach (both (ts ++ [(u, v)])) a b := fun h => h.sub fun p hp => by
    rcases mem_both.mp hp with c | c
    · exact mem_both.mpr (.inl (List.mem_append_left _ c))
    · exact mem_both.mpr (.inr (List.mem_append_left _ c))
  have e1 : (u, v) ∈ both (ts ++ [(u, v)]) := mem_both.mpr (.inl (by simp))
  have e2 : (v, u) ∈ both (ts ++ [(u, v)]) := mem_both.mpr (.inr (by show (u, v) ∈ _; simp))
  constructor
  · intro h
    induction h with
    | refl => exact .inl .refl
    | @tail b c _ hp ih =>
      have cs : (b, c) ∈ both ts ∨ (b = u ∧ c = v) ∨ (b = v ∧ c = u) := by
        rcases mem_both.mp hp with q | q
        · rcases List.mem_append.mp q with q | q
          · exact .inl (mem_both.mpr (.inl q))
          · simp at q; exact .inr (.inl q)
        · rcases List.mem_append.mp q with q | q
          · exact .inl (mem_both.mpr (.inr q))
          · simp [swp] at q; exact .inr (.inr ⟨q.2, q.1⟩)
      rcases cs with q | ⟨rfl, rfl⟩ | ⟨rfl, rfl⟩
      · rcases ih with i | ⟨i, j⟩ | ⟨i, j⟩
        · exact .inl (.tail i q)
        · exact .inr (.inl ⟨i, .tail j q⟩)
        · exact .inr (.inr ⟨i, .tail j q⟩)
      · rcases ih with i | ⟨i, _⟩ | ⟨i, _⟩
        · exact .inr (.inl ⟨i, .refl⟩)
        · exact .inr (.inl ⟨i, .refl⟩)
        · exact .inl i
      · rcases ih with i | ⟨i, _⟩ | ⟨i, _⟩
        · exact .inr (.inr ⟨i, .refl⟩)
        · exact .inl i
        · exact .inr (.inr ⟨i, .refl⟩)
  · rintro (h | ⟨h, g⟩ | ⟨h, g⟩)
    · exact up h
    · exact Reach.trans (.tail (up h) e1) (up g)
    · exact Reach.trans (.tail (up h) e2) (up g)
/-- the law's marks -/
def at' (M : List Int) (x : Int) : Int := M.getD x.toNat 0
def mkM (M : List Int) (p : Int × Int) : List Int := M.map fun m => if m = at' M p.2 then at' M p.1 else m
structure MInv (n : Nat) (ts : List (Int × Int)) (M : List Int) : Prop where
  len : M.length = n
  th : ∀ m ∈ M, m ∈ things n
  eq : ∀ x ∈ things n, ∀ y ∈ things n, at' M x = at' M y ↔ Reach (both ts) x y
theorem at_get {M : List Int} {n : Nat} (h : M.length = n) {x : Int} (hx : x ∈ things n) : M[x.toNat]? = some (at' M x) := by
  obtain ⟨h0, h1⟩ := mem_things.mp hx
  have hl : x.toNat < M.length := by omega
  unfold at'
  rw [List.getD_eq_getElem?_getD, List.getElem?_eq_getElem hl]; rfl
theorem at_mk {M : List Int} {n : Nat} (h : M.length = n) {x : Int} (hx : x ∈ things n) (p : Int × Int) : at' (mkM M p) x = if at' M x = at' M p.2 then at' M p.1 else at' M x := by
  have g := at_get h hx
  have h' : (mkM M p).length = n := by unfold mkM; rw [List.length_map, h]
  have g' := at_get h' hx
  unfold mkM at g'
  rw [List.getElem?_map, g] at g'
  exact (Option.some.inj g').symm
theorem minv_0 (n : Nat) : MInv n [] (things n) := by
  refine ⟨things_len n, fun m h => h, fun x hx y hy => ?_⟩
  have e : ∀ z ∈ things n, at' (things n) z = z := fun z hz => by
    have := at_get (things_len n) hz
    obtain ⟨h0, h1⟩ := mem_things.mp hz
    have hl : z.toNat < (List.range n).length := by rw [List.length_range]; omega
    unfold things at this
    rw [List.getElem?_map, List.getElem?_eq_getElem hl, List.getElem_range] at this
    have q := Option.some.inj this
    rw [show things n = (List.range n).map Int.ofNat from rfl, ← q]
    show ((z.toNat : Nat) : Int) = z
    omega
  rw [e x hx, e y hy]
  constructor
  · rintro rfl; exact .refl
  · intro h
    induction h with
    | refl => rfl
    | tail _ hp _ => exact absurd hp (by simp [both])
theorem mk_eq (a b c d : Int) : ((if a = d then c else a) = (if b = d then c else b)) ↔ (a = b ∨ (a = c ∧ d = b) ∨ (a = d ∧ c = b)) := by
  by_cases e1 : a = d
  · by_cases e2 : b = d
    · rw [if_pos e1, if_pos e2]; omega
    · rw [if_pos e1, if_neg e2]; omega
  · by_cases e2 : b = d
    · rw [if_neg e1, if_pos e2]; omega
    · rw [if_neg e1, if_neg e2]; omega
theorem minv_step {n : Nat} {ts : List (Int × Int)} {M : List Int} {p : Int × Int} (h : MInv n ts M) (h1 : p.1 ∈ things n) (h2 : p.2 ∈ things n) : MInv n (ts ++ [p]) (mkM M p) := by
  have mem_at : ∀ x ∈ things n, at' M x ∈ things n := fun x hx => h.th _ (List.mem_of_getElem? (at_get h.len hx))
  refine ⟨by unfold mkM; rw [List.length_map, h.len], fun m hm => ?_, fun x hx y hy => ?_⟩
  · obtain ⟨m', hm', rfl⟩ := List.mem_map.mp hm
    show (if m' = at' M p.2 then at' M p.1 else m') ∈ things n
    split
    · exact mem_at _ h1
    · exact h.th _ hm'
  · obtain ⟨u, v⟩ := p
    rw [at_mk h.len hx, at_mk h.len hy, both_snoc, ← h.eq x hx y hy, ← h.eq x hx u h1, ← h.eq v h2 y hy, ← h.eq x hx v h2, ← h.eq u h1 y hy]
    show (if at' M x = at' M v then at' M u else at' M x) = (if at' M y = at' M v then at' M u else at' M y) ↔ _
    generalize at' M x = a
    generalize at' M y = b
    generalize at' M u = c
    generalize at' M v = d
    exact mk_eq a b c d
noncomputable def bR (ps : List (Int × Int)) (i y : Int) : Bool := @decide (Reach ps i y) (Classical.propDecidable _)
theorem bR_iff {ps : List (Int × Int)} {i y : Int} : bR ps i y = true ↔ Reach ps i y := by
  unfold bR
  exact @decide_eq_true_iff _ (Classical.propDecidable _)
noncomputable def cl (n : Nat) (ts : List (Int × Int)) (t : Int) : List Int := (things n).filter (bR (both ts) t)
theorem mem_cl {n : Nat} {ts : List (Int × Int)} {t y : Int} : y ∈ cl n ts t ↔ y ∈ things n ∧ Reach (both ts) t y := by
  unfold cl
  rw [List.mem_filter, bR_iff]
theorem cl_eq {n : Nat} {ts : List (Int × Int)} {t y : Int} (h : Reach (both ts) t y) : cl n ts t = cl n ts y := by
  refine List.filter_congr fun z _ => ?_
  have : Reach (both ts) t z ↔ Reach (both ts) y z := ⟨fun r => (both_sym h).trans r, fun r => h.trans r⟩
  rw [Bool.eq_iff_iff, bR_iff, bR_iff]
  exact this
noncomputable def isHd (n : Nat) (ts : List (Int × Int)) (t : Int) : Bool := decide ((cl n ts t).headD (-1) = t)
/-- the parts, told in the sequence of their least things -/
noncomputable def partsL (n : Nat) (ts : List (Int × Int)) : List (List Int) := ((things n).filter (isHd n ts)).map (cl n ts)
/-- the law's own list, before it is sorted -/
def rawL (n : Nat) (M : List Int) : List (List Int) := ((things n).filter fun m => decide (m ∈ M)).map fun m => (things n).filter fun t => decide (at' M t = m)
theorem hd_mem {l : List Int} (h : l ≠ []) : l.headD (-1) ∈ l := by
  cases l with
  | nil => exact absurd rfl h
  | cons x l => simp
theorem raw_cl {n : Nat} {ts : List (Int × Int)} {M : List Int} (h : MInv n ts M) {x : Int} (hx : x ∈ things n) : ((things n).filter fun t => decide (at' M t = at' M x)) = cl n ts x := by
  refine List.filter_congr fun z hz => ?_
  rw [Bool.eq_iff_iff, bR_iff, decide_eq_true_eq, h.eq z hz x hx]
  exact ⟨both_sym, both_sym⟩
theorem mem_raw {n : Nat} {ts : List (Int × Int)} {M : List Int} (h : MInv n ts M) {l : List Int} : l ∈ rawL n M ↔ ∃ x ∈ things n, l = cl n ts x := by
  unfold rawL
  rw [List.mem_map]
  constructor
  · rintro ⟨m, hm, rfl⟩
    have hm2 : m ∈ M := by simpa using (List.mem_filter.mp hm).2
    obtain ⟨i, hi⟩ := List.getElem?_of_mem hm2
    have hil := (List.getElem?_eq_some_iff.mp hi).1
    have hx : ((i : Nat) : Int) ∈ things n := mem_things.mpr ⟨by omega, by have := h.len; omega⟩
    have g := at_get h.len hx
    have e : ((i : Nat) : Int).toNat = i := by omega
    rw [e, hi] at g
    have q := Option.some.inj g
    refine ⟨_, hx, ?_⟩
    rw [← raw_cl h hx, q]
  · rintro ⟨x, hx, rfl⟩
    have hm := List.mem_of_getElem? (at_get h.len hx)
    exact ⟨at' M x, List.mem_filter.mpr ⟨h.th _ hm, by simpa using hm⟩, raw_cl h hx⟩
theorem cl_self {n : Nat} {ts : List (Int × Int)} {x : Int} (hx : x ∈ things n) : x ∈ cl n ts x := mem_cl.mpr ⟨hx, .refl⟩
theorem cl_hd {n : Nat} {ts : List (Int × Int)} {x : Int} (hx : x ∈ things n) : (cl n ts x).headD (-1) ∈ things n ∧ cl n ts ((cl n ts x).headD (-1)) = cl n ts x := by
  have hne : cl n ts x ≠ [] := fun e => by have := cl_self (ts := ts) hx; rw [e] at this; exact nomatch this
  have hm := mem_cl.mp (hd_mem hne)
  exact ⟨hm.1, (cl_eq hm.2).symm⟩
theorem raw_hd_nodup {n : Nat} {ts : List (Int × Int)} {M : List Int} (h : MInv n ts M) : ((rawL n M).map fun l => l.headD (-1)).Nodup := by
  unfold rawL
  rw [List.map_map]
  show List.Pairwise _ _
  rw [List.pairwise_map]
  have nd : ((things n).filter fun m => decide (m ∈ M)).Nodup := (things_nodup n).filter _
  refine List.Pairwise.imp_of_mem (fun {a b} ha hb hne e => hne ?_) nd
  have key : ∀ m ∈ (things n).filter (fun m => decide (m ∈ M)), at' M ((((things n).filter fun t => decide (at' M t = m))).headD (-1)) = m := fun m hm => by
    have hm2 : m ∈ M := by simpa using (List.mem_filter.mp hm).2
    obtain ⟨i, hi⟩ := List.getElem?_of_mem hm2
    have hil := (List.getElem?_eq_some_iff.mp hi).1
    have hx : ((i : Nat) : Int) ∈ things n := mem_things.mpr ⟨by omega, by have := h.len; omega⟩
    have g := at_get h.len hx
    have e : ((i : Nat) : Int).toNat = i := by omega
    rw [e, hi] at g
    have q := Option.some.inj g
    have hin : ((i : Nat) : Int) ∈ (things n).filter fun t => decide (at' M t = m) := List.mem_filter.mpr ⟨hx, by simp [q]⟩
    have := hd_mem (l := (things n).filter fun t => decide (at' M t = m)) (fun e => by rw [e] at hin; exact nomatch hin)
    simpa using (List.mem_filter.mp this).2
  have e' : (((things n).filter fun t => decide (at' M t = a)).headD (-1)) = (((things n).filter fun t => decide (at' M t = b)).headD (-1)) := e
  rw [← key a ha, ← key b hb, e']
theorem hd_le {l m : List Int} (hl : l ≠ []) (hm : m ≠ []) (h : l ≤ m) : l.headD (-1) ≤ m.headD (-1) := by
  cases l with
  | nil => exact absurd rfl hl
  | cons x l =>
    cases m with
    | nil => exact absurd rfl hm
    | cons y m =>
      show x ≤ y
      rcases List.cons_le_cons_iff.mp h with q | q
      · omega
      · omega
/-- sorted, it is the parts -/
theorem sorted_parts {n : Nat} {ts : List (Int × Int)} {M : List Int} {out : List (List Int)} (h : MInv n ts M) (pm : out.Perm (rawL n M)) (srt : out.Pairwise (· ≤ ·)) : out = partsL n ts := by
  have mem : ∀ l ∈ out, ∃ x ∈ things n, l = cl n ts x := fun l hl => (mem_raw h).mp (pm.mem_iff.mp hl)
  have ne : ∀ l ∈ out, l ≠ [] := fun l hl e => by
    obtain ⟨x, hx, rfl⟩ := mem l hl
    have := cl_self (ts := ts) hx
    rw [e] at this
    exact nomatch this
  have le : (out.map fun l => l.headD (-1)).Pairwise (· ≤ ·) := by
    rw [List.pairwise_map]
    exact List.Pairwise.imp_of_mem (fun {a b} ha hb h => hd_le (ne a ha) (ne b hb) h) srt
  have nd : (out.map fun l => l.headD (-1)).Nodup := (pm.map _).nodup_iff.mpr (raw_hd_nodup h)
  have heads : (out.map fun l => l.headD (-1)) = (things n).filter (isHd n ts) := by
    refine rise_eq (le_nodup_lt le nd) ((things_rise n).filter _) fun t => ?_
    constructor
    · intro ht
      obtain ⟨l, hl, rfl⟩ := List.mem_map.mp ht
      obtain ⟨x, hx, rfl⟩ := mem l hl
      obtain ⟨a, b⟩ := cl_hd (ts := ts) hx
      refine List.mem_filter.mpr ⟨a, ?_⟩
      unfold isHd
      rw [decide_eq_true_eq]
      show (cl n ts ((cl n ts x).headD (-1))).headD (-1) = (cl n ts x).headD (-1)
      rw [b]
    · intro ht
      obtain ⟨h1, h2⟩ := List.mem_filter.mp ht
      have h2' : (cl n ts t).headD (-1) = t := by simpa [isHd] using h2
      exact List.mem_map.mpr ⟨cl n ts t, pm.mem_iff.mpr ((mem_raw h).mpr ⟨t, h1, rfl⟩), h2'⟩
  unfold partsL
  rw [← heads, List.map_map]
  symm
  refine (List.map_congr_left fun l hl => ?_).trans (List.map_id out)
  obtain ⟨x, hx, rfl⟩ := mem l hl
  exact (cl_hd (ts := ts) hx).2
/-- a list of ints that rises, with these members -/
theorem rise_cl {n : Nat} {ts : List (Int × Int)} {t : Int} {l : List Int} (h : l.Pairwise (· < ·)) (hm : ∀ y, y ∈ l ↔ y ∈ things n ∧ Reach (both ts) t y) : l = cl n ts t :=
  rise_eq h ((things_rise n).filter _) fun y => by rw [hm y]; exact mem_cl.symm
theorem both_congr {ts us : List (Int × Int)} (h : ∀ p, p ∈ ts ↔ p ∈ us) {a b : Int} : Reach (both ts) a b ↔ Reach (both us) a b :=
  ⟨fun r => r.sub fun p hp => by
    rcases mem_both.mp hp with c | c
    · exact mem_both.mpr (.inl ((h p).mp c))
    · exact mem_both.mpr (.inr ((h _).mp c)), fun r => r.sub fun p hp => by
    rcases mem_both.mp hp with c | c
    · exact mem_both.mpr (.inl ((h p).mpr c))
    · exact mem_both.mpr (.inr ((h _).mpr c))⟩
theorem partsL_congr {n : Nat} {ts us : List (Int × Int)} (h : ∀ p, p ∈ ts ↔ p ∈ us) : partsL n ts = partsL n us := by
  have e : cl n ts = cl n us := by
    funext t
    refine List.filter_congr fun z _ => ?_
    rw [Bool.eq_iff_iff, bR_iff, bR_iff]
    exact both_congr h
  unfold partsL isHd
  rw [e]
theorem parts_flat_mem {n : Nat} {ts : List (Int × Int)} {y : Int} : y ∈ (partsL n ts).flatten ↔ y ∈ things n := by
  rw [List.mem_flatten]
  constructor
  · rintro ⟨l, hl, hy⟩
    obtain ⟨t, _, rfl⟩ := List.mem_map.mp hl
    exact (mem_cl.mp hy).1
  · intro hy
    obtain ⟨a, b⟩ := cl_hd (ts := ts) hy
    refine ⟨cl n ts ((cl n ts y).headD (-1)), List.mem_map.mpr ⟨_, List.mem_filter.mpr ⟨a, ?_⟩, rfl⟩, ?_⟩
    · unfold isHd
      rw [decide_eq_true_eq, b]
    · rw [b]
      exact cl_self hy
theorem parts_flat_nodup {n : Nat} {ts : List (Int × Int)} : (partsL n ts).flatten.Nodup := by
  show List.Pairwise _ _
  rw [List.pairwise_flatten]
  constructor
  · intro l hl
    obtain ⟨t, _, rfl⟩ := List.mem_map.mp hl
    exact (things_nodup n).filter _
  · unfold partsL
    rw [List.pairwise_map]
    refine List.Pairwise.imp_of_mem (fun {a b} ha hb hne x hx y hy e => hne ?_) ((things_nodup n).filter _)
    subst e
    have e1 := cl_eq (n := n) (mem_cl.mp hx).2
    have e2 := cl_eq (n := n) (mem_cl.mp hy).2
    have h1 : (cl n ts a).headD (-1) = a := by simpa [isHd] using (List.mem_filter.mp ha).2
    have h2 : (cl n ts b).headD (-1) = b := by simpa [isHd] using (List.mem_filter.mp hb).2
    rw [← h1, ← h2, e1, e2]
end Tk

namespace Tk
theorem hd_iff {n : Nat} {ts : List (Int × Int)} {t : Int} (ht : t ∈ things n) : isHd n ts t = true ↔ ∀ y ∈ things n, Reach (both ts) t y → t ≤ y := by
  have srt : (cl n ts t).Pairwise (· < ·) := (things_rise n).filter _
  have hs := cl_self (ts := ts) ht
  unfold isHd
  rw [decide_eq_true_eq]
  constructor
  · intro e y hy r
    have hm : y ∈ cl n ts t := mem_cl.mpr ⟨hy, r⟩
    cases hc : cl n ts t with
    | nil => rw [hc] at hm; exact nomatch hm
    | cons a l =>
      rw [hc] at e srt hm
      have ea : a = t := e
      subst ea
      rcases List.mem_cons.mp hm with q | q
      · omega
      · have := (List.pairwise_cons.mp srt).1 y q
        omega
  · intro h
    cases hc : cl n ts t with
    | nil => rw [hc] at hs; exact nomatch hs
    | cons a l =>
      have ha : a ∈ cl n ts t := by rw [hc]; exact List.mem_cons_self ..
      have h1 := h a (mem_cl.mp ha).1 (mem_cl.mp ha).2
      rw [hc] at hs srt
      show a = t
      rcases List.mem_cons.mp hs with q | q
      · exact q.symm
      · have := (List.pairwise_cons.mp srt).1 t q
        omega
/-- a tie more joins two parts at most -/
theorem parts_one {n : Nat} {ts : List (Int × Int)} {u v : Int} (hu : u ∈ things n) (hv : v ∈ things n) :
    (partsL n (ts ++ [(u, v)])).length ≤ (partsL n ts).length ∧ (partsL n ts).length ≤ (partsL n (ts ++ [(u, v)])).length + 1 := by
  have sub : ∀ t ∈ (things n).filter (isHd n (ts ++ [(u, v)])), t ∈ (things n).filter (isHd n ts) := fun t ht => by
    obtain ⟨h1, h2⟩ := List.mem_filter.mp ht
    refine List.mem_filter.mpr ⟨h1, (hd_iff h1).mpr fun y hy r => (hd_iff h1).mp h2 y hy (both_snoc.mpr (.inl r))⟩
  have nd1 : ((things n).filter (isHd n ts)).Nodup := (things_nodup n).filter _
  have nd2 : ((things n).filter (isHd n (ts ++ [(u, v)]))).Nodup := (things_nodup n).filter _
  have l1 : (partsL n ts).length = ((things n).filter (isHd n ts)).length := by unfold partsL; rw [List.length_map]
  have l2 : (partsL n (ts ++ [(u, v)])).length = ((things n).filter (isHd n (ts ++ [(u, v)]))).length := by unfold partsL; rw [List.length_map]
  rw [l1, l2]
  refine ⟨nodup_le nd2 sub, ?_⟩
  -- who is lost
  have lost : ∀ t ∈ (things n).filter (isHd n ts), t ∉ (things n).filter (isHd n (ts ++ [(u, v)])) → ∃ y ∈ things n, y < t ∧ ((Reach (both ts) t u ∧ Reach (both ts) v y) ∨ (Reach (both ts) t v ∧ Reach (both ts) u y)) := fun t ht hn => by
    obtain ⟨h1, h2⟩ := List.mem_filter.mp ht
    refine Classical.byContradiction fun no => hn (List.mem_filter.mpr ⟨h1, (hd_iff h1).mpr fun y hy r => ?_⟩)
    rcases both_snoc.mp r with q | q
    · exact (hd_iff h1).mp h2 y hy q
    · exact Int.not_lt.mp fun lt => no ⟨y, hy, lt, q⟩
  by_cases c : ∃ t ∈ (things n).filter (isHd n ts), t ∉ (things n).filter (isHd n (ts ++ [(u, v)]))
  · obtain ⟨t0, h0, m0⟩ := c
    have := nodup_le nd1 (m := t0 :: (things n).filter (isHd n (ts ++ [(u, v)]))) (fun t ht => by
      by_cases d : t ∈ (things n).filter (isHd n (ts ++ [(u, v)]))
      · exact List.mem_cons_of_mem _ d
      · refine List.mem_cons.mpr (.inl ?_)
        obtain ⟨y, hy, ly, ry⟩ := lost t ht d
        obtain ⟨y0, hy0, ly0, ry0⟩ := lost t0 h0 m0
        obtain ⟨a1, a2⟩ := List.mem_filter.mp ht
        obtain ⟨b1, b2⟩ := List.mem_filter.mp h0
        have A := (hd_iff a1).mp a2
        have B := (hd_iff b1).mp b2
        rcases ry with ⟨p, q⟩ | ⟨p, q⟩ <;> rcases ry0 with ⟨p0, q0⟩ | ⟨p0, q0⟩
        · have e1 := A t0 b1 (p.trans (both_sym p0))
          have e2 := B t a1 (p0.trans (both_sym p))
          omega
        · have e1 := A y0 hy0 (p.trans q0)
          have e2 := B y hy (p0.trans q)
          omega
        · have e1 := A y0 hy0 (p.trans q0)
          have e2 := B y hy (p0.trans q)
          omega
        · have e1 := A t0 b1 (p.trans (both_sym p0))
          have e2 := B t a1 (p0.trans (both_sym p))
          omega)
    rw [List.length_cons] at this
    exact this
  · have := nodup_le nd1 (m := (things n).filter (isHd n (ts ++ [(u, v)]))) (fun t ht => Classical.byContradiction fun d => c ⟨t, ht, d⟩)
    omega
theorem cl_len {n : Nat} {ts : List (Int × Int)} {t : Int} : (cl n ts t).length ≤ n := by
  unfold cl
  have := List.length_filter_le (bR (both ts) t) (things n)
  rw [things_len] at this
  exact this
theorem parts_len {n : Nat} {ts : List (Int × Int)} : (partsL n ts).length ≤ n := by
  unfold partsL
  rw [List.length_map]
  have := List.length_filter_le (isHd n ts) (things n)
  rw [things_len] at this
  exact this
theorem parts_small {n : Nat} {ts : List (Int × Int)} (h : n ≤ 6) : ∀ o ∈ partsL n ts, o.length ≤ 6 ∧ ∀ x ∈ o, x.natAbs < 10 ^ 12 := by
  intro o ho
  obtain ⟨t, _, rfl⟩ := List.mem_map.mp ho
  refine ⟨Nat.le_trans cl_len h, fun x hx => ?_⟩
  have := mem_things.mp (mem_cl.mp hx).1
  have : (10 : Nat) ^ 12 = 1000000000000 := by decide
  omega
end Tk

namespace Tk
open PySem PySem.Spec PyProof.Rows L2
def top (i : Nat) : Stmt := PySem.Challenge.pw_toldpushes_k24_whole_parts_by_ties.main.body.getD i (.Pass ⟨0, 0, 0, 0⟩)
abbrev sIsInt : Stmt := top 1
abbrev sIsCnt : Stmt := top 2
abbrev sIsLst : Stmt := top 3
abbrev sIsThg : Stmt := top 5
abbrev sIsPair : Stmt := top 6
abbrev sArePairs : Stmt := top 7
abbrev sAreSome : Stmt := top 8
abbrev sAreArr : Stmt := top 9
abbrev sAreTies : Stmt := top 10
abbrev sTurned : Stmt := top 11
abbrev sBothWays : Stmt := top 12
abbrev sOrdOf : Stmt := top 13
abbrev sReached : Stmt := top 14
abbrev sIsSize : Stmt := top 23
abbrev sChkSize : Stmt := top 24
abbrev sInit : Stmt := inClass (top 26) 0
abbrev sWidth : Stmt := inClass (top 26) 1
abbrev sArrows : Stmt := inClass (top 26) 2
abbrev sTies : Stmt := inClass (top 26) 3
abbrev sChkPlan : Stmt := top 28
abbrev sTieParts : Stmt := top 30
abbrev sWithMore : Stmt := top 31
abbrev sWithout : Stmt := top 32
abbrev sPot : Stmt := top 34
abbrev sDraw : Stmt := top 35
abbrev sShuf : Stmt := top 36
abbrev sPlan : Stmt := top 37
abbrev sParts : Stmt := top 38
abbrev sRight : Stmt := top 39
abbrev sLaw : Stmt := top 40

/-- a def of the text under its own name -/
structure Df (K : PySem.W.Frag) (mg : Str → Option Value) (nm : Str) (st : Stmt) (ps : List Str) (f : Addr) (fd : FuncData) : Prop where
  F : Fun K nm nm st f fd
  g : mg nm = some (.ref f)
  b : Binds K fd ps []
/-- the built-in names still mean what they mean -/
structure Bl (mg : Str → Option Value) : Prop where
  isi : mg "isinstance" = none
  int : mg "int" = none
  bool : mg "bool" = none
  list : mg "list" = none
  tuple : mg "tuple" = none
  len : mg "len" = none
  all : mg "all" = none
  set : mg "set" = none
  range : mg "range" = none
  sorted : mg "sorted" = none
  sum : mg "sum" = none
  abs : mg "abs" = none
  max : mg "max" = none
  min : mg "min" = none
  divmod : mg "divmod" = none
  repr : mg "repr" = none
  enumerate : mg "enumerate" = none

/-! ## promises -/
/-- of an int: True -/
def spIsInt : Sp := fun vs H Q _ => ∃ i : Int, vs = [.int i] ∧ Q (.bl true) H
def spIsCnt : Sp := fun vs H Q _ => ∃ i : Int, vs = [.int i] ∧ Q (.bl (decide (0 ≤ i))) H
def spIsThg : Sp := fun vs H Q _ => ∃ n i : Int, vs = [.int n, .int i] ∧ Q (.bl (decide (0 ≤ i) && decide (i < n))) H
def spIsLst (K : PySem.W.Frag) : Sp := fun vs H Q _ => ∃ a xs, vs = [.ref a] ∧ H a = some (.lst xs) ∧ ∀ H', Same H H' → Q (.bl true) H'

section
variable {P : Program} {w : World} {K : PySem.W.Frag} {mg : Str → Option Value} {base : Heap}
theorem sc_isInt : FnScope ["value"] ["value"] (defScope sIsInt) := ⟨rfl, rfl, rfl, by decide +kernel, rfl, by decide +kernel, by decide +kernel⟩
theorem ok_isInt {f : Addr} {fd : FuncData} (F : Fun K "is_integer" "is_integer" sIsInt f fd) (B : Bl mg) : FnOk P w K mg base CX0 1 f fd ["value"] spIsInt := by
  refine F.ok sc_isInt (fun vs H Q E h => ?_) (fun cdv A outer s H vs Q E hr h => ?_)
  · obtain ⟨i, rfl, _⟩ := h
    rfl
  · obtain ⟨i, rfl, q⟩ := h
    refine ⟨_, pss_one (ps_ret (pe_and
      (pe_callB call_isi (by rfl) B.isi PyProof.Rows.boot_isinstance (pa_cons (pv 0) (pa_cons (pe_bltn (v := .ty "int") (by rfl) B.int PyProof.Rows.boot_int rfl) pa_nil)))
      (pe_one (pe_not (pe_callB call_isi (by rfl) B.isi PyProof.Rows.boot_isinstance (pa_cons (pv 0) (pa_cons (pe_bltn (v := .ty "bool") (by rfl) B.bool PyProof.Rows.boot_bool rfl) pa_nil))))))), ?_⟩
    refine ⟨_, rfl, _, _, _, _, true, rfl, .ty _, .base (.int i), kit_ty (by decide +kernel), true, rfl, iteT ?_⟩
    exact ⟨_, rfl, _, _, _, _, false, rfl, .ty _, .base (.int i), kit_ty (by decide +kernel), false, rfl, q⟩

theorem sc_isCnt : FnScope ["value"] ["value"] (defScope sIsCnt) := ⟨rfl, rfl, rfl, by decide +kernel, rfl, by decide +kernel, by decide +kernel⟩
theorem ok_isCnt {f f1 : Addr} {fd fd1 : FuncData} (F : Fun K "is_count" "is_count" sIsCnt f fd) (D1 : Df K mg "is_integer" sIsInt ["value"] f1 fd1) (B : Bl mg) : FnOk P w K mg base CX0 2 f fd ["value"] spIsCnt := by
  have G1 : FnOk P w K mg base CX0 1 f1 fd1 ["value"] spIsInt := ok_isInt D1.F B
  refine F.ok sc_isCnt (fun vs H Q E h => ?_) (fun cdv A outer s H vs Q E hr h => ?_)
  · obtain ⟨i, rfl, _⟩ := h
    rfl
  · obtain ⟨i, rfl, q⟩ := h
    refine ⟨_, pss_one (ps_ret (pe_and (pe_call G1 hr rfl D1.g D1.F.kp D1.b .nil pass0 (pa_cons (pv 0) pa_nil)) (pe_one (pe_cmpR op_ge (pv 0) pe_int (nomark _))))), ?_⟩
    refine ⟨_, rfl, i, rfl, true, rfl, iteT ?_⟩
    exact ⟨_, rfl, _, _, rfl, rfl, q⟩

theorem sc_isThg : FnScope ["size", "value"] ["size", "value"] (defScope sIsThg) := ⟨rfl, rfl, rfl, by decide +kernel, rfl, by decide +kernel, by decide +kernel⟩
theorem ok_isThg {f f1 f2 : Addr} {fd fd1 fd2 : FuncData} (F : Fun K "is_thing" "is_thing" sIsThg f fd) (D1 : Df K mg "is_integer" sIsInt ["value"] f1 fd1) (D2 : Df K mg "is_count" sIsCnt ["value"] f2 fd2) (B : Bl mg) :
    FnOk P w K mg base CX0 3 f fd ["size", "value"] spIsThg := by
  have G2 : FnOk P w K mg base CX0 2 f2 fd2 ["value"] spIsCnt := ok_isCnt D2.F D1 B
  refine F.ok sc_isThg (fun vs H Q E h => ?_) (fun cdv A outer s H vs Q E hr h => ?_)
  · obtain ⟨n, i, rfl, _⟩ := h
    rfl
  · obtain ⟨n, i, rfl, q⟩ := h
    refine ⟨_, pss_one (ps_ret (pe_and (pe_call G2 hr rfl D2.g D2.F.kp D2.b .nil pass0 (pa_cons (pv 1) pa_nil)) (pe_one (pe_cmpR op_lt (pv 1) (pv 0) (nomark _))))), ?_⟩
    refine ⟨_, rfl, i, rfl, _, rfl, ?_⟩
    by_cases h0 : 0 ≤ i
    · rw [decide_eq_true h0] at q ⊢
      refine iteT ?_
      refine ⟨_, rfl, _, rfl, _, _, rfl, rfl, ?_⟩
      rw [Bool.true_and] at q
      exact q
    · rw [decide_eq_false h0] at q ⊢
      exact iteF q
end
end Tk

namespace Tk
open PySem PySem.Spec PyProof.Rows L2
/-- of two unlike things of a plan of this size: True -/
def spIsPair (K : PySem.W.Frag) : Sp := fun vs H Q _ => ∃ (n i j : Int) (t : Addr), vs = [.int n, .ref t] ∧ SqT K H t [.int i, .int j] ∧ 0 ≤ i ∧ i < n ∧ 0 ≤ j ∧ j < n ∧ i ≠ j ∧ ∀ H', Same H H' → Q (.bl true) H'
/-- pairs of unlike things -/
def Prs (n : Int) (ps : List (Int × Int)) : Prop := ps.Nodup ∧ ps.length < 60 ∧ ∀ p ∈ ps, 0 ≤ p.1 ∧ p.1 < n ∧ 0 ≤ p.2 ∧ p.2 < n ∧ p.1 ≠ p.2
def spArePairs (K : PySem.W.Frag) : Sp := fun vs H Q _ => ∃ (n : Int) (a : Addr) (ps : List (Int × Int)), vs = [.int n, .ref a] ∧ PL K H a ps ∧ Prs n ps ∧ ∀ H', Same H H' → Q (.bl true) H'
def spIsLst1 (K : PySem.W.Frag) : Sp := fun vs H Q _ => ∃ (a : Addr) (xs : List V), vs = [.ref a] ∧ SqL K H a xs ∧ ∀ H', Same H H' → Q (.bl true) H'
section
variable {P : Program} {w : World} {K : PySem.W.Frag} {mg : Str → Option Value} {base : Heap}
theorem sc_isLst : FnScope ["value"] ["value"] (defScope sIsLst) := ⟨rfl, rfl, rfl, by decide +kernel, rfl, by decide +kernel, by decide +kernel⟩
theorem ok_isLst {f : Addr} {fd : FuncData} (F : Fun K "is_list" "is_list" sIsLst f fd) (B : Bl mg) : FnOk P w K mg base CX0 1 f fd ["value"] (spIsLst1 K) := by
  refine F.ok sc_isLst (fun vs H Q E h => ?_) (fun cdv A outer s H vs Q E hr h => ?_)
  · obtain ⟨i, _, rfl, _⟩ := h
    rfl
  · obtain ⟨a, xs, rfl, ha, q⟩ := h
    refine ⟨_, pss_one (ps_ret (pe_callB call_isiT (by rfl) B.isi PyProof.Rows.boot_isinstance (pa_cons (pv 0) (pa_cons
      (pe_tup (pa_cons (pe_bltn (v := .ty "list") (by rfl) B.list PyProof.Rows.boot_list rfl) (pa_cons (pe_bltn (v := .ty "tuple") (by rfl) B.tuple PySem.Pv.boot_tuple rfl) pa_nil))) pa_nil)))), ?_⟩
    refine ⟨_, rfl, szle (by decide), fun p hp => ?_⟩
    refine ⟨_, p, [.ty "list", .ty "tuple"], _, [.type "list", .type "tuple"], true, rfl, upd_same, .cons (.ty _) (.cons (.ty _) .nil), tyx_l (same_l (same_new hp) ha), kit_lt, ?_⟩
    exact q _ (same_new hp)

theorem sc_isPair : FnScope ["size", "value", "thing"] ["size", "value"] (defScope sIsPair) := ⟨rfl, rfl, rfl, by decide +kernel, rfl, by decide +kernel, by decide +kernel⟩
theorem ok_isPair {f f1 f2 f3 : Addr} {fd fd1 fd2 fd3 : FuncData} (F : Fun K "is_pair" "is_pair" sIsPair f fd) (D1 : Df K mg "is_integer" sIsInt ["value"] f1 fd1) (D2 : Df K mg "is_count" sIsCnt ["value"] f2 fd2)
    (D3 : Df K mg "is_thing" sIsThg ["size", "value"] f3 fd3) (B : Bl mg) : FnOk P w K mg base CX0 4 f fd ["size", "value"] (spIsPair K) := by
  have G3 : FnOk P w K mg base CX0 3 f3 fd3 ["size", "value"] spIsThg := ok_isThg D3.F D1 D2 B
  refine F.ok sc_isPair (fun vs H Q E h => ?_) (fun cdv A outer s H vs Q E hr h => ?_)
  · obtain ⟨n, i, j, t, rfl, _⟩ := h
    rfl
  · obtain ⟨n, i, j, t, rfl, ht, i0, i1, j0, j1, hne, q⟩ := h
    refine ⟨_, pss_cons (ps_if (PW.pt (pw_or (pt_not (pt_val (pe_callB call_isi (by rfl) B.isi PyProof.Rows.boot_isinstance (pa_cons (pv 1) (pa_cons (pe_bltn (v := .ty "tuple") (by rfl) B.tuple PySem.Pv.boot_tuple rfl) pa_nil)))))
        (pw_or1 (pt_cmpR op_ne (pe_callB call_len_seq (by rfl) B.len PySem.boot_len (pa_cons (pv 1) pa_nil)) pe_int (nomark _))))) (pss_one (ps_ret pe_bl)) pss_nil)
      (pss_one (ps_ret (pe_and (pe_callB (cr_all rfl) (by rfl) B.all PyProof.Rows.boot_all (pa_cons
          (pe_lc (own := [("thing", 2)]) (g := gName 2) (tt := tYes) rfl sc_isPair.nd (pi_tup (pv 1)) (blkOk_by (N := ["size", "value", "thing"]) (sc := defScope sIsPair) (by decide +kernel))
            (fun _ _ _ _ _ => pg_name (i := 2) sc_isPair.nd rfl (Or.inl rfl)) (fun _ _ _ _ _ => pts_nil)
            (fun _ _ _ _ _ => pe_call G3 hr rfl D3.g D3.F.kp D3.b .nil pass0 (pa_cons (pv 0) (pa_cons (pv 2) pa_nil)))) pa_nil))
        (pe_one (pe_cmpR op_ne (pe_ix ix_tup (pv 1) pe_int (fun _ _ => rfl)) (pe_ix ix_tup (pv 1) pe_int (fun _ _ => rfl)) (nomark _)))))), ?_⟩
    refine ⟨_, rfl, _, _, _, _, true, rfl, .ty _, tyx_t ht, kit_ty (by decide +kernel), true, rfl, iteF ?_⟩
    refine ⟨_, rfl, t, _, rfl, .inr ht, rfl, false, (by show V.bl (!decide (V.int 2 = V.int 2)) = V.bl false; decide), iteF ?_⟩
    refine ⟨_, rfl, t, rfl, ⟨_, ht⟩, fun D hD => ?_⟩
    refine lc_tup (xs := [.int i, .int j]) (LcP H D fun k => (List.replicate k (.bl true))) (lcp_0 hD rfl) (fun k H1 _ p => same_t p.1 ht) ?_ ?_
    · intro k x H1 hx p
      have hk : k < 2 := lt_of_at hx
      obtain ⟨m, rfl, m0, m1⟩ : ∃ m, x = V.int m ∧ 0 ≤ m ∧ m < n := by
        match k, hk, hx with
        | 0, _, hx => exact ⟨i, (Option.some.inj hx).symm, i0, i1⟩
        | 1, _, hx => exact ⟨j, (Option.some.inj hx).symm, j0, j1⟩
      refine ⟨rfl, _, rfl, _, rfl, n, m, rfl, ?_⟩
      rw [decide_eq_true m0, decide_eq_true m1]
      exact lcp_put hD p (by simp [List.replicate_succ']) (by simp; omega)
    · intro H1 p
      refine ⟨D, [true, true], rfl, sl_of p.2, true, rfl, iteT ?_⟩
      have ht1 := same_t p.1 ht
      refine ⟨_, rfl, t, _, _, _, rfl, rfl, ht1, rfl, _, rfl, t, _, _, _, rfl, rfl, ht1, rfl, rfl, ?_⟩
      have e : (!decide (V.int i = V.int j)) = true := by
        simp [hne]
      rw [e]
      exact q H1 p.1
end
end Tk

namespace Tk
open PySem PySem.Spec PyProof.Rows L2

theorem dec_bl {i j : Int} : V.bl (decide (V.int i = V.int j)) = V.bl (decide (i = j)) := by simp
theorem pl_ks {K : PySem.W.Frag} {H : Hp} : ∀ {ps : List (Int × Int)} {xs : List V}, DpAll K H xs (ps.map dP) → ∃ ks : List (Addr × List Int), xs = ks.map (fun p => V.ref p.1) ∧ ks.map (·.2) = ps.map (fun p => [p.1, p.2]) ∧ ∀ p ∈ ks, SqT K H p.1 (p.2.map V.int)
  | [], _, h => by cases h; exact ⟨[], rfl, rfl, fun p hp => nomatch hp⟩
  | p :: ps, _, h => by
    cases h with
    | cons h1 h2 =>
      obtain ⟨t, rfl, ht⟩ := dP_inv h1
      obtain ⟨ks, rfl, e2, h3⟩ := pl_ks h2
      refine ⟨(t, [p.1, p.2]) :: ks, rfl, by simp [e2], ?_⟩
      intro q hq
      rcases List.mem_cons.mp hq with rfl | hq
      · exact ht
      · exact h3 q hq
theorem prs_ks {n : Int} {ps : List (Int × Int)} (h : Prs n ps) {ks : List (Addr × List Int)} (e : ks.map (·.2) = ps.map (fun p => [p.1, p.2])) : (ks.map (·.2)).Nodup ∧ ks.length < 60 := by
  constructor
  · rw [e]
    show List.Pairwise _ _
    rw [List.pairwise_map]
    refine List.Pairwise.imp (fun {a b} hne q => hne ?_) h.1
    simp at q
    exact Prod.ext q.1 q.2
  · have := congrArg List.length e
    simp at this
    rw [this]
    exact h.2.1
theorem inV_int (i : Int) : ∀ l : List Int, inV (.int i) (l.map V.int) = decide (i ∈ l)
  | [] => by simp [inV]
  | x :: l => by
    have ih := inV_int i l
    unfold inV at ih ⊢
    rw [List.map_cons, List.any_cons, ih]
    have e : eqV (.int x) (.int i) = decide (i = x) := by
      show (x == i) = decide (i = x)
      by_cases h : x = i
      · subst h; simp
      · have h' : ¬ i = x := fun e => h e.symm
        simp [h, h']
    rw [e]
    simp [List.mem_cons]
theorem flat_ints (l : List Int) : (l.map V.int).all flatV = true := by
  rw [List.all_map]
  exact List.all_eq_true.mpr fun x _ => rfl
theorem in_bl {i : Int} {l : List Int} : V.bl (if false = true then !inV (.int i) (l.map V.int) else inV (.int i) (l.map V.int)) = V.bl (decide (i ∈ l)) := by
  rw [← inV_int]; rfl
theorem notin_bl {i : Int} {l : List Int} : V.bl (if true = true then !inV (.int i) (l.map V.int) else inV (.int i) (l.map V.int)) = V.bl (!decide (i ∈ l)) := by
  rw [← inV_int]; rfl

def spOrdOf (K : PySem.W.Frag) : Sp := fun vs H Q _ => ∃ (n : Nat) (a : Addr) (ps : List (Int × Int)), vs = [.int n, .ref a] ∧ PL K H a ps ∧ n ≤ 60 ∧ Prs n ps ∧ Acy ps ∧
  ∀ H' p o, Same H H' → H p = none → H' p = some (.lst (o.map V.int)) → Topo n ps o → Q (.ref p) H'
section
variable {P : Program} {w : World} {K : PySem.W.Frag} {mg : Str → Option Value} {base : Heap}
theorem sc_arePairs : FnScope ["size", "value", "pair"] ["size", "value"] (defScope sArePairs) := ⟨rfl, rfl, rfl, by decide +kernel, rfl, by decide +kernel, by decide +kernel⟩
theorem ok_arePairs {f f1 f2 f3 f4 f5 : Addr} {fd fd1 fd2 fd3 fd4 fd5 : FuncData} (F : Fun K "are_pairs" "are_pairs" sArePairs f fd) (D1 : Df K mg "is_integer" sIsInt ["value"] f1 fd1) (D2 : Df K mg "is_count" sIsCnt ["value"] f2 fd2)
    (D3 : Df K mg "is_thing" sIsThg ["size", "value"] f3 fd3) (D4 : Df K mg "is_pair" sIsPair ["size", "value"] f4 fd4) (D5 : Df K mg "is_list" sIsLst ["value"] f5 fd5) (B : Bl mg) : FnOk P w K mg base CX0 5 f fd ["size", "value"] (spArePairs K) := by
  have G4 : FnOk P w K mg base CX0 4 f4 fd4 ["size", "value"] (spIsPair K) := ok_isPair D4.F D1 D2 D3 B
  have G5 : FnOk P w K mg base CX0 1 f5 fd5 ["value"] (spIsLst1 K) := ok_isLst D5.F B
  refine F.ok sc_arePairs (fun vs H Q E h => ?_) (fun cdv A outer s H vs Q E hr h => ?_)
  · obtain ⟨n, a, ps, rfl, _⟩ := h
    rfl
  · obtain ⟨n, a, ps, rfl, ⟨xs, hxs, hd⟩, hps, q⟩ := h
    refine ⟨_, pss_cons (ps_if (PW.pt (pw_or (pt_not (pt_val (pe_call G5 (hr.mono (by decide)) rfl D5.g D5.F.kp D5.b .nil pass0 (pa_cons (pv 1) pa_nil))))
        (pw_or1 (pt_not (pt_val (pe_callB (cr_all rfl) (by rfl) B.all PyProof.Rows.boot_all (pa_cons
          (pe_lc (own := [("pair", 2)]) (g := gName 2) (tt := tYes) rfl sc_arePairs.nd (pi_list (pv 1)) (blkOk_by (N := ["size", "value", "pair"]) (sc := defScope sArePairs) (by decide +kernel))
            (fun _ _ _ _ _ => pg_name (i := 2) sc_arePairs.nd rfl (Or.inl rfl)) (fun _ _ _ _ _ => pts_nil)
            (fun _ _ _ _ _ => pe_call G4 hr rfl D4.g D4.F.kp D4.b .nil pass0 (pa_cons (pv 0) (pa_cons (pv 2) pa_nil)))) pa_nil))))))) (pss_one (ps_ret pe_bl)) pss_nil)
      (pss_one (ps_ret (pe_cmpR op_eq (pe_callB call_lenSetT (by rfl) B.len PySem.boot_len (pa_cons (pe_callTy (cr_setOfT rfl hr.units) (by rfl) B.set PySem.Pv.boot_set (pa_cons (pv 1) pa_nil)) pa_nil))
        (pe_callB call_len_seq (by rfl) B.len PySem.boot_len (pa_cons (pv 1) pa_nil)) (nomark _)))), ?_⟩
    refine ⟨_, rfl, a, xs, rfl, hxs, fun H1 s1 => ⟨true, rfl, iteF ?_⟩⟩
    refine ⟨_, rfl, a, rfl, ⟨xs, same_l s1 hxs⟩, fun D hD => ?_⟩
    refine lc_list (xs := xs) (LcP H1 D fun k => (List.replicate k (.bl true))) (lcp_0 hD rfl) (fun k H2 _ p => same_l (s1.trans p.1) hxs) ?_ ?_
    · intro k x H2 hx p
      have hk := lt_of_at hx
      have hl : xs.length = ps.length := by rw [dps_len hd, List.length_map]
      obtain ⟨⟨i, j⟩, t, hpk, rfl, ht⟩ := pl_at (dps_s hd (s1.trans p.1)) hx
      obtain ⟨i0, i1, j0, j1, ne⟩ := hps.2.2 (i, j) (List.mem_of_getElem? hpk)
      refine ⟨rfl, _, rfl, _, rfl, n, i, j, t, rfl, ht, i0, i1, j0, j1, ne, fun H3 s3 => ?_⟩
      exact lcp_put hD (lcp_s p s3) (by simp [List.replicate_succ']) (by have := hps.2.1; simp; omega)
    · intro H2 p
      refine ⟨D, List.replicate xs.length true, rfl, sl_of (by rw [List.map_replicate]; exact p.2), true, ?_, iteF ?_⟩
      · congr 1
        exact List.all_eq_true.mpr fun b hb => (List.mem_replicate.mp hb).2
      obtain ⟨ks, rfl, e2, h3⟩ := pl_ks (dps_s hd (s1.trans p.1))
      obtain ⟨nd, few⟩ := prs_ks hps e2
      refine ⟨_, rfl, a, ks, rfl, same_l (s1.trans p.1) hxs, h3, by omega, fun c L hc hs hall => ?_⟩
      refine ⟨c, L, rfl, upd_same, fun z hz => same_t (same_new hc) (h3 z (hs z hz)), fun hn => ?_⟩
      have el : L.length = ks.length := by
        have := nodup_eq hn nd (fun y => ⟨fun hy => by
          obtain ⟨z, hz, rfl⟩ := List.mem_map.mp hy
          exact List.mem_map.mpr ⟨z, hs z hz, rfl⟩, fun hy => by
          obtain ⟨z, hz, rfl⟩ := List.mem_map.mp hy
          exact hall z hz⟩)
        simpa using this
      refine ⟨_, rfl, a, _, rfl, .inl (same_l (same_new hc) (same_l (s1.trans p.1) hxs)), rfl, ?_⟩
      rw [el, List.length_map, decide_eq_true rfl]
      exact q _ ((s1.trans p.1).trans (same_new hc))
end
end Tk

namespace Tk
open PySem PySem.Spec PyProof.Rows L2
theorem at0 {x : Int} {l : List Int} : atI ((x :: l).map V.int) (0 : Int) = some (V.int x) := atI_nat (j := 0) rfl
theorem rgV_things (n : Nat) : rgV 0 (n : Int) = (things n).map V.int := by
  unfold rgV things
  rw [List.map_map]
  have e : ((n : Int) - 0).toNat = n := by omega
  rw [e]
  refine List.map_congr_left fun k _ => ?_
  show V.int (0 + (k : Int)) = V.int (Int.ofNat k)
  rw [Int.zero_add]; rfl
theorem pushed_take {ps : List (Int × Int)} {l : List Int} {i : Nat} {p : Int × Int} (h : ps[i]? = some p) :
    (pushedL (ps.take (i + 1)) l) = if p.1 ∈ l then pushedL (ps.take i) l ++ [p.2] else pushedL (ps.take i) l := by
  unfold pushedL
  rw [take_at h, List.filter_append, List.map_append]
  by_cases c : p.1 ∈ l
  · simp [c]
  · simp [c]
theorem filter_take {l : List Int} {f : Int → Bool} {i : Nat} {x : Int} (h : l[i]? = some x) : (l.take (i + 1)).filter f = if f x = true then (l.take i).filter f ++ [x] else (l.take i).filter f := by
  rw [take_at h, List.filter_append]
  by_cases c : f x = true
  · simp [c]
  · simp [c]
theorem take_all {α : Type} {l : List α} {n : Nat} (h : l.length = n) : l.take n = l := by rw [← h, List.take_length]
theorem erase_ix {l : List Int} {x : Int} (hx : x ∈ l) : ∃ j : Nat, l[j]? = some x ∧ (∀ m : Nat, m < j → l[m]? ≠ some x) ∧ l.eraseIdx j = l.erase x := by
  induction l with
  | nil => exact nomatch hx
  | cons y l ih =>
    by_cases e : y = x
    · subst e
      exact ⟨0, by simp, fun m hm => by omega, by simp⟩
    · have hx' : x ∈ l := by
        rcases List.mem_cons.mp hx with q | q
        · exact absurd q.symm e
        · exact q
      obtain ⟨j, h1, h2, h3⟩ := ih hx'
      refine ⟨j + 1, by simpa using h1, ?_, ?_⟩
      · intro m hm
        cases m with
        | zero => simp [e]
        | succ m => simpa using h2 m (by omega)
      · have e' : (y == x) = false := by simpa using e
        simp [List.erase_cons, e', h3]
section
variable {P : Program} {w : World} {K : PySem.W.Frag} {mg : Str → Option Value} {base : Heap}
abbrev nOrd : List Str := ["size", "arrows", "order", "left", "pushed", "free", "start", "end", "thing"]
theorem sc_ordOf : FnScope nOrd ["size", "arrows"] (defScope sOrdOf) := ⟨rfl, rfl, rfl, by decide +kernel, rfl, by decide +kernel, by decide +kernel⟩
theorem ok_ordOf {f : Addr} {fd : FuncData} (F : Fun K "order_of" "order_of" sOrdOf f fd) (B : Bl mg) : FnOk P w K mg base CX0 1 f fd ["size", "arrows"] (spOrdOf K) := by
  refine F.ok sc_ordOf (fun vs H Q E h => ?_) (fun cdv A outer s H vs Q E hr h => ?_)
  · obtain ⟨n, a, ps, rfl, _⟩ := h
    rfl
  · obtain ⟨n, a, ps, rfl, ⟨xs, hxs, hd⟩, hn, hps, hac, q⟩ := h
    refine ⟨_, pss_cons (ps_asg (pe_tup (pa_cons (pe_lst pa_nil) (pa_cons (pe_listRg rfl (by rfl) B.list (prg_1 (by rfl) B.range (pv 0))) pa_nil)))
        (pg_tup rfl (pgs_cons (pg_name (i := 2) sc_ordOf.nd rfl (Or.inl rfl)) (pgs_cons (pg_name (i := 3) sc_ordOf.nd rfl (Or.inr rfl)) pgs_nil))))
      (pss_cons (ps_while PassesOwn.never (pt_truth (pv 3) (fun _ => rfl))
        (pss_cons (ps_set (i := 4) sc_ordOf.nd rfl (Or.inr rfl)
          (pe_lc (own := [("start", 6), ("end", 7)]) (g := gTup K 2 (gCons (gName 6) (gCons (gName 7) gNil))) (tt := tTest (tOp (rIn K false) (tVar 6) (tVar 3))) rfl sc_ordOf.nd (pi_list (pv 1)) (blkOk_by (N := nOrd) (sc := defScope sOrdOf) (by decide +kernel))
            (fun _ _ _ _ _ => pg_tup rfl (pgs_cons (pg_name (i := 6) sc_ordOf.nd rfl (Or.inl rfl)) (pgs_cons (pg_name (i := 7) sc_ordOf.nd rfl (Or.inl rfl)) pgs_nil)))
            (fun _ _ _ _ _ => pts_one (pt_cmpR op_in_seq (pv 6) (pv 3) (by rfl)))
            (fun _ _ _ _ _ => pv 7)))
        (pss_cons (ps_setLc (i := 5) (own := [("thing", 8)]) (g := gName 8) (tt := tTest (tOp (rIn K true) (tVar 8) (tVar 4))) rfl sc_ordOf.nd rfl rfl (sw_true rfl rfl rfl (by decide +kernel)) (pi_list (pv 3)) (blkOk_by (N := nOrd) (sc := defScope sOrdOf) (by decide +kernel))
            (fun _ _ _ _ _ => pg_name (i := 8) sc_ordOf.nd rfl (Or.inl rfl))
            (fun _ _ _ _ _ => pts_one (pt_cmpR op_notIn_seq (pv 8) (pv 4) (by rfl)))
            (fun _ _ _ _ _ => pv 8))
        (pss_cons (ps_if (pt_not (pt_truth (pv 5) (fun _ => rfl))) (pss_one (ps_ret (pv 2))) pss_nil)
        (pss_cons (ps_expr (pe_bm PySem.F.plainAttrs_list PySem.F.slot_list_append PySem.F.type_list_append mt_append (pv 2) (pa_cons (pe_ix ix_list (pv 5) pe_int (fun _ _ => rfl)) pa_nil)))
        (pss_one (ps_expr (pe_bm PySem.F.plainAttrs_list PySem.F.slot_list_remove PySem.F.type_list_remove mt_remove (pv 3) (pa_cons (pe_ix ix_list (pv 5) pe_int (fun _ _ => rfl)) pa_nil)))))))))
      (pss_one (ps_ret (pv 2)))), ?_⟩
    have hl : xs.length = ps.length := by rw [dps_len hd, List.length_map]
    -- order, left = ([], list(range(size)))
    refine ⟨szle (by decide), fun po hpo => ?_⟩
    refine ⟨_, rfl, n, rfl, RgOk.of_le (by omega) (by omega) (by omega) (by omega), fun pl hpl => ⟨szle (by show 2 ≤ 100000; decide), fun pt hpt => ?_⟩⟩
    have npl : po ≠ pl := fun e => by rw [e, upd_same] at hpl; cases hpl
    have hpl0 : H pl = none := by rw [upd_ne npl.symm] at hpl; exact hpl
    have npt : pt ≠ po ∧ pt ≠ pl := ⟨(fun e => by rw [e, upd_ne npl, upd_same] at hpt; cases hpt), (fun e => by rw [e, upd_same] at hpt; cases hpt)⟩
    refine ⟨pt, _, rfl, st_of upd_same, rfl, _, _, rfl, _, _, rfl, rfl, ?_⟩
    refine ⟨fun m σ H1 => ∃ o l v4 v5 v6 v7 v8, σ = [some (V.int n), some (V.ref a), some (V.ref po), some (V.ref pl), v4, v5, v6, v7, v8] ∧ Same H H1 ∧ H1 po = some (.lst (o.map V.int)) ∧ H1 pl = some (.lst (l.map V.int)) ∧ OInv n ps o l ∧ l.length = m,
      ⟨n, [], things n, none, none, none, none, none, rfl, ?_, ?_, ?_, oinv_0 n ps, things_len n⟩, ?_⟩
    · exact ((same_new hpo).trans (same_new hpl)).trans (same_new hpt)
    · rw [upd_ne npt.1.symm, upd_ne npl, upd_same]; rfl
    · rw [upd_ne npt.2.symm, upd_same, rgV_things]
    rintro m σ H1 ⟨o, l, v4, v5, v6, v7, v8, rfl, s1, ho, hll, inv, rfl⟩
    refine ⟨_, rfl, _, .inl ⟨_, sl_of hll, rfl⟩, ?_⟩
    cases l with
    | nil =>
      exact ⟨_, rfl, q H1 po o s1 hpo ho (oinv_end inv)⟩
    | cons y l0 =>
      generalize hL : y :: l0 = l at *
      have lne : l ≠ [] := by rw [← hL]; simp
      have lem : (!(l.map V.int).isEmpty) = true := by rw [← hL]; rfl
      rw [lem]
      refine ⟨_, fun σ' H' z => z, ?_⟩
      -- pushed
      refine ⟨_, rfl, a, rfl, ⟨xs, same_l s1 hxs⟩, fun D hD => ?_⟩
      refine lc_list (xs := xs) (LcP H1 D fun k => (pushedL (ps.take k) l).map V.int) (lcp_0 hD rfl) (fun k H2 _ p => same_l (s1.trans p.1) hxs) ?_ ?_
      · intro k x H2 hx p
        obtain ⟨⟨i, j⟩, t, hpk, rfl, ht⟩ := pl_at (dps_s hd (s1.trans p.1)) hx
        have short : ((pushedL (ps.take k) l).map V.int).length < 100000 := by
          have h1 := hps.2.1
          have h2 : (pushedL (ps.take k) l).length ≤ (ps.take k).length := by unfold pushedL; rw [List.length_map]; exact List.length_filter_le ..
          rw [List.length_take] at h2
          rw [List.length_map]; omega
        refine ⟨t, _, rfl, ht, rfl, _, _, rfl, _, _, rfl, rfl, rfl, _, rfl, _, rfl, pl, _, rfl, .inl (sl_of (p.1 _ _ hll)), rfl, flat_ints l, _, in_bl, ?_⟩
        have et := pushed_take (l := l) hpk
        by_cases c : i ∈ l
        · rw [decide_eq_true c]
          refine ⟨_, rfl, ?_⟩
          refine lcp_put hD p ?_ short
          rw [et, if_pos c, List.map_append]; rfl
        · rw [decide_eq_false c]
          refine iteF (lcp_no p ?_)
          rw [et, if_neg c]
      · intro H2 p
        have hD2 : H2 D = some (.lst ((pushedL (ps.take xs.length) l).map V.int)) := p.2
        rw [take_all hl.symm] at hD2
        have s2 : Same H1 H2 := p.1
        have hDn : H D = none := s1.free hD
        -- free
        refine ⟨_, rfl, pl, rfl, ⟨_, sl_of (s2 _ _ hll)⟩, fun G hG => ?_⟩
        refine lc_list (xs := l.map V.int) (LcP H2 G fun k => ((l.take k).filter fun x => !decide (x ∈ pushedL ps l)).map V.int) (lcp_0 hG rfl) (fun k H3 _ p3 => sl_of (p3.1 _ _ (s2 _ _ hll))) ?_ ?_
        · intro k x H3 hx p3
          obtain ⟨z, hz, rfl⟩ := int_at hx
          have et := filter_take (f := fun x => !decide (x ∈ pushedL ps l)) hz
          have short : (((l.take k).filter fun x => !decide (x ∈ pushedL ps l)).map V.int).length < 100000 := by
            have h2 : ((l.take k).filter fun x => !decide (x ∈ pushedL ps l)).length ≤ (l.take k).length := List.length_filter_le ..
            have h3 := nodup_le inv.nl (fun x hx => (inv.al x).mpr (.inr hx))
            rw [things_len] at h3
            rw [List.length_take] at h2
            rw [List.length_map]; omega
          refine ⟨rfl, _, rfl, _, rfl, D, _, rfl, .inl (sl_of (p3.1 _ _ hD2)), rfl, flat_ints _, _, notin_bl, ?_⟩
          by_cases c : z ∈ pushedL ps l
          · rw [decide_eq_true c]
            refine iteF (lcp_no p3 ?_)
            rw [et, if_neg (by simp [c])]
          · rw [decide_eq_false c]
            refine ⟨_, rfl, ?_⟩
            refine lcp_put hG p3 ?_ short
            rw [et, if_pos (by simp [c]), List.map_append]; rfl
        · intro H3 p3
          have hG3 : H3 G = some (.lst (((l.take (l.map V.int).length).filter fun x => !decide (x ∈ pushedL ps l)).map V.int)) := p3.2
          rw [take_all (by simp)] at hG3
          have s3 : Same H2 H3 := p3.1
          have eF : (l.filter fun x => !decide (x ∈ pushedL ps l)) = freeL ps l := rfl
          rw [eF] at hG3
          have fne := freeL_ne hac lne
          obtain ⟨x, fr, hfr⟩ : ∃ x fr, freeL ps l = x :: fr := by
            cases e : freeL ps l with
            | nil => exact absurd e fne
            | cons x fr => exact ⟨x, fr, rfl⟩
          have hxf : x ∈ freeL ps l := by rw [hfr]; exact List.mem_cons_self ..
          rw [hfr] at hG3
          refine ⟨_, rfl, _, .inl ⟨_, sl_of hG3, rfl⟩, iteF ?_⟩
          have ho3 : H3 po = some (.lst (o.map V.int)) := s3 _ _ (s2 _ _ ho)
          have hl3 : H3 pl = some (.lst (l.map V.int)) := s3 _ _ (s2 _ _ hll)
          have nG : H1 G = none := s2.free hG
          have nGo : G ≠ po := fun e => by rw [e, ho] at nG; cases nG
          have nGl : G ≠ pl := fun e => by rw [e, hll] at nG; cases nG
          have olen : (o.map V.int).length < 100000 := by
            have h3 := nodup_le inv.no (fun x hx => (inv.al x).mpr (.inl hx))
            rw [things_len] at h3
            rw [List.length_map]; omega
          refine ⟨_, rfl, .inl ⟨rfl, _, sl_of ho3⟩, _, rfl, G, _, _, _, rfl, rfl, sl_of hG3, at0, po, _, _, rfl, rfl, ho3, szlt olen, ?_⟩
          have hl4 : (upd H3 po (.lst (o.map V.int ++ [V.int x]))) pl = some (.lst (l.map V.int)) := by rw [upd_ne npl.symm]; exact hl3
          obtain ⟨j, hj1, hj2, hj3⟩ := erase_ix (mem_freeL.mp hxf).1
          refine ⟨_, rfl, .inl ⟨rfl, _, sl_of hl4⟩, _, rfl, G, _, _, _, rfl, rfl, sl_of (by rw [upd_ne nGo]; exact hG3), at0, pl, l, x, j, rfl, rfl, hl4, hj1, hj2, ?_⟩
          refine ⟨(l.erase x).length, ?_, o ++ [x], l.erase x, _, _, _, _, _, rfl, ?_, ?_, ?_, oinv_step inv (fun p hp => mem_things.mpr ⟨(hps.2.2 p hp).1, (hps.2.2 p hp).2.1⟩) hxf, rfl⟩
          · have := List.length_erase_of_mem (mem_freeL.mp hxf).1
            have hp : 0 < l.length := List.length_pos_of_mem (mem_freeL.mp hxf).1
            omega
          · exact same_mut (same_mut (s1.trans (s2.trans s3)) hpo) hpl0
          · rw [upd_ne npl, upd_same, List.map_append]; rfl
          · rw [upd_same, hj3]
end
end Tk

namespace Tk
open PySem PySem.Spec PyProof.Rows L2
def spAreArr (K : PySem.W.Frag) : Sp := fun vs H Q _ => ∃ (n : Nat) (a : Addr) (ps : List (Int × Int)), vs = [.int n, .ref a] ∧ PL K H a ps ∧ n ≤ 60 ∧ Prs n ps ∧ Acy ps ∧ ∀ H', Same H H' → Q (.bl true) H'
def spAreTies (K : PySem.W.Frag) : Sp := fun vs H Q _ => ∃ (n : Int) (a : Addr) (ps : List (Int × Int)), vs = [.int n, .ref a] ∧ PL K H a ps ∧ Prs n ps ∧ (∀ p ∈ ps, p.1 < p.2) ∧ ∀ H', Same H H' → Q (.bl true) H'
def spIsSize : Sp := fun vs H Q _ => ∃ i : Int, vs = [.int i] ∧ Q (.bl (decide (0 ≤ i) && decide (i ≤ 6))) H
def spChkSize : Sp := fun vs H Q _ => ∃ i : Int, vs = [.int i] ∧ 0 ≤ i ∧ i ≤ 6 ∧ Q .non H
section
variable {P : Program} {w : World} {K : PySem.W.Frag} {mg : Str → Option Value} {base : Heap}
theorem sc_areArr : FnScope ["size", "value"] ["size", "value"] (defScope sAreArr) := ⟨rfl, rfl, rfl, by decide +kernel, rfl, by decide +kernel, by decide +kernel⟩
theorem ok_areArr {f f5 f6 : Addr} {fd fd5 fd6 : FuncData} (F : Fun K "are_arrows" "are_arrows" sAreArr f fd) (D5 : Df K mg "are_pairs" sArePairs ["size", "value"] f5 fd5) (G5 : FnOk P w K mg base CX0 5 f5 fd5 ["size", "value"] (spArePairs K))
    (D6 : Df K mg "order_of" sOrdOf ["size", "arrows"] f6 fd6) (B : Bl mg) : FnOk P w K mg base CX0 6 f fd ["size", "value"] (spAreArr K) := by
  have G6 : FnOk P w K mg base CX0 1 f6 fd6 ["size", "arrows"] (spOrdOf K) := ok_ordOf D6.F B
  refine F.ok sc_areArr (fun vs H Q E h => ?_) (fun cdv A outer s H vs Q E hr h => ?_)
  · obtain ⟨n, a, ps, rfl, _⟩ := h
    rfl
  · obtain ⟨n, a, ps, rfl, hp, hn, hps, hac, q⟩ := h
    refine ⟨_, pss_one (ps_ret (pe_and (pe_call G5 hr rfl D5.g D5.F.kp D5.b .nil pass0 (pa_cons (pv 0) (pa_cons (pv 1) pa_nil)))
      (pe_one (pe_cmpR op_eq (pe_callB call_len_seq (by rfl) B.len PySem.boot_len (pa_cons (pe_call G6 (hr.mono (by decide)) rfl D6.g D6.F.kp D6.b .nil pass0 (pa_cons (pv 0) (pa_cons (pv 1) pa_nil))) pa_nil)) (pv 0) (nomark _))))), ?_⟩
    refine ⟨_, rfl, _, rfl, n, a, ps, rfl, hp, hps, fun H1 s1 => ⟨true, rfl, iteT ?_⟩⟩
    refine ⟨_, rfl, _, rfl, n, a, ps, rfl, pl_s hp s1, hn, hps, hac, fun H2 p o s2 hp0 hp2 ht => ?_⟩
    refine ⟨p, _, rfl, .inl (sl_of hp2), _, rfl, rfl, ?_⟩
    rw [List.length_map, topo_len ht, decide_eq_true rfl]
    exact q H2 (s1.trans s2)
theorem sc_areTies : FnScope ["size", "value", "low", "high"] ["size", "value"] (defScope sAreTies) := ⟨rfl, rfl, rfl, by decide +kernel, rfl, by decide +kernel, by decide +kernel⟩
theorem ok_areTies {f f5 : Addr} {fd fd5 : FuncData} (F : Fun K "are_ties" "are_ties" sAreTies f fd) (D5 : Df K mg "are_pairs" sArePairs ["size", "value"] f5 fd5) (G5 : FnOk P w K mg base CX0 5 f5 fd5 ["size", "value"] (spArePairs K))
    (B : Bl mg) : FnOk P w K mg base CX0 6 f fd ["size", "value"] (spAreTies K) := by
  refine F.ok sc_areTies (fun vs H Q E h => ?_) (fun cdv A outer s H vs Q E hr h => ?_)
  · obtain ⟨n, a, ps, rfl, _⟩ := h
    rfl
  · obtain ⟨n, a, ps, rfl, hp, hps, hlt, q⟩ := h
    refine ⟨_, pss_one (ps_ret (pe_and (pe_call G5 hr rfl D5.g D5.F.kp D5.b .nil pass0 (pa_cons (pv 0) (pa_cons (pv 1) pa_nil)))
      (pe_one (pe_callB (cr_all rfl) (by rfl) B.all PyProof.Rows.boot_all (pa_cons
          (pe_lc (own := [("low", 2), ("high", 3)]) (g := gTup K 2 (gCons (gName 2) (gCons (gName 3) gNil))) (tt := tYes) rfl sc_areTies.nd (pi_list (pv 1)) (blkOk_by (N := ["size", "value", "low", "high"]) (sc := defScope sAreTies) (by decide +kernel))
            (fun _ _ _ _ _ => pg_tup rfl (pgs_cons (pg_name (i := 2) sc_areTies.nd rfl (Or.inl rfl)) (pgs_cons (pg_name (i := 3) sc_areTies.nd rfl (Or.inl rfl)) pgs_nil))) (fun _ _ _ _ _ => pts_nil)
            (fun _ _ _ _ _ => pe_cmpR op_lt (pv 2) (pv 3) (nomark _))) pa_nil))))), ?_⟩
    refine ⟨_, rfl, _, rfl, n, a, ps, rfl, hp, hps, fun H1 s1 => ⟨true, rfl, iteT ?_⟩⟩
    obtain ⟨xs, hxs, hd⟩ := pl_s hp s1
    refine ⟨_, rfl, a, rfl, ⟨xs, hxs⟩, fun D hD => ?_⟩
    refine lc_list (xs := xs) (LcP H1 D fun k => (List.replicate k (.bl true))) (lcp_0 hD rfl) (fun k H2 _ p => same_l p.1 hxs) ?_ ?_
    · intro k x H2 hx p
      have hk := lt_of_at hx
      have hl : xs.length = ps.length := by rw [dps_len hd, List.length_map]
      obtain ⟨⟨i, j⟩, t, hpk, rfl, ht⟩ := pl_at (dps_s hd p.1) hx
      have hij := hlt (i, j) (List.mem_of_getElem? hpk)
      refine ⟨t, _, rfl, ht, rfl, _, _, rfl, _, _, rfl, rfl, rfl, _, rfl, _, rfl, _, _, rfl, rfl, ?_⟩
      refine lcp_put (y := V.bl (decide ((i, j).fst < (i, j).snd))) hD p ?_ (by have := hps.2.1; simp; omega)
      rw [decide_eq_true hij]
      simp [List.replicate_succ']
    · intro H2 p
      refine ⟨D, List.replicate xs.length true, rfl, sl_of (by rw [List.map_replicate]; exact p.2), ?_⟩
      have e : (List.replicate xs.length true).all id = true := List.all_eq_true.mpr fun b hb => (List.mem_replicate.mp hb).2
      rw [e]
      exact q H2 (s1.trans p.1)
theorem sc_isSize : FnScope ["value"] ["value"] (defScope sIsSize) := ⟨rfl, rfl, rfl, by decide +kernel, rfl, by decide +kernel, by decide +kernel⟩
theorem ok_isSize {f f1 f2 : Addr} {fd fd1 fd2 : FuncData} {tk : Tok} (F : Fun K "is_size" "is_size" sIsSize f fd) (D1 : Df K mg "is_integer" sIsInt ["value"] f1 fd1) (D2 : Df K mg "is_count" sIsCnt ["value"] f2 fd2)
    (hm : mg "MOST_THINGS" = some (.int 6 tk)) (B : Bl mg) : FnOk P w K mg base CX0 3 f fd ["value"] spIsSize := by
  have G2 : FnOk P w K mg base CX0 2 f2 fd2 ["value"] spIsCnt := ok_isCnt D2.F D1 B
  refine F.ok sc_isSize (fun vs H Q E h => ?_) (fun cdv A outer s H vs Q E hr h => ?_)
  · obtain ⟨i, rfl, _⟩ := h
    rfl
  · obtain ⟨i, rfl, q⟩ := h
    refine ⟨_, pss_one (ps_ret (pe_and (pe_call G2 hr rfl D2.g D2.F.kp D2.b .nil pass0 (pa_cons (pv 0) pa_nil)) (pe_one (pe_cmpR op_le (pv 0) (pe_glob (v := .int 6) rfl hm ⟨_, rfl⟩) (nomark _))))), ?_⟩
    refine ⟨_, rfl, i, rfl, _, rfl, ?_⟩
    by_cases h0 : 0 ≤ i
    · rw [decide_eq_true h0] at q ⊢
      rw [Bool.true_and] at q
      exact iteT ⟨_, rfl, _, _, rfl, rfl, q⟩
    · rw [decide_eq_false h0] at q ⊢
      exact iteF q
theorem sc_chkSize : FnScope ["size"] ["size"] (defScope sChkSize) := ⟨rfl, rfl, rfl, by decide +kernel, rfl, by decide +kernel, by decide +kernel⟩
theorem ok_chkSize {f f3 : Addr} {fd fd3 : FuncData} (F : Fun K "check_size" "check_size" sChkSize f fd) (D3 : Df K mg "is_size" sIsSize ["value"] f3 fd3) (G3 : FnOk P w K mg base CX0 3 f3 fd3 ["value"] spIsSize) :
    FnOk P w K mg base CX0 4 f fd ["size"] spChkSize := by
  refine F.ok sc_chkSize (fun vs H Q E h => ?_) (fun cdv A outer s H vs Q E hr h => ?_)
  · obtain ⟨i, rfl, _⟩ := h
    rfl
  · obtain ⟨i, rfl, h0, h1, q⟩ := h
    refine ⟨_, pss_one (ps_if (pt_not (pt_val (pe_call G3 hr rfl D3.g D3.F.kp D3.b .nil pass0 (pa_cons (pv 0) pa_nil)))) pss_never pss_nil), ?_⟩
    refine ⟨_, rfl, i, rfl, _, rfl, ?_⟩
    rw [decide_eq_true h0, decide_eq_true h1]
    exact iteF q
end
end Tk

namespace Tk
open PySem PySem.Spec PyProof.Rows L2
/-! ## Plan -/
theorem k_as : ¬ (("_arrows" : Str) = "_size") := by decide +kernel
theorem k_ts : ¬ (("_ties" : Str) = "_size") := by decide +kernel
theorem k_ta : ¬ (("_ties" : Str) = "_arrows") := by decide +kernel
theorem k_sa : ¬ (("_size" : Str) = "_arrows") := by decide +kernel
theorem k_st : ¬ (("_size" : Str) = "_ties") := by decide +kernel
theorem k_at : ¬ (("_arrows" : Str) = "_ties") := by decide +kernel
def pf (n : Int) (a t : Addr) : List (Str × V) := putF "_ties" (.ref t) (putF "_arrows" (.ref a) (putF "_size" (.int n) []))
theorem pf_size (n : Int) (a t : Addr) : (pf n a t).lookup ("_size" : Str) = some (.int n) := by
  unfold pf
  rw [lookup_putF, if_neg k_st, lookup_putF, if_neg k_sa, lookup_putF, if_pos rfl]
theorem pf_arr (n : Int) (a t : Addr) : (pf n a t).lookup ("_arrows" : Str) = some (.ref a) := by
  unfold pf
  rw [lookup_putF, if_neg k_at, lookup_putF, if_pos rfl]
theorem pf_ties (n : Int) (a t : Addr) : (pf n a t).lookup ("_ties" : Str) = some (.ref t) := by
  unfold pf
  rw [lookup_putF, if_pos rfl]
theorem pf_no (n : Int) (a t : Addr) {m : Str} (h1 : ¬ m = "_size") (h2 : ¬ m = "_arrows") (h3 : ¬ m = "_ties") : (pf n a t).lookup m = none := by
  unfold pf
  rw [lookup_putF, if_neg h3, lookup_putF, if_neg h2, lookup_putF, if_neg h1]
  all_goals rfl
theorem putF_len (f : Str) (v : V) : ∀ fs : List (Str × V), (putF f v fs).length ≤ fs.length + 1
  | [] => by simp [putF]
  | (g, x) :: r => by
    unfold putF
    split
    · simp
    · have := putF_len f v r
      simp; omega
/-- ps' is ps, sorted -/
def SortOf (ps ps' : List (Int × Int)) : Prop := ps'.Perm ps ∧ ps'.Pairwise fun p q => SrtO.lexB q p = false
/-- a Plan stands at p -/
structure PlanAt (K : PySem.W.Frag) (C : Addr) (H : Hp) (p : Addr) (n : Nat) (as ts : List (Int × Int)) : Prop where
  ob : ∃ dx a t, H p = some (.ins C dx (pf n a t)) ∧ PL K H a as ∧ PL K H t ts
  n6 : n ≤ 6
  pa : Prs n as
  ac : Acy as
  pt : Prs n ts
  lt : ∀ q ∈ ts, q.1 < q.2
theorem plan_s {K : PySem.W.Frag} {C : Addr} {H H' : Hp} {p : Addr} {n : Nat} {as ts : List (Int × Int)} (h : PlanAt K C H p n as ts) (e : Same H H') : PlanAt K C H' p n as ts := by
  obtain ⟨⟨dx, a, t, h1, h2, h3⟩, n6, h4, h5, h6, h7⟩ := h
  exact ⟨⟨dx, a, t, e _ _ h1, pl_s h2 e, pl_s h3 e⟩, n6, h4, h5, h6, h7⟩
theorem prs_perm {n : Int} {ps qs : List (Int × Int)} (h : Prs n ps) (e : qs.Perm ps) : Prs n qs :=
  ⟨e.nodup_iff.mpr h.1, by rw [e.length_eq]; exact h.2.1, fun p hp => h.2.2 p (e.mem_iff.mp hp)⟩
theorem acy_perm {ps qs : List (Int × Int)} (h : Acy ps) (e : qs.Perm ps) : Acy qs := let ⟨r, hr⟩ := h; ⟨r, fun p hp => hr p (e.mem_iff.mp hp)⟩
/-- the pair that a value is in a heap -/
def prV (H : Hp) : V → Int × Int
  | .ref t => match H t with
    | some (.tup [.int i, .int j]) => (i, j)
    | _ => (0, 0)
  | _ => (0, 0)
theorem prV_eq {H : Hp} {t : Addr} {i j : Int} (h : H t = some (.tup [.int i, .int j])) : prV H (.ref t) = (i, j) := by
  unfold prV
  simp only [h]
/-- __init__ of a fresh Plan -/
def spInit (K : PySem.W.Frag) (C : Addr) : Sp := fun vs H Q _ => ∃ (p dx a t : Addr) (n : Nat) (as ts : List (Int × Int)), vs = [.ref p, .int n, .ref a, .ref t] ∧ H p = some (.ins C dx []) ∧ PL K H a as ∧ PL K H t ts ∧
  n ≤ 6 ∧ Prs n as ∧ Acy as ∧ Prs n ts ∧ (∀ q ∈ ts, q.1 < q.2) ∧
  ∀ H' as' ts', (∀ b o, b ≠ p → H b = some o → H' b = some o) → SortOf as as' → SortOf ts ts' → PlanAt K C H' p n as' ts' → Q .non H'
/-- facts of the class -/
structure PlC (K : PySem.W.Frag) (mg : Str → Option Value) (C : Addr) : Prop where
  cl : Cls K C
  nS : NoAttr K C "_size"
  nA : NoAttr K C "_arrows"
  nT : NoAttr K C "_ties"
  mgC : mg "Plan" = some (.ref C)
/-- [(i, j) for i, j in pairs], all tuples new, sorted -/
theorem sort_pairs {K : PySem.W.Frag} {H2 : Hp} {xs ys : List V} {ps : List (Int × Int)} (hl : xs.length = ps.length)
    (h : ∀ (i : Nat) (x : V), xs[i]? = some x → ∃ (t : Addr) (p : Int × Int), x = V.ref t ∧ ps[i]? = some p ∧ H2 t = some (.tup [.int p.1, .int p.2])) (s : SrtO.Srtd (ltP (prV H2)) ys) (b : SrtO.Stb (ltP (prV H2)) ys xs) :
    SortOf ps (ys.map (prV H2)) ∧ DpAll K H2 ys ((ys.map (prV H2)).map dP) := by
  have e : xs.map (prV H2) = ps := by
    refine List.ext_getElem? fun i => ?_
    rw [List.getElem?_map]
    cases hx : xs[i]? with
    | none =>
      have : ps[i]? = none := by
        rw [List.getElem?_eq_none_iff] at hx ⊢
        omega
      rw [this]; rfl
    | some x =>
      obtain ⟨t, p, rfl, hp, ht⟩ := h i x hx
      rw [hp]
      show some (prV H2 (.ref t)) = some p
      rw [prV_eq ht]
  refine ⟨⟨?_, ?_⟩, ?_⟩
  · rw [← e]
    exact b.perm.map _
  · rw [List.pairwise_map]
    exact s
  · have all : ∀ y ∈ ys, ∃ (t : Addr) (p : Int × Int), y = V.ref t ∧ H2 t = some (.tup [.int p.1, .int p.2]) := fun y hy => by
      obtain ⟨i, hi⟩ := List.getElem?_of_mem (b.perm.mem_iff.mp hy)
      obtain ⟨t, p, e1, _, e2⟩ := h i y hi
      exact ⟨t, p, e1, e2⟩
    clear s b e h hl
    induction ys with
    | nil => exact .nil
    | cons y ys ih =>
      obtain ⟨t, p, rfl, ht⟩ := all y (List.mem_cons_self ..)
      refine .cons ?_ (ih fun z hz => all z (List.mem_cons_of_mem _ hz))
      rw [prV_eq ht]
      exact dP_mk (st_of ht)

section
variable {P : Program} {w : World} {K : PySem.W.Frag} {mg : Str → Option Value} {base : Heap}
abbrev nInit : List Str := ["self", "size", "arrows", "ties", "start", "end", "low", "high"]
theorem sc_init : FnScope nInit ["self", "size", "arrows", "ties"] (defScope sInit) := ⟨rfl, rfl, rfl, by decide +kernel, rfl, by decide +kernel, by decide +kernel⟩
theorem ok_init {f f4 f6 f7 C : Addr} {fd fd4 fd6 fd7 : FuncData} (F : Fun K "__init__" "Plan.__init__" sInit f fd) (T : PlC K mg C)
    (D4 : Df K mg "check_size" sChkSize ["size"] f4 fd4) (G4 : FnOk P w K mg base CX0 4 f4 fd4 ["size"] spChkSize)
    (D6 : Df K mg "are_arrows" sAreArr ["size", "value"] f6 fd6) (G6 : FnOk P w K mg base CX0 6 f6 fd6 ["size", "value"] (spAreArr K))
    (D7 : Df K mg "are_ties" sAreTies ["size", "value"] f7 fd7) (G7 : FnOk P w K mg base CX0 6 f7 fd7 ["size", "value"] (spAreTies K)) (B : Bl mg) :
    FnOk P w K mg base CX0 7 f fd ["self", "size", "arrows", "ties"] (spInit K C) := by
  refine F.ok sc_init (fun vs H Q E h => ?_) (fun cdv A outer s H vs Q E hr h => ?_)
  · obtain ⟨p, dx, a, t, n, as, ts, rfl, _⟩ := h
    rfl
  · obtain ⟨p, dx, a, t, n, as, ts, rfl, hp, ha, ht, n6, pa, ac, pt, lt, q⟩ := h
    refine ⟨_, pss_cons (ps_expr (pe_call G4 (hr.mono (by decide)) rfl D4.g D4.F.kp D4.b .nil pass0 (pa_cons (pv 1) pa_nil)))
      (pss_cons (ps_if (pt_not (pt_val (pe_call G6 hr rfl D6.g D6.F.kp D6.b .nil pass0 (pa_cons (pv 1) (pa_cons (pv 2) pa_nil))))) pss_never pss_nil)
      (pss_cons (ps_if (pt_not (pt_val (pe_call G7 hr rfl D7.g D7.F.kp D7.b .nil pass0 (pa_cons (pv 1) (pa_cons (pv 3) pa_nil))))) pss_never pss_nil)
      (pss_cons (ps_fld (pv 0) (pv 1) rfl)
      (pss_cons (ps_fld (pv 0) (pe_callB cr_sortedPO (by rfl) B.sorted PyProof.Rows.boot_sorted (pa_cons
          (pe_lc (own := [("start", 4), ("end", 5)]) (g := gTup K 2 (gCons (gName 4) (gCons (gName 5) gNil))) (tt := tYes) rfl sc_init.nd (pi_list (pv 2)) (blkOk_by (N := nInit) (sc := defScope sInit) (by decide +kernel))
            (fun _ _ _ _ _ => pg_tup rfl (pgs_cons (pg_name (i := 4) sc_init.nd rfl (Or.inl rfl)) (pgs_cons (pg_name (i := 5) sc_init.nd rfl (Or.inl rfl)) pgs_nil))) (fun _ _ _ _ _ => pts_nil)
            (fun _ _ _ _ _ => pe_tup (pa_cons (pv 4) (pa_cons (pv 5) pa_nil)))) pa_nil)) rfl)
      (pss_one (ps_fld (pv 0) (pe_callB cr_sortedPO (by rfl) B.sorted PyProof.Rows.boot_sorted (pa_cons
          (pe_lc (own := [("low", 6), ("high", 7)]) (g := gTup K 2 (gCons (gName 6) (gCons (gName 7) gNil))) (tt := tYes) rfl sc_init.nd (pi_list (pv 3)) (blkOk_by (N := nInit) (sc := defScope sInit) (by decide +kernel))
            (fun _ _ _ _ _ => pg_tup rfl (pgs_cons (pg_name (i := 6) sc_init.nd rfl (Or.inl rfl)) (pgs_cons (pg_name (i := 7) sc_init.nd rfl (Or.inl rfl)) pgs_nil))) (fun _ _ _ _ _ => pts_nil)
            (fun _ _ _ _ _ => pe_tup (pa_cons (pv 6) (pa_cons (pv 7) pa_nil)))) pa_nil)) rfl)))))), ?_⟩
    refine ⟨_, rfl, n, rfl, by omega, by omega, ?_⟩
    refine ⟨_, rfl, _, rfl, n, a, as, rfl, ha, by omega, pa, ac, fun H1 s1 => ⟨true, rfl, iteF ?_⟩⟩
    refine ⟨_, rfl, _, rfl, n, t, ts, rfl, pl_s ht s1, pt, lt, fun H2 s2 => ⟨true, rfl, iteF ?_⟩⟩
    have s02 : Same H H2 := s1.trans s2
    -- self._size = size
    refine ⟨_, rfl, _, rfl, p, C, dx, [], rfl, s02 _ _ hp, T.cl, T.nS, (by show 0 < 1000; decide), ?_⟩
    generalize hH3 : upd H2 p (.ins C dx (putF "_size" (.int n) [])) = H3
    have keep3 : ∀ b o, b ≠ p → H b = some o → H3 b = some o := fun b o hb e => by rw [← hH3, upd_ne hb]; exact s02 b o e
    have hp3 : H3 p = some (.ins C dx (putF "_size" (.int n) [])) := by rw [← hH3, upd_same]
    -- the lists are not the object
    have lift : ∀ {b : Addr} {ps : List (Int × Int)}, PL K H b ps → PL K H3 b ps := by
      rintro b ps ⟨xs, h1, h2⟩
      have key : ∀ {c : Addr} {u : HO}, (∀ C' dx' fs, u ≠ .ins C' dx' fs) → Rd H c u → Rd H3 c u := by
        intro c u nu h
        rcases h with h | ⟨o, h⟩
        · exact .inl (keep3 _ _ (fun e => by rw [e, hp] at h; exact nu _ _ _ (Option.some.inj h).symm) h)
        · exact .inr ⟨o, keep3 _ _ (fun e => by rw [e, hp] at h; cases h) h⟩
      have kl : ∀ {c : Addr} {ys : List V}, SqL K H c ys → SqL K H3 c ys := fun h => h.elim (fun h => .inl (key (fun _ _ _ e => nomatch e) h)) .inr
      have kt : ∀ {c : Addr} {ys : List V}, SqT K H c ys → SqT K H3 c ys := fun h => h.elim (fun h => .inl (key (fun _ _ _ e => nomatch e) h)) .inr
      refine ⟨xs, kl h1, ?_⟩
      clear h1
      induction ps generalizing xs with
      | nil => cases h2; exact .nil
      | cons z zs ih =>
        cases h2 with
        | cons g1 g2 =>
          obtain ⟨t, rfl, ht⟩ := dP_inv g1
          exact .cons (dP_mk (kt ht)) (ih _ g2)
    obtain ⟨xs, hxs, hd⟩ := lift ha
    obtain ⟨ys, hys, hdy⟩ := lift ht
    have hlx : xs.length = as.length := by rw [dps_len hd, List.length_map]
    have hly : ys.length = ts.length := by rw [dps_len hdy, List.length_map]
    refine ⟨_, rfl, a, rfl, ⟨xs, hxs⟩, fun D hD => ?_⟩
    refine lc_list (xs := xs) (fun k G => Same H3 G ∧ ∃ acc, G D = some (.lst acc) ∧ acc.length = k ∧ ∀ (i : Nat) (x : V), acc[i]? = some x → ∃ (t : Addr) (z : Int × Int), x = V.ref t ∧ as[i]? = some z ∧ G t = some (.tup [.int z.1, .int z.2]))
      ⟨same_new hD, [], upd_same, rfl, fun i x h => by simp at h⟩ (fun k G _ p => same_l p.1 hxs) ?_ ?_
    · rintro k x G hx ⟨sG, acc, hacc, hlen, hall⟩
      have hk := lt_of_at hx
      obtain ⟨⟨i, j⟩, u, hpk, rfl, hu⟩ := pl_at (dps_s hd sG) hx
      refine ⟨u, _, rfl, hu, rfl, _, _, rfl, _, _, rfl, rfl, rfl, _, rfl, _, rfl, szle (by show 2 ≤ 100000; decide), fun v hv => ?_⟩
      have nvD : v ≠ D := fun e => by rw [e, hacc] at hv; cases hv
      refine ⟨acc, by rw [upd_ne nvD.symm]; exact hacc, szlt (by have := pa.2.1; omega), same_mut (sG.trans (same_new hv)) hD, acc ++ [.ref v], upd_same, by simp [hlen], fun m x hm => ?_⟩
      by_cases c : m < acc.length
      · rw [List.getElem?_append_left c] at hm
        obtain ⟨t', z, e1, e2, e3⟩ := hall m x hm
        have n1 : t' ≠ v := fun e => by rw [e, hv] at e3; cases e3
        have n2 : t' ≠ D := fun e => by rw [e, hacc] at e3; cases e3
        exact ⟨t', z, e1, e2, by rw [upd_ne n2, upd_ne n1]; exact e3⟩
      · rw [List.getElem?_append_right (by omega)] at hm
        have : m - acc.length = 0 := by
          cases e : m - acc.length with
          | zero => rfl
          | succ k => rw [e] at hm; simp at hm
        rw [this] at hm
        simp at hm
        have em : m = k := by omega
        subst em
        exact ⟨v, (i, j), hm.symm, hpk, by rw [upd_ne nvD, upd_same]⟩
    · rintro G ⟨sG, acc, hacc, hlen, hall⟩
      refine ⟨D, acc, prV G, rfl, sl_of hacc, fun x hx => ?_, fun zs pz srt stb hpz => ?_⟩
      · obtain ⟨i, hi⟩ := List.getElem?_of_mem hx
        obtain ⟨t', z, e1, _, e3⟩ := hall i x hi
        exact ⟨t', e1, by rw [e1, prV_eq e3]; exact e3⟩
      obtain ⟨sortA, dpA⟩ := sort_pairs (by omega) hall srt stb
      have sG' : Same H3 (upd G pz (.lst zs)) := sG.trans (same_new hpz)
      refine ⟨_, rfl, p, C, dx, _, rfl, sG' _ _ hp3, T.cl, T.nA, (by have := putF_len "_size" (.int n) []; simp at this; omega), ?_⟩
      have npz : pz ≠ p := fun e => by rw [e, sG _ _ hp3] at hpz; cases hpz
      generalize hH4 : upd (upd G pz (.lst zs)) p (.ins C dx (putF "_arrows" (.ref pz) (putF "_size" (.int n) []))) = H4
      have hp4 : H4 p = some (.ins C dx (putF "_arrows" (.ref pz) (putF "_size" (.int n) []))) := by rw [← hH4, upd_same]
      have keep4 : ∀ b o, b ≠ p → (upd G pz (.lst zs)) b = some o → H4 b = some o := fun b o hb e => by rw [← hH4, upd_ne hb]; exact e
      have keep34 : ∀ b o, b ≠ p → H3 b = some o → H4 b = some o := fun b o hb e => keep4 b o hb (sG' b o e)
      have lift4 : ∀ {Ga Gb : Hp} {b : Addr} {ps : List (Int × Int)} {C' : Addr} {dx' : Addr} {fs : List (Str × V)}, Ga p = some (.ins C' dx' fs) → (∀ b o, b ≠ p → Ga b = some o → Gb b = some o) → PL K Ga b ps → PL K Gb b ps := by
        rintro Ga Gb b ps C' dx' fs hpa kp ⟨xs, h1, h2⟩
        have key : ∀ {c : Addr} {u : HO}, (∀ C' dx' fs, u ≠ .ins C' dx' fs) → Rd Ga c u → Rd Gb c u := by
          intro c u nu h
          rcases h with h | ⟨o, h⟩
          · exact .inl (kp _ _ (fun e => by rw [e, hpa] at h; exact nu _ _ _ (Option.some.inj h).symm) h)
          · exact .inr ⟨o, kp _ _ (fun e => by rw [e, hpa] at h; cases h) h⟩
        have kl : ∀ {c : Addr} {ys : List V}, SqL K Ga c ys → SqL K Gb c ys := fun h => h.elim (fun h => .inl (key (fun _ _ _ e => nomatch e) h)) .inr
        have kt : ∀ {c : Addr} {ys : List V}, SqT K Ga c ys → SqT K Gb c ys := fun h => h.elim (fun h => .inl (key (fun _ _ _ e => nomatch e) h)) .inr
        refine ⟨xs, kl h1, ?_⟩
        clear h1
        induction ps generalizing xs with
        | nil => cases h2; exact .nil
        | cons z zs ih =>
          cases h2 with
          | cons g1 g2 =>
            obtain ⟨t, rfl, ht⟩ := dP_inv g1
            exact .cons (dP_mk (kt ht)) (ih _ g2)
      have plA : PL K H4 pz (zs.map (prV G)) := lift4 (sG' _ _ hp3) keep4 ⟨zs, sl_of upd_same, dps_s dpA (same_new hpz)⟩
      obtain ⟨ys, hys, hdy⟩ : PL K H4 t ts := lift4 hp3 keep34 ⟨ys, hys, hdy⟩
      -- the ties
      refine ⟨_, rfl, t, rfl, ⟨ys, hys⟩, fun D2 hD2 => ?_⟩
      have hly : ys.length = ts.length := by rw [dps_len hdy, List.length_map]
      refine lc_list (xs := ys) (fun k G => Same H4 G ∧ ∃ acc, G D2 = some (.lst acc) ∧ acc.length = k ∧ ∀ (i : Nat) (x : V), acc[i]? = some x → ∃ (t : Addr) (z : Int × Int), x = V.ref t ∧ ts[i]? = some z ∧ G t = some (.tup [.int z.1, .int z.2]))
        ⟨same_new hD2, [], upd_same, rfl, fun i x h => by simp at h⟩ (fun k G _ p => same_l p.1 hys) ?_ ?_
      · rintro k x G2 hx ⟨sG2, acc2, hacc2, hlen2, hall2⟩
        have hk := lt_of_at hx
        obtain ⟨⟨i, j⟩, u, hpk, rfl, hu⟩ := pl_at (dps_s hdy sG2) hx
        refine ⟨u, _, rfl, hu, rfl, _, _, rfl, _, _, rfl, rfl, rfl, _, rfl, _, rfl, szle (by show 2 ≤ 100000; decide), fun v hv => ?_⟩
        have nvD : v ≠ D2 := fun e => by rw [e, hacc2] at hv; cases hv
        refine ⟨acc2, by rw [upd_ne nvD.symm]; exact hacc2, szlt (by have := pt.2.1; omega), same_mut (sG2.trans (same_new hv)) hD2, acc2 ++ [.ref v], upd_same, by simp [hlen2], fun m x hm => ?_⟩
        by_cases c : m < acc2.length
        · rw [List.getElem?_append_left c] at hm
          obtain ⟨t', z, e1, e2, e3⟩ := hall2 m x hm
          have n1 : t' ≠ v := fun e => by rw [e, hv] at e3; cases e3
          have n2 : t' ≠ D2 := fun e => by rw [e, hacc2] at e3; cases e3
          exact ⟨t', z, e1, e2, by rw [upd_ne n2, upd_ne n1]; exact e3⟩
        · rw [List.getElem?_append_right (by omega)] at hm
          have : m - acc2.length = 0 := by
            cases e : m - acc2.length with
            | zero => rfl
            | succ k => rw [e] at hm; simp at hm
          rw [this] at hm
          simp at hm
          have em : m = k := by omega
          subst em
          exact ⟨v, (i, j), hm.symm, hpk, by rw [upd_ne nvD, upd_same]⟩
      · rintro G2 ⟨sG2, acc2, hacc2, hlen2, hall2⟩
        refine ⟨D2, acc2, prV G2, rfl, sl_of hacc2, fun x hx => ?_, fun ws pw srt2 stb2 hpw => ?_⟩
        · obtain ⟨i, hi⟩ := List.getElem?_of_mem hx
          obtain ⟨t', z, e1, _, e3⟩ := hall2 i x hi
          exact ⟨t', e1, by rw [e1, prV_eq e3]; exact e3⟩
        obtain ⟨sortT, dpT⟩ := sort_pairs (by omega) hall2 srt2 stb2
        have sG2' : Same H4 (upd G2 pw (.lst ws)) := sG2.trans (same_new hpw)
        refine ⟨_, rfl, p, C, dx, _, rfl, sG2' _ _ hp4, T.cl, T.nT, (by have h1 := putF_len "_size" (.int n) []; have h2 := putF_len "_arrows" (.ref pz) (putF "_size" (.int n) []); simp at h1; omega), ?_⟩
        have keep5 : ∀ b o, b ≠ p → (upd G2 pw (.lst ws)) b = some o → (upd (upd G2 pw (.lst ws)) p (.ins C dx (putF "_ties" (.ref pw) (putF "_arrows" (.ref pz) (putF "_size" (.int n) []))))) b = some o := fun b o hb e => by rw [upd_ne hb]; exact e
        refine q _ (zs.map (prV G)) (ws.map (prV G2)) (fun b o hb e => keep5 b o hb (sG2' _ _ (keep34 b o hb (keep3 b o hb e)))) sortA sortT ?_
        refine ⟨⟨dx, pz, pw, upd_same, ?_, ?_⟩, n6, prs_perm pa sortA.1, acy_perm ac sortA.1, prs_perm pt sortT.1, fun z hz => lt z (sortT.1.mem_iff.mp hz)⟩
        · exact lift4 hp4 (fun b o hb e => keep5 b o hb (sG2' b o e)) plA
        · exact lift4 (sG2' _ _ hp4) keep5 ⟨ws, sl_of upd_same, dps_s dpT (same_new hpw)⟩
end
end Tk

namespace Tk
open PySem PySem.Spec PyProof.Rows L2
/-- tuples that stand for the first k pairs -/
def TA (G : Hp) (acc : List V) (ps : List (Int × Int)) (k : Nat) : Prop :=
  acc.length = k ∧ ∀ (i : Nat) (x : V), acc[i]? = some x → ∃ (t : Addr) (z : Int × Int), x = V.ref t ∧ ps[i]? = some z ∧ G t = some (.tup [.int z.1, .int z.2])
theorem ta_0 (G : Hp) (ps : List (Int × Int)) : TA G [] ps 0 := ⟨rfl, fun i x h => by simp at h⟩
theorem ta_put {G : Hp} {acc : List V} {ps : List (Int × Int)} {k : Nat} {D v : Addr} {z : Int × Int} {o : List V} (h : TA G acc ps k) (hD : G D = some (.lst o)) (hv : G v = none) (hz : ps[k]? = some z) :
    TA (upd (upd G v (.tup [.int z.1, .int z.2])) D (.lst (acc ++ [.ref v]))) (acc ++ [.ref v]) ps (k + 1) := by
  obtain ⟨hl, ha⟩ := h
  have nvD : v ≠ D := fun e => by rw [e, hD] at hv; cases hv
  refine ⟨by simp [hl], fun m x hm => ?_⟩
  by_cases c : m < acc.length
  · rw [List.getElem?_append_left c] at hm
    obtain ⟨t, w, e1, e2, e3⟩ := ha m x hm
    have n1 : t ≠ v := fun e => by rw [e, hv] at e3; cases e3
    have n2 : t ≠ D := fun e => by rw [e, hD] at e3; cases e3
    exact ⟨t, w, e1, e2, by rw [upd_ne n2, upd_ne n1]; exact e3⟩
  · rw [List.getElem?_append_right (by omega)] at hm
    have m0 : m - acc.length = 0 := by
      cases e : m - acc.length with
      | zero => rfl
      | succ k => rw [e] at hm; simp at hm
    rw [m0] at hm
    simp at hm
    have em : m = k := by omega
    subst em
    exact ⟨v, z, hm.symm, hz, by rw [upd_ne nvD, upd_same]⟩
theorem ta_dps {K : PySem.W.Frag} {G : Hp} : ∀ {acc : List V} {ps : List (Int × Int)}, TA G acc ps ps.length → DpAll K G acc (ps.map dP) := by
  intro acc ps
  induction ps generalizing acc with
  | nil =>
    intro h
    have : acc = [] := List.length_eq_zero_iff.mp h.1
    subst this
    exact .nil
  | cons p ps ih =>
    intro h
    cases acc with
    | nil => have := h.1; simp at this
    | cons x acc =>
      obtain ⟨t, z, e1, e2, e3⟩ := h.2 0 x (by simp)
      simp at e2
      subst e2
      rw [e1]
      refine .cons (dP_mk (st_of e3)) (ih ⟨by have := h.1; simpa using this, fun i y hy => ?_⟩)
      obtain ⟨t', z', f1, f2, f3⟩ := h.2 (i + 1) y (by simpa using hy)
      exact ⟨t', z', f1, by simpa using f2, f3⟩
theorem ta_s {G G' : Hp} {acc : List V} {ps : List (Int × Int)} {k : Nat} (h : TA G acc ps k) (e : Same G G') : TA G' acc ps k :=
  ⟨h.1, fun i x hx => let ⟨t, z, a, b, c⟩ := h.2 i x hx; ⟨t, z, a, b, e _ _ c⟩⟩

def spReached (K : PySem.W.Frag) : Sp := fun vs H Q _ => ∃ (n : Nat) (a : Addr) (st : Int) (ps : List (Int × Int)), vs = [.ref a, .int st] ∧ PL K H a ps ∧ n ≤ 60 ∧ Prs n ps ∧ st ∈ things n ∧
  ∀ (H' : Hp) (p : Addr) (fo : List Int), Same H H' → H p = none → H' p = some (.lst (fo.map V.int)) → fo.Nodup → (∀ x ∈ fo, x ∈ things n) → (∀ y, y ∈ fo ↔ Reach ps st y) → Q (.ref p) H'
def spArr (K : PySem.W.Frag) (C : Addr) : Sp := fun vs H Q _ => ∃ (p : Addr) (n : Nat) (as ts : List (Int × Int)), vs = [.ref p] ∧ PlanAt K C H p n as ts ∧ ∀ H' l, Same H H' → H l = none → PL K H' l as → Q (.ref l) H'
def spChkPlan (C : Addr) : Sp := fun vs H Q _ => ∃ (p dx : Addr) (fs : List (Str × V)), vs = [.ref p] ∧ H p = some (.ins C dx fs) ∧ Q .non H
section
variable {P : Program} {w : World} {K : PySem.W.Frag} {mg : Str → Option Value} {base : Heap}
abbrev nReach : List Str := ["pairs", "start", "found", "waiting", "thing", "fresh", "here", "end"]
theorem sc_reached : FnScope nReach ["pairs", "start"] (defScope sReached) := ⟨rfl, rfl, rfl, by decide +kernel, rfl, by decide +kernel, by decide +kernel⟩
theorem ok_reached {f : Addr} {fd : FuncData} (F : Fun K "reached" "reached" sReached f fd) (B : Bl mg) : FnOk P w K mg base CX0 1 f fd ["pairs", "start"] (spReached K) := by
  refine F.ok sc_reached (fun vs H Q E h => ?_) (fun cdv A outer s H vs Q E hr h => ?_)
  · obtain ⟨n, a, st, ps, rfl, _⟩ := h
    rfl
  · obtain ⟨n, a, st, ps, rfl, ⟨xs, hxs, hd⟩, hn, hps, hst, q⟩ := h
    refine ⟨_, pss_cons (ps_set (i := 2) sc_reached.nd rfl (Or.inr rfl) (pe_lst (pa_cons (pv 1) pa_nil)))
      (pss_cons (ps_set (i := 3) sc_reached.nd rfl (Or.inl rfl) (pe_lst (pa_cons (pv 1) pa_nil)))
      (pss_cons (ps_while PassesOwn.never (pt_truth (pv 3) (fun _ => rfl))
        (pss_cons (ps_set (i := 4) sc_reached.nd rfl (Or.inr rfl) (pe_bm0 PySem.F.plainAttrs_list PySem.F.slot_list_pop PySem.F.type_list_pop mt_pop (pv 3)))
        (pss_cons (ps_setLc (i := 5) (own := [("here", 6), ("end", 7)]) (g := gTup K 2 (gCons (gName 6) (gCons (gName 7) gNil))) (tt := tAnd (tTest (tOp rEq (tVar 6) (tVar 4))) (tTest (tOp (rIn K true) (tVar 7) (tVar 2)))) rfl sc_reached.nd rfl rfl (sw_true rfl rfl rfl (by decide +kernel)) (pi_list (pv 0)) (blkOk_by (N := nReach) (sc := defScope sReached) (by decide +kernel))
            (fun _ _ _ _ _ => pg_tup rfl (pgs_cons (pg_name (i := 6) sc_reached.nd rfl (Or.inl rfl)) (pgs_cons (pg_name (i := 7) sc_reached.nd rfl (Or.inl rfl)) pgs_nil)))
            (fun _ _ _ _ _ => pts_one (PW.pt (pw_and (pt_cmpR op_eq (pv 6) (pv 4) (nomark _)) (pw_and1 (pt_cmpR op_notIn_seq (pv 7) (pv 2) (by rfl))))))
            (fun _ _ _ _ _ => pv 7))
        (pss_cons (ps_expr (pe_bm PySem.F.plainAttrs_list PySem.F.slot_list_extend PySem.F.type_list_extend mt_extend (pv 2) (pa_cons (pv 5) pa_nil)))
        (pss_one (ps_expr (pe_bm PySem.F.plainAttrs_list PySem.F.slot_list_extend PySem.F.type_list_extend mt_extend (pv 3) (pa_cons (pv 5) pa_nil))))))))
      (pss_one (ps_ret (pv 2))))), ?_⟩
    have hl : xs.length = ps.length := by rw [dps_len hd, List.length_map]
    refine ⟨_, rfl, szle (by show 1 ≤ 100000; decide), fun pf hpf => ?_⟩
    refine ⟨_, rfl, szle (by show 1 ≤ 100000; decide), fun pw hpw => ?_⟩
    have npw : pf ≠ pw := fun e => by rw [e, upd_same] at hpw; cases hpw
    have hpw0 : H pw = none := by rw [upd_ne npw.symm] at hpw; exact hpw
    refine ⟨fun m σ H1 => ∃ (fo wa : List Int) (v4 v5 v6 v7 : Option V), σ = [some (V.ref a), some (V.int st), some (V.ref pf), some (V.ref pw), v4, v5, v6, v7] ∧ Same H H1 ∧ H1 pf = some (.lst (fo.map V.int)) ∧ H1 pw = some (.lst (wa.map V.int)) ∧ RInv n ps st fo wa ∧ wa.length ≤ fo.length ∧ 2 * (n - fo.length) + wa.length = m,
      ⟨_, [st], [st], none, none, none, none, rfl, ?_, ?_, ?_, rinv_0 hst, Nat.le_refl _, rfl⟩, ?_⟩
    · exact (same_new hpf).trans (same_new hpw)
    · rw [upd_ne npw, upd_same]; rfl
    · rw [upd_same]; rfl
    rintro m σ H1 ⟨fo, wa, v4, v5, v6, v7, rfl, s1, hf, hw, inv, wle, rfl⟩
    refine ⟨_, rfl, _, .inl ⟨_, sl_of hw, rfl⟩, ?_⟩
    rcases List.eq_nil_or_concat wa with rfl | ⟨wb, x, rfl⟩
    · exact ⟨_, rfl, q H1 pf fo s1 hpf hf inv.nd inv.th (rinv_end inv)⟩
    · have lem : (!((wb.concat x).map V.int).isEmpty) = true := by simp
      rw [lem]
      rw [List.concat_eq_append] at *
      refine ⟨_, fun σ' H' z => z, ?_⟩
      have xfo : x ∈ fo := inv.wf x (by simp)
      -- thing = waiting.pop()
      refine ⟨_, rfl, .inl ⟨rfl, _, sl_of hw⟩, pw, _, V.int x, rfl, rfl, hw, (by simp), ?_⟩
      have edl : ((wb ++ [x]).map V.int).dropLast = wb.map V.int := by simp
      rw [edl]
      generalize hH2 : upd H1 pw (.lst (wb.map V.int)) = H2
      have s02 : Same H H2 := by rw [← hH2]; exact same_mut s1 hpw0
      have hf2 : H2 pf = some (.lst (fo.map V.int)) := by rw [← hH2, upd_ne npw]; exact hf
      have hw2 : H2 pw = some (.lst (wb.map V.int)) := by rw [← hH2, upd_same]
      have hfol := rinv_len inv
      -- fresh
      refine ⟨_, rfl, a, rfl, ⟨xs, same_l s02 hxs⟩, fun D hD => ?_⟩
      refine lc_list (xs := xs) (LcP H2 D fun k => (freshL (ps.take k) fo x).map V.int) (lcp_0 hD rfl) (fun k H3 _ p => same_l (s02.trans p.1) hxs) ?_ ?_
      · intro k y H3 hx p
        obtain ⟨⟨i, j⟩, t, hpk, rfl, ht⟩ := pl_at (dps_s hd (s02.trans p.1)) hx
        have short : ((freshL (ps.take k) fo x).map V.int).length < 100000 := by
          have h1 := hps.2.1
          have h2 : (freshL (ps.take k) fo x).length ≤ (ps.take k).length := by unfold freshL; rw [List.length_map]; exact List.length_filter_le ..
          rw [List.length_take] at h2
          rw [List.length_map]; omega
        have et : freshL (ps.take (k + 1)) fo x = if i = x ∧ j ∉ fo then freshL (ps.take k) fo x ++ [j] else freshL (ps.take k) fo x := by
          unfold freshL
          rw [take_at hpk, List.filter_append, List.map_append]
          by_cases c : i = x ∧ j ∉ fo
          · rw [if_pos c]; simp [c.1, c.2]
          · rw [if_neg c]
            by_cases c1 : i = x
            · have c2 : j ∈ fo := Classical.byContradiction fun z => c ⟨c1, z⟩
              simp [c2]
            · simp [c1]
        refine ⟨t, _, rfl, ht, rfl, _, _, rfl, _, _, rfl, rfl, rfl, _, rfl, _, rfl, rfl, decide (i = x), dec_bl, ?_⟩
        by_cases c1 : i = x
        · rw [decide_eq_true c1]
          refine ⟨_, rfl, _, rfl, pf, _, rfl, .inl (sl_of (p.1 _ _ hf2)), rfl, flat_ints fo, _, notin_bl, ?_⟩
          by_cases c2 : j ∈ fo
          · rw [decide_eq_true c2]
            refine iteF (lcp_no p ?_)
            rw [et, if_neg (fun z => z.2 c2)]
          · rw [decide_eq_false c2]
            refine ⟨_, rfl, ?_⟩
            refine lcp_put hD p ?_ short
            rw [et, if_pos ⟨c1, c2⟩, List.map_append]; rfl
        · rw [decide_eq_false c1]
          refine iteF (lcp_no p ?_)
          rw [et, if_neg (fun z => c1 z.1)]
      · intro H3 p
        have hD3 : H3 D = some (.lst ((freshL (ps.take xs.length) fo x).map V.int)) := p.2
        rw [take_all hl.symm] at hD3
        have s3 : Same H2 H3 := p.1
        have hf3 : H3 pf = some (.lst (fo.map V.int)) := s3 _ _ hf2
        have hw3 : H3 pw = some (.lst (wb.map V.int)) := s3 _ _ hw2
        have nDf : D ≠ pf := fun e => by rw [e, hf2] at hD; cases hD
        have nDw : D ≠ pw := fun e => by rw [e, hw2] at hD; cases hD
        have inv2 := rinv_step inv hps.1 (fun p hp => mem_things.mpr ⟨(hps.2.2 p hp).2.2.1, (hps.2.2 p hp).2.2.2.1⟩)
        have l2 := rinv_len inv2
        rw [List.length_append] at l2
        have wl : wb.length + (freshL ps fo x).length ≤ 1000 := by
          have h2 : (freshL ps fo x).length ≤ 60 := by omega
          simp at wle
          omega
        refine ⟨_, rfl, .inl ⟨rfl, _, sl_of hf3⟩, _, rfl, pf, D, _, _, rfl, rfl, hf3, hD3, szle (by simp; omega), ?_⟩
        have hD4 : (upd H3 pf (.lst (fo.map V.int ++ (freshL ps fo x).map V.int))) D = some (.lst ((freshL ps fo x).map V.int)) := by rw [upd_ne nDf]; exact hD3
        have hw4 : (upd H3 pf (.lst (fo.map V.int ++ (freshL ps fo x).map V.int))) pw = some (.lst (wb.map V.int)) := by rw [upd_ne npw.symm]; exact hw3
        refine ⟨_, rfl, .inl ⟨rfl, _, sl_of hw4⟩, _, rfl, pw, D, _, _, rfl, rfl, hw4, hD4, szle (by simp; omega), ?_⟩
        refine ⟨_, ?_, fo ++ freshL ps fo x, wb ++ freshL ps fo x, _, _, _, _, rfl, ?_, ?_, ?_, inv2, (by simp at wle ⊢; omega), rfl⟩
        · simp only [List.length_append, List.length_cons, List.length_nil]
          omega
        · exact same_mut (same_mut (s02.trans s3) hpf) hpw0
        · rw [upd_ne npw, upd_same, List.map_append]
        · rw [upd_same, List.map_append]
end
end Tk

namespace Tk
open PySem PySem.Spec PyProof.Rows L2
theorem units65 {k : Nat} {A : Around} (r : Room k A) : A.units + 65 < cLine := by have := r.un; omega
/-! lists of lists -/
def LsAt (G : Hp) : List V → List (List Int) → Prop
  | [], [] => True
  | x :: xs, o :: os => (∃ r : Addr, x = .ref r ∧ G r = some (.lst (o.map V.int))) ∧ LsAt G xs os
  | _, _ => False
theorem ls_s {G G' : Hp} (e : Same G G') : ∀ {xs : List V} {os : List (List Int)}, LsAt G xs os → LsAt G' xs os
  | [], [], _ => trivial
  | x :: xs, o :: os, ⟨⟨r, h1, h2⟩, h3⟩ => ⟨⟨r, h1, e _ _ h2⟩, ls_s e h3⟩
  | [], _ :: _, h => h.elim
  | _ :: _, [], h => h.elim
theorem ls_app {G : Hp} : ∀ {xs ys : List V} {os ps : List (List Int)}, LsAt G xs os → LsAt G ys ps → LsAt G (xs ++ ys) (os ++ ps)
  | [], _, [], _, _, h => h
  | x :: xs, _, o :: os, _, ⟨h1, h2⟩, h => ⟨h1, ls_app h2 h⟩
  | [], _, _ :: _, _, h, _ => h.elim
  | _ :: _, _, [], _, h, _ => h.elim
theorem ls_len {G : Hp} : ∀ {xs : List V} {os : List (List Int)}, LsAt G xs os → xs.length = os.length
  | [], [], _ => rfl
  | x :: xs, o :: os, ⟨_, h2⟩ => by simp [ls_len h2]
  | [], _ :: _, h => h.elim
  | _ :: _, [], h => h.elim
theorem ls_at {G : Hp} : ∀ {xs : List V} {os : List (List Int)}, LsAt G xs os → ∀ {i : Nat} {x : V}, xs[i]? = some x → ∃ (o : List Int) (r : Addr), os[i]? = some o ∧ x = .ref r ∧ G r = some (.lst (o.map V.int))
  | [], [], _, _, _, h => by simp at h
  | x :: xs, o :: os, ⟨⟨r, h1, h2⟩, h3⟩, i, y, h => by
    cases i with
    | zero => simp at h; subst h; exact ⟨o, r, by simp, h1, h2⟩
    | succ i => simp at h; simpa using ls_at h3 h
  | [], _ :: _, h, _, _, _ => h.elim
  | _ :: _, [], h, _, _, _ => h.elim
theorem ls_mut {G : Hp} {D : Addr} {u : HO} : ∀ {xs : List V} {os : List (List Int)}, LsAt G xs os → (∀ x ∈ xs, x ≠ .ref D) → LsAt (upd G D u) xs os
  | [], [], _, _ => trivial
  | x :: xs, o :: os, ⟨⟨r, h1, h2⟩, h3⟩, n => ⟨⟨r, h1, by
      have : r ≠ D := fun e => n x (List.mem_cons_self ..) (by rw [h1, e])
      rw [upd_ne this]; exact h2⟩, ls_mut h3 fun y hy => n y (List.mem_cons_of_mem _ hy)⟩
  | [], _ :: _, h, _ => h.elim
  | _ :: _, [], h, _ => h.elim
theorem ls_dp {K : PySem.W.Frag} {G : Hp} : ∀ {xs : List V} {os : List (List Int)}, LsAt G xs os → DpAll K G xs (os.map fun o => PyData.list (o.map .int))
  | [], [], _ => .nil
  | x :: xs, o :: os, ⟨⟨r, h1, h2⟩, h3⟩ => by
    rw [h1]
    exact .cons (.lst (sl_of h2) (dps_ints o)) (ls_dp h3)
  | [], _ :: _, h => h.elim
  | _ :: _, [], h => h.elim
/-- the lists stand at places that are new -/
def FreshL (H : Hp) (xs : List V) : Prop := xs.Nodup ∧ ∀ x ∈ xs, ∃ r : Addr, x = .ref r ∧ H r = none
theorem things_succ (k : Nat) : things (k + 1) = things k ++ [Int.ofNat k] := by
  unfold things
  rw [List.range_succ, List.map_append]; rfl
theorem any_pairs {x y : Int} : ∀ {ps : List (Int × Int)}, ((ps.map dP).any fun z => PyData.eqv z (dP (x, y))) = decide ((x, y) ∈ ps)
  | [] => by simp
  | p :: ps => by
    have ih := any_pairs (x := x) (y := y) (ps := ps)
    rw [List.map_cons, List.any_cons, ih]
    have e : PyData.eqv (dP p) (dP (x, y)) = decide ((x, y) = p) := by
      obtain ⟨u, v⟩ := p
      simp [dP, PyData.eqv, PyData.eqvAll]
      by_cases c1 : u = x
      · subst c1
        by_cases c2 : v = y
        · subst c2; simp
        · have : ¬ y = v := fun e => c2 e.symm
          simp [c2, this]
      · have : ¬ x = u := fun e => c1 e.symm
        simp [c1, this]
    rw [e]
    simp [List.mem_cons]
theorem shaped_pair (p : Int × Int) : SeqAt.shaped (dP p) = true := by
  simp [SeqAt.shaped, dP, PyData.canLay0, PyData.canLayAll0, PyData.depth, PyData.depthAll]
theorem plain_pairs : ∀ ps : List (Int × Int), PyData.canLayAll0 (ps.map dP) = true
  | [] => rfl
  | p :: ps => by
    show (PyData.canLay0 (dP p) && PyData.canLayAll0 (ps.map dP)) = true
    rw [plain_pairs ps]; rfl
theorem depth_pairs : ∀ ps : List (Int × Int), PyData.depthAll (ps.map dP) ≤ 3
  | [] => by simp [PyData.depthAll]
  | p :: ps => by
    have h := depth_pairs ps
    have h2 : PyData.depth (dP p) ≤ 3 := by simp [dP, PyData.depth, PyData.depthAll]
    simp only [List.map_cons, PyData.depthAll]
    omega
theorem shaped_pairs (ps : List (Int × Int)) : SeqAt.shaped (.list (ps.map dP)) = true := by
  unfold SeqAt.shaped
  rw [Bool.and_eq_true_iff]
  refine ⟨by rw [PyData.canLay0]; exact plain_pairs ps, decide_eq_true ?_⟩
  have := depth_pairs ps
  rw [PyData.depth]
  omega
theorem prs_mk {n : Nat} {ps : List (Int × Int)} (n6 : n ≤ 6) (nd : ps.Nodup) (h : ∀ p ∈ ps, 0 ≤ p.1 ∧ p.1 < n ∧ 0 ≤ p.2 ∧ p.2 < n ∧ p.1 ≠ p.2) : Prs n ps := by
  refine ⟨nd, ?_, h⟩
  have h1 := nodup_le nd (m := (things n).flatMap fun x => (things n).map fun y => (x, y)) (fun p hp => by
    obtain ⟨a, b, c, d, _⟩ := h p hp
    exact List.mem_flatMap.mpr ⟨p.1, mem_things.mpr ⟨a, b⟩, List.mem_map.mpr ⟨p.2, mem_things.mpr ⟨c, d⟩, rfl⟩⟩)
  have h2 : ∀ l : List Int, (l.flatMap fun x => (things n).map fun y => (x, y)).length = l.length * n := by
    intro l
    induction l with
    | nil => simp
    | cons x l ih =>
      rw [List.flatMap_cons, List.length_append, ih, List.length_map, things_len, List.length_cons, Nat.succ_mul]
      omega
  rw [h2, things_len] at h1
  have h3 : n * n ≤ 6 * 6 := Nat.mul_le_mul n6 n6
  omega
theorem prs_both {n : Nat} {ts : List (Int × Int)} (n6 : n ≤ 6) (h : Prs n ts) (lt : ∀ p ∈ ts, p.1 < p.2) : Prs n (both ts) := by
  refine prs_mk n6 ?_ ?_
  · unfold both
    rw [List.nodup_append]
    refine ⟨h.1, ?_, ?_⟩
    · show List.Pairwise _ _
      rw [List.pairwise_map]
      refine List.Pairwise.imp (fun {a b} hne e => hne ?_) h.1
      have e' := congrArg swp e
      exact e'
    · intro a ha b hb e
      obtain ⟨c, hc, rfl⟩ := List.mem_map.mp hb
      subst e
      have h1 := lt _ ha
      have h2 := lt _ hc
      simp [swp] at h1
      omega
  · intro p hp
    rcases mem_both.mp hp with c | c
    · exact h.2.2 p c
    · obtain ⟨a1, a2, a3, a4, a5⟩ := h.2.2 _ c
      exact ⟨a3, a4, a1, a2, fun e => a5 e.symm⟩
def PM (K : PySem.W.Frag) (H : Hp) (a : Addr) (ps : List (Int × Int)) : Prop := ∃ xs, H a = some (.lst xs) ∧ DpAll K H xs (ps.map dP)
theorem pm_pl {K : PySem.W.Frag} {H : Hp} {a : Addr} {ps : List (Int × Int)} (h : PM K H a ps) : PL K H a ps := let ⟨xs, h1, h2⟩ := h; ⟨xs, sl_of h1, h2⟩
theorem pm_s {K : PySem.W.Frag} {H H' : Hp} {a : Addr} {ps : List (Int × Int)} (h : PM K H a ps) (e : Same H H') : PM K H' a ps := let ⟨xs, h1, h2⟩ := h; ⟨xs, e _ _ h1, dps_s h2 e⟩
def spTurned (K : PySem.W.Frag) : Sp := fun vs H Q _ => ∃ (a : Addr) (ps : List (Int × Int)), vs = [.ref a] ∧ PL K H a ps ∧ ps.length < 60 ∧ ∀ H' p, Same H H' → H p = none → PM K H' p (ps.map swp) → Q (.ref p) H'
def spTies2 (K : PySem.W.Frag) (C : Addr) : Sp := fun vs H Q _ => ∃ (p : Addr) (n : Nat) (as ts : List (Int × Int)), vs = [.ref p] ∧ PlanAt K C H p n as ts ∧ ∀ H' l, Same H H' → H l = none → PM K H' l ts → Q (.ref l) H'
def spBoth (K : PySem.W.Frag) : Sp := fun vs H Q _ => ∃ (a : Addr) (ps : List (Int × Int)), vs = [.ref a] ∧ PM K H a ps ∧ ps.length < 60 ∧ ∀ H' p, Same H H' → H p = none → PM K H' p (both ps) → Q (.ref p) H'
def spTies (K : PySem.W.Frag) (C : Addr) : Sp := fun vs H Q _ => ∃ (p : Addr) (n : Nat) (as ts : List (Int × Int)), vs = [.ref p] ∧ PlanAt K C H p n as ts ∧ ∀ H' l, Same H H' → H l = none → PL K H' l ts → Q (.ref l) H'
/-- what the class gives, further -/
structure PlM (K : PySem.W.Frag) (mg : Str → Option Value) (C pW gW fA fT : Addr) (fdW fdA fdT : FuncData) : Prop where
  c : PlC K mg C
  ins : C8.InsC K C
  prop : PropOf K C "width" pW gW
  FW : Fun K "width" "Plan.width" sWidth gW fdW
  bW : Binds K fdW ["self"] []
  mA : Meth K C "arrows" fA
  FA : Fun K "arrows" "Plan.arrows" sArrows fA fdA
  bA : Binds K fdA ["self"] []
  mT : Meth K C "ties" fT
  FT : Fun K "ties" "Plan.ties" sTies fT fdT
  bT : Binds K fdT ["self"] []
def spTieParts (K : PySem.W.Frag) (C : Addr) : Sp := fun vs H Q _ => ∃ (p : Addr) (n : Nat) (as ts : List (Int × Int)), vs = [.ref p] ∧ PlanAt K C H p n as ts ∧
  ∀ (H' : Hp) (l : Addr) (xs : List V), Same H H' → H l = none → H' l = some (.lst xs) → LsAt H' xs (partsL n ts) → FreshL H xs → (∀ x ∈ xs, x ≠ .ref l) → Q (.ref l) H'
section
variable {P : Program} {w : World} {K : PySem.W.Frag} {mg : Str → Option Value} {base : Heap}
theorem sc_width : FnScope ["self"] ["self"] (defScope sWidth) := ⟨rfl, rfl, rfl, by decide +kernel, rfl, by decide +kernel, by decide +kernel⟩
theorem ok_width {f C : Addr} {fd : FuncData} (F : Fun K "width" "Plan.width" sWidth f fd) (T : PlC K mg C) : FnOk P w K mg base CX0 1 f fd ["self"] (getSp C "_size") := by
  refine F.ok sc_width (fun vs H Q E h => ?_) (fun cdv A outer s H vs Q E hr h => ?_)
  · obtain ⟨a, dx, fs, v, rfl, _⟩ := h
    rfl
  · obtain ⟨a, dx, fs, v, rfl, ha, hl, q⟩ := h
    refine ⟨_, pss_one (ps_ret (pe_fld (pv 0) rfl)), ?_⟩
    exact ⟨_, rfl, a, C, dx, fs, v, rfl, ha, T.cl, T.nS, hl, q⟩
theorem sc_arrows : FnScope ["self"] ["self"] (defScope sArrows) := ⟨rfl, rfl, rfl, by decide +kernel, rfl, by decide +kernel, by decide +kernel⟩
theorem ok_arrows {f C : Addr} {fd : FuncData} (F : Fun K "arrows" "Plan.arrows" sArrows f fd) (T : PlC K mg C) (B : Bl mg) : FnOk P w K mg base CX0 1 f fd ["self"] (spArr K C) := by
  refine F.ok sc_arrows (fun vs H Q E h => ?_) (fun cdv A outer s H vs Q E hr h => ?_)
  · obtain ⟨p, n, as, ts, rfl, _⟩ := h
    rfl
  · obtain ⟨p, n, as, ts, rfl, ⟨⟨dx, a, t, hp, ⟨xs, h1, h2⟩, ht⟩, _⟩, q⟩ := h
    refine ⟨_, pss_one (ps_ret (pe_callTy call_list_of (by rfl) B.list PyProof.Rows.boot_list (pa_cons (pe_fld (pv 0) rfl) pa_nil))), ?_⟩
    refine ⟨_, rfl, p, C, dx, _, _, rfl, hp, T.cl, T.nA, pf_arr _ _ _, a, xs, rfl, .inl h1, fun l hl => ?_⟩
    exact q _ l (same_new hl) hl ⟨xs, sl_of upd_same, dps_s h2 (same_new hl)⟩
theorem sc_ties : FnScope ["self"] ["self"] (defScope sTies) := ⟨rfl, rfl, rfl, by decide +kernel, rfl, by decide +kernel, by decide +kernel⟩
theorem ok_ties {f C : Addr} {fd : FuncData} (F : Fun K "ties" "Plan.ties" sTies f fd) (T : PlC K mg C) (B : Bl mg) : FnOk P w K mg base CX0 1 f fd ["self"] (spTies K C) := by
  refine F.ok sc_ties (fun vs H Q E h => ?_) (fun cdv A outer s H vs Q E hr h => ?_)
  · obtain ⟨p, n, as, ts, rfl, _⟩ := h
    rfl
  · obtain ⟨p, n, as, ts, rfl, ⟨⟨dx, a, t, hp, ha, ⟨xs, h1, h2⟩⟩, _⟩, q⟩ := h
    refine ⟨_, pss_one (ps_ret (pe_callTy call_list_of (by rfl) B.list PyProof.Rows.boot_list (pa_cons (pe_fld (pv 0) rfl) pa_nil))), ?_⟩
    refine ⟨_, rfl, p, C, dx, _, _, rfl, hp, T.cl, T.nT, pf_ties _ _ _, t, xs, rfl, .inl h1, fun l hl => ?_⟩
    exact q _ l (same_new hl) hl ⟨xs, sl_of upd_same, dps_s h2 (same_new hl)⟩
theorem sc_chkPlan : FnScope ["plan"] ["plan"] (defScope sChkPlan) := ⟨rfl, rfl, rfl, by decide +kernel, rfl, by decide +kernel, by decide +kernel⟩
theorem ok_chkPlan {f C : Addr} {fd : FuncData} (F : Fun K "check_plan" "check_plan" sChkPlan f fd) (T : PlC K mg C) (I : C8.InsC K C) (B : Bl mg) : FnOk P w K mg base CX0 1 f fd ["plan"] (spChkPlan C) := by
  refine F.ok sc_chkPlan (fun vs H Q E h => ?_) (fun cdv A outer s H vs Q E hr h => ?_)
  · obtain ⟨p, dx, fs, rfl, _⟩ := h
    rfl
  · obtain ⟨p, dx, fs, rfl, hp, q⟩ := h
    refine ⟨_, pss_one (ps_if (pt_not (pt_val (pe_callB (C8.call_isC I) (by rfl) B.isi PyProof.Rows.boot_isinstance (pa_cons (pv 0) (pa_cons (pe_glob (v := .ref C) rfl T.mgC rfl) pa_nil))))) pss_never pss_nil), ?_⟩
    exact ⟨_, rfl, p, dx, fs, rfl, hp, true, rfl, iteF q⟩
theorem sc_turned : FnScope ["pairs", "start", "end"] ["pairs"] (defScope sTurned) := ⟨rfl, rfl, rfl, by decide +kernel, rfl, by decide +kernel, by decide +kernel⟩
theorem ok_turned {f : Addr} {fd : FuncData} (F : Fun K "turned" "turned" sTurned f fd) : FnOk P w K mg base CX0 1 f fd ["pairs"] (spTurned K) := by
  refine F.ok sc_turned (fun vs H Q E h => ?_) (fun cdv A outer s H vs Q E hr h => ?_)
  · obtain ⟨a, ps, rfl, _⟩ := h
    rfl
  · obtain ⟨a, ps, rfl, ⟨xs, hxs, hd⟩, few, q⟩ := h
    refine ⟨_, pss_one (ps_ret (pe_lc (own := [("start", 1), ("end", 2)]) (g := gTup K 2 (gCons (gName 1) (gCons (gName 2) gNil))) (tt := tYes) rfl sc_turned.nd (pi_list (pv 0)) (blkOk_by (N := ["pairs", "start", "end"]) (sc := defScope sTurned) (by decide +kernel))
            (fun _ _ _ _ _ => pg_tup rfl (pgs_cons (pg_name (i := 1) sc_turned.nd rfl (Or.inl rfl)) (pgs_cons (pg_name (i := 2) sc_turned.nd rfl (Or.inl rfl)) pgs_nil))) (fun _ _ _ _ _ => pts_nil)
            (fun _ _ _ _ _ => pe_tup (pa_cons (pv 2) (pa_cons (pv 1) pa_nil))))), ?_⟩
    have lx : xs.length = ps.length := by rw [dps_len hd, List.length_map]
    refine ⟨_, rfl, a, rfl, ⟨xs, hxs⟩, fun D hD => ?_⟩
    refine lc_list (xs := xs) (fun k G => Same H G ∧ ∃ acc, G D = some (.lst acc) ∧ TA G acc (ps.map swp) k) ⟨same_new hD, [], upd_same, ta_0 _ _⟩ (fun k G _ z => same_l z.1 hxs) ?_ ?_
    · rintro k x G hx ⟨sG, acc, hacc, ta⟩
      obtain ⟨⟨i, j⟩, t, hpk, rfl, ht⟩ := pl_at (dps_s hd sG) hx
      have hk := lt_of_at hpk
      refine ⟨t, _, rfl, ht, rfl, _, _, rfl, _, _, rfl, rfl, rfl, _, rfl, _, rfl, szle (by show 2 ≤ 100000; decide), fun v hv => ?_⟩
      have nvD : D ≠ v := fun e => by rw [← e, hacc] at hv; cases hv
      refine ⟨acc, by rw [upd_ne nvD]; exact hacc, szlt (by have := ta.1; omega), same_mut (sG.trans (same_new hv)) hD, acc ++ [.ref v], upd_same, ?_⟩
      exact ta_put (z := (j, i)) ta hacc hv (by rw [List.getElem?_map, hpk]; rfl)
    · rintro G ⟨sG, acc, hacc, ta⟩
      have e : xs.length = (ps.map swp).length := by rw [List.length_map]; exact lx
      rw [e] at ta
      exact q G D sG hD ⟨acc, hacc, ta_dps ta⟩
theorem sc_both : FnScope ["ties"] ["ties"] (defScope sBothWays) := ⟨rfl, rfl, rfl, by decide +kernel, rfl, by decide +kernel, by decide +kernel⟩
theorem ok_both {f f1 : Addr} {fd fd1 : FuncData} (F : Fun K "both_ways" "both_ways" sBothWays f fd) (D1 : Df K mg "turned" sTurned ["pairs"] f1 fd1) : FnOk P w K mg base CX0 2 f fd ["ties"] (spBoth K) := by
  have G1 : FnOk P w K mg base CX0 1 f1 fd1 ["pairs"] (spTurned K) := ok_turned D1.F
  refine F.ok sc_both (fun vs H Q E h => ?_) (fun cdv A outer s H vs Q E hr h => ?_)
  · obtain ⟨a, ps, rfl, _⟩ := h
    rfl
  · obtain ⟨a, ps, rfl, hp, few, q⟩ := h
    refine ⟨_, pss_one (ps_ret (pe_op op_cat (pv 0) (pe_call G1 hr rfl D1.g D1.F.kp D1.b .nil pass0 (pa_cons (pv 0) pa_nil)))), ?_⟩
    refine ⟨_, rfl, _, rfl, a, ps, rfl, pm_pl hp, few, fun H1 p s1 hp0 ⟨ys, hys, dy⟩ => ?_⟩
    obtain ⟨xs, hxs, dx⟩ := pm_s hp s1
    have lx : xs.length = ps.length := by rw [dps_len dx, List.length_map]
    have ly : ys.length = ps.length := by rw [dps_len dy, List.length_map, List.length_map]
    refine ⟨a, p, xs, ys, rfl, rfl, hxs, hys, szle (by omega), fun r hr' => ?_⟩
    refine q _ r (s1.trans (same_new hr')) (s1.free hr') ⟨_, upd_same, ?_⟩
    unfold both
    rw [List.map_append]
    exact dps_app (dps_s dx (same_new hr')) (dps_s dy (same_new hr'))
theorem ok_ties2 {f C : Addr} {fd : FuncData} (F : Fun K "ties" "Plan.ties" sTies f fd) (T : PlC K mg C) (B : Bl mg) : FnOk P w K mg base CX0 1 f fd ["self"] (spTies2 K C) := by
  refine F.ok sc_ties (fun vs H Q E h => ?_) (fun cdv A outer s H vs Q E hr h => ?_)
  · obtain ⟨p, n, as, ts, rfl, _⟩ := h
    rfl
  · obtain ⟨p, n, as, ts, rfl, ⟨⟨dx, a, t, hp, ha, ⟨xs, h1, h2⟩⟩, _⟩, q⟩ := h
    refine ⟨_, pss_one (ps_ret (pe_callTy call_list_of (by rfl) B.list PyProof.Rows.boot_list (pa_cons (pe_fld (pv 0) rfl) pa_nil))), ?_⟩
    refine ⟨_, rfl, p, C, dx, _, _, rfl, hp, T.cl, T.nT, pf_ties _ _ _, t, xs, rfl, .inl h1, fun l hl => ?_⟩
    exact q _ l (same_new hl) hl ⟨xs, upd_same, dps_s h2 (same_new hl)⟩
abbrev nTP : List Str := ["plan", "bonds", "parts", "thing", "part"]
theorem sc_tieParts : FnScope nTP ["plan"] (defScope sTieParts) := ⟨rfl, rfl, rfl, by decide +kernel, rfl, by decide +kernel, by decide +kernel⟩
theorem ok_tieParts {f f1 f5 f8 f9 C pW gW fA fT : Addr} {fd fd1 fd5 fd8 fd9 fdW fdA fdT : FuncData} (F : Fun K "tie_parts" "tie_parts" sTieParts f fd) (M : PlM K mg C pW gW fA fT fdW fdA fdT)
    (D1 : Df K mg "check_plan" sChkPlan ["plan"] f1 fd1) (D5 : Df K mg "reached" sReached ["pairs", "start"] f5 fd5) (D8 : Df K mg "both_ways" sBothWays ["ties"] f8 fd8) (D9 : Df K mg "turned" sTurned ["pairs"] f9 fd9) (B : Bl mg) : FnOk P w K mg base CX0 3 f fd ["plan"] (spTieParts K C) := by
  have G1 : FnOk P w K mg base CX0 1 f1 fd1 ["plan"] (spChkPlan C) := ok_chkPlan D1.F M.c M.ins B
  have G5 : FnOk P w K mg base CX0 1 f5 fd5 ["pairs", "start"] (spReached K) := ok_reached D5.F B
  have GT : FnOk P w K mg base CX0 1 fT fdT ["self"] (spTies2 K C) := ok_ties2 M.FT M.c B
  have G8 : FnOk P w K mg base CX0 2 f8 fd8 ["ties"] (spBoth K) := ok_both D8.F D9
  have GW : FnOk P w K mg base CX0 1 gW fdW ["self"] (getSp C "_size") := ok_width M.FW M.c
  refine F.ok sc_tieParts (fun vs H Q E h => ?_) (fun cdv A outer s H vs Q E hr h => ?_)
  · obtain ⟨p, n, as, ts, rfl, _⟩ := h
    rfl
  · obtain ⟨p, n, as, ts, rfl, hP, q⟩ := h
    have hr1 : Room 1 _ := hr.mono (by decide)
    have hr2 : Room 2 _ := hr.mono (by decide)
    refine ⟨_, pss_cons (ps_expr (pe_call G1 hr1 rfl D1.g D1.F.kp D1.b .nil pass0 (pa_cons (pv 0) pa_nil)))
      (pss_cons (ps_set (i := 1) sc_tieParts.nd rfl (Or.inr rfl) (pe_call G8 hr2 rfl D8.g D8.F.kp D8.b .nil pass0 (pa_cons (pe_meth0 (pv 0) M.c.cl M.mT GT hr1 M.bT .nil pass0) pa_nil)))
      (pss_cons (ps_setLc (i := 2) (own := [("thing", 3)]) (g := gName 3) (tt := tYes) (te := tCB (rSortedI K) (tCons (tCall (spReached K) [] E0 (tCons (tVar 1) (tCons (tVar 3) tNil))) tNil)) rfl sc_tieParts.nd rfl rfl (sw_true rfl rfl rfl (by decide +kernel))
            (pi_range1 rfl B.range (pa_cons (pe_prop (pv 0) M.c.cl M.prop GW hr M.bW .nil pass0 rfl) pa_nil)) (blkOk_by (N := nTP) (sc := defScope sTieParts) (by decide +kernel))
            (fun _ _ _ _ _ => pg_name (i := 3) sc_tieParts.nd rfl (Or.inl rfl)) (fun _ _ _ _ _ => pts_nil)
            (fun _ _ _ _ _ => pe_callB cr_sortedI (by rfl) B.sorted PyProof.Rows.boot_sorted (pa_cons (pe_call G5 hr1 rfl D5.g D5.F.kp D5.b .nil pass0 (pa_cons (pv 1) (pa_cons (pv 3) pa_nil))) pa_nil)))
      (pss_one (ps_ret (pe_lc (own := [("thing", 3), ("part", 4)]) (g := gTup K 2 (gCons (gName 3) (gCons (gName 4) gNil))) (tt := tTest (tOp rEq (tOp (rIxL K) (tVar 4) (tC (.int 0))) (tVar 3))) rfl sc_tieParts.nd
            (pi_enum rfl B.enumerate (pa_cons (pv 2) pa_nil)) (blkOk_by (N := nTP) (sc := defScope sTieParts) (by decide +kernel))
            (fun _ _ _ _ _ => pg_tup rfl (pgs_cons (pg_name (i := 3) sc_tieParts.nd rfl (Or.inl rfl)) (pgs_cons (pg_name (i := 4) sc_tieParts.nd rfl (Or.inl rfl)) pgs_nil)))
            (fun _ _ _ _ _ => pts_one (pt_cmpR op_eq (pe_ix ix_list (pv 4) pe_int (fun _ _ => rfl)) (pv 3) (nomark _))) (fun _ _ _ _ _ => pv 4)))))), ?_⟩
    obtain ⟨⟨dx, a, t, hp, ha, ht⟩, n6, pa, _, pt, lt⟩ := id hP
    have pfn : ∀ {m : Str}, ¬ m = "_size" → ¬ m = "_arrows" → ¬ m = "_ties" → (pf n a t).lookup m = none := fun h1 h2 h3 => pf_no _ _ _ h1 h2 h3
    refine ⟨_, rfl, p, dx, _, rfl, hp, ?_⟩
    refine ⟨_, rfl, p, dx, _, rfl, hp, pfn (by decide +kernel) (by decide +kernel) (by decide +kernel), p, n, as, ts, rfl, hP, fun H1 l1 s1 hl1 pm1 => ?_⟩
    refine ⟨l1, ts, rfl, pm1, pt.2.1, fun G1 lb s2 hlb pmb => ?_⟩
    have s0 : Same H H1 := s1
    have sG1 : Same H1 G1 := s2
    have plb := pm_pl pmb
    have pb := prs_both n6 pt lt
    have hpG : G1 p = _ := (s0.trans sG1) _ _ hp
    refine ⟨_, rfl, p, dx, _, rfl, hpG, p, dx, _, _, rfl, hpG, pf_size _ _ _, n, rfl, by omega, by omega, fun D2 hD2 => ?_⟩
    refine lc_range (lo := 0) (n := ((n : Nat) : Int).toNat) (fun k G2 => ∃ ac, Same G1 G2 ∧ G2 D2 = some (.lst ac) ∧ LsAt G2 ac ((things k).map (cl n ts)) ∧ ac.Nodup ∧ ∀ x ∈ ac, ∃ r, x = V.ref r ∧ G1 r = none ∧ r ≠ D2)
      ⟨[], same_new hD2, upd_same, trivial, List.nodup_nil, (fun _ h => nomatch h)⟩ ?_ ?_
    · rintro k G2 hk ⟨ac, sG2, hD2', ls, nd, fr⟩
      have hk' : k < n := by omega
      have hst : (0 + (k : Int)) ∈ things n := mem_things.mpr ⟨by omega, by omega⟩
      refine ⟨rfl, _, rfl, _, rfl, n, lb, 0 + (k : Int), both ts, rfl, pl_s plb sG2, by omega, pb, hst, fun G3 m fo s3 hm hf nf th re => ?_⟩
      refine ⟨m, fo, rfl, sl_of hf, fun ys l pm pw hl => ?_⟩
      have ey : ys = cl n ts (0 + (k : Int)) := rise_cl (le_nodup_lt pw (pm.nodup_iff.mpr nf)) fun y => by
        rw [pm.mem_iff]
        exact ⟨fun h => ⟨th y h, (re y).mp h⟩, fun h => (re y).mpr h.2⟩
      have e0 : (0 + (k : Int)) = Int.ofNat k := Int.zero_add _
      rw [e0] at ey
      have acl := ls_len ls
      rw [List.length_map, things_len] at acl
      have hD23 : G3 D2 = some (.lst ac) := s3 _ _ hD2'
      have nlD : l ≠ D2 := fun e => by rw [e, hD23] at hl; cases hl
      have hl1' : G1 l = none := (sG2.trans s3).free hl
      refine ⟨ac, by rw [upd_ne nlD.symm]; exact hD23, szlt (by omega), ac ++ [.ref l], same_mut ((sG2.trans s3).trans (same_new hl)) hD2, upd_same, ?_, ?_, ?_⟩
      · rw [things_succ, List.map_append]
        refine ls_mut (ls_app (ls_s (s3.trans (same_new hl)) ls) ⟨⟨l, rfl, by rw [upd_same, ey]⟩, trivial⟩) fun y hy => ?_
        rcases List.mem_append.mp hy with z | z
        · obtain ⟨r, rfl, _, nr⟩ := fr y z
          exact fun e => nr (V.ref.inj e)
        · simp at z
          rw [z]
          exact fun e => nlD (V.ref.inj e)
      · rw [List.nodup_append]
        refine ⟨nd, by simp, ?_⟩
        intro y hy z hz e
        simp at hz
        subst hz
        subst e
        obtain ⟨i, hi⟩ := List.getElem?_of_mem hy
        obtain ⟨o, r, _, er, hr'⟩ := ls_at ls hi
        cases er
        rw [s3 _ _ hr'] at hl
        cases hl
      · intro y hy
        rcases List.mem_append.mp hy with z | z
        · exact fr y z
        · simp at z
          exact ⟨l, z, hl1', nlD⟩
    rintro G2 ⟨ac, sG2, hD2', ls, nd, fr⟩
    have en : ((n : Nat) : Int).toNat = n := by omega
    rw [en] at ls
    have acl := ls_len ls
    rw [List.length_map, things_len] at acl
    refine ⟨_, rfl, D2, ac, rfl, sl_of hD2', fun D3 hD3 => ?_⟩
    refine lc_it (walk_enum (K := K) (a := D2) (xs := ac)) (fun i G3 => ∃ out, Same G2 G3 ∧ G3 D3 = some (.lst out) ∧ LsAt G3 out (((things i).filter (isHd n ts)).map (cl n ts)) ∧ out.Sublist (ac.take i))
      ⟨[], same_new hD3, upd_same, trivial, List.nil_sublist _⟩ (fun i G3 _ z => by obtain ⟨_, z, _⟩ := z; exact sl_of (z _ _ hD2')) ?_ ?_
    · rintro i v G3 G4 hi ⟨out, s3, hD3', lsO, sub⟩ ⟨T, x, y, rfl, hT, rfl, hx, hy⟩
      cases hx
      obtain ⟨o, r, ho, rfl, hr'⟩ := ls_at ls hy
      rw [List.getElem?_map] at ho
      have hti : (things n)[i]? = some (Int.ofNat i) := by
        unfold things
        rw [List.getElem?_map, List.getElem?_range (by omega)]; rfl
      rw [hti] at ho
      have ho' : o = cl n ts (Int.ofNat i) := (Option.some.inj ho).symm
      subst ho'
      have him : Int.ofNat i ∈ things n := List.mem_of_getElem? hti
      obtain ⟨h0, cr, hcl⟩ : ∃ h0 cr, cl n ts (Int.ofNat i) = h0 :: cr := by
        cases e : cl n ts (Int.ofNat i) with
        | nil => have := cl_self (ts := ts) him; rw [e] at this; exact nomatch this
        | cons a b => exact ⟨a, b, rfl⟩
      have s4 : Same G3 (upd G3 T (.tup [.int (i : Nat), .ref r])) := same_new hT
      have hr4 := s4 _ _ (s3 _ _ hr')
      have hD4 := s4 _ _ hD3'
      have ol := sub.length_le
      rw [List.length_take] at ol
      have isH : isHd n ts (Int.ofNat i) = decide (h0 = Int.ofNat i) := by unfold isHd; rw [hcl]; rfl
      refine ⟨T, _, rfl, st_of upd_same, rfl, _, _, rfl, _, _, rfl, rfl, rfl, ?_⟩
      refine ⟨_, rfl, r, _, 0, V.int h0, rfl, rfl, sl_of hr4, by rw [hcl]; exact at0, _, rfl, rfl, decide (h0 = Int.ofNat i), dec_bl, ?_⟩
      by_cases c : h0 = Int.ofNat i
      · rw [decide_eq_true c]
        refine ⟨_, rfl, out, hD4, szlt (by omega), out ++ [.ref r], same_mut (s3.trans s4) hD3, upd_same, ?_, ?_⟩
        · rw [things_succ, List.filter_append, List.map_append]
          have e1 : [Int.ofNat i].filter (isHd n ts) = [Int.ofNat i] := by
            rw [List.filter_cons_of_pos (by rw [isH, decide_eq_true c])]; rfl
          rw [e1]
          refine ls_mut (ls_app (ls_s s4 lsO) ⟨⟨r, rfl, hr4⟩, trivial⟩) fun y hy' => ?_
          rcases List.mem_append.mp hy' with z | z
          · obtain ⟨j, hj⟩ := List.getElem?_of_mem (List.mem_of_mem_take (sub.subset z))
            obtain ⟨_, r2, _, er, hr2⟩ := ls_at ls hj
            rw [er]
            exact fun e => by rw [V.ref.inj e, hD3] at hr2; cases hr2
          · simp at z
            rw [z]
            exact fun e => by rw [V.ref.inj e, hD3] at hr'; cases hr'
        · rw [take_at hy]
          exact List.Sublist.append sub (List.Sublist.refl _)
      · rw [decide_eq_false c]
        refine iteF ⟨out, s3.trans s4, hD4, ?_, ?_⟩
        · rw [things_succ, List.filter_append, List.map_append]
          have e1 : [Int.ofNat i].filter (isHd n ts) = [] := by
            rw [List.filter_cons_of_neg (by rw [isH, decide_eq_false c]; decide)]; rfl
          rw [e1, List.map_nil, List.append_nil]
          exact ls_s s4 lsO
        · rw [take_at hy]
          exact sub.trans (List.sublist_append_left _ _)
    · rintro G3 ⟨out, s3, hD3', lsO, sub⟩
      rw [acl] at lsO
      have s0' : Same H G2 := (s0.trans sG1).trans sG2
      refine q G3 D3 out (s0'.trans s3) (s0'.free hD3) hD3' lsO ⟨(sub.trans (List.take_sublist _ _)).nodup nd, fun x hx => ?_⟩ fun x hx => ?_
      · obtain ⟨r, e1, e2, _⟩ := fr x (List.mem_of_mem_take (sub.subset hx))
        exact ⟨r, e1, (s0.trans sG1).free e2⟩
      · obtain ⟨j, hj⟩ := List.getElem?_of_mem (List.mem_of_mem_take (sub.subset hx))
        obtain ⟨_, r2, _, er, hr2⟩ := ls_at ls hj
        rw [er]
        exact fun e => by rw [V.ref.inj e, hD3] at hr2; cases hr2
end
end Tk

namespace Tk
open PySem PySem.Spec PyProof.Rows L2
/-- pairs that are all among others -/
def spAreSome (K : PySem.W.Frag) : Sp := fun vs H Q _ => ∃ (n : Int) (a b : Addr) (ps us : List (Int × Int)), vs = [.int n, .ref a, .ref b] ∧ PL K H a ps ∧ Prs n ps ∧ PL K H b us ∧ (∀ p ∈ ps, p ∈ us) ∧ ∀ H', Same H H' → Q (.bl true) H'
def spWithMore (K : PySem.W.Frag) (C : Addr) : Sp := fun vs H Q _ => ∃ (p a t : Addr) (n : Nat) (as ts ma mt : List (Int × Int)), vs = [.ref p, .ref a, .ref t] ∧ PlanAt K C H p n as ts ∧ PL K H a ma ∧ PL K H t mt ∧
  Prs n ma ∧ Prs n (as ++ ma) ∧ Acy (as ++ ma) ∧ Prs n mt ∧ Prs n (ts ++ mt) ∧ (∀ q ∈ mt, q.1 < q.2) ∧
  ∀ (H' : Hp) (x : Addr) (as' ts' : List (Int × Int)), Same H H' → H x = none → as'.Perm (as ++ ma) → ts'.Perm (ts ++ mt) → PlanAt K C H' x n as' ts' → Q (.ref x) H'
def spWithout (K : PySem.W.Frag) (C : Addr) : Sp := fun vs H Q _ => ∃ (p a t : Addr) (n : Nat) (as ts la lt : List (Int × Int)), vs = [.ref p, .ref a, .ref t] ∧ PlanAt K C H p n as ts ∧ PL K H a la ∧ PL K H t lt ∧
  Prs n la ∧ (∀ q ∈ la, q ∈ as) ∧ Prs n lt ∧ (∀ q ∈ lt, q ∈ ts) ∧
  ∀ (H' : Hp) (x : Addr) (as' ts' : List (Int × Int)), Same H H' → H x = none → as'.Perm (as.filter fun q => !decide (q ∈ la)) → ts'.Perm (ts.filter fun q => !decide (q ∈ lt)) → PlanAt K C H' x n as' ts' → Q (.ref x) H'
theorem prs_sub {n : Int} {ps qs : List (Int × Int)} (h : Prs n ps) (s : qs.Sublist ps) : Prs n qs := ⟨h.1.sublist s, Nat.lt_of_le_of_lt s.length_le h.2.1, fun p hp => h.2.2 p (s.subset hp)⟩
theorem acy_sub {ps qs : List (Int × Int)} (h : Acy ps) (s : ∀ p ∈ qs, p ∈ ps) : Acy qs := let ⟨r, hr⟩ := h; ⟨r, fun p hp => hr p (s p hp)⟩
section
variable {P : Program} {w : World} {K : PySem.W.Frag} {mg : Str → Option Value} {base : Heap}
abbrev nSome : List Str := ["size", "value", "pairs", "pair"]
theorem sc_areSome : FnScope nSome ["size", "value", "pairs"] (defScope sAreSome) := ⟨rfl, rfl, rfl, by decide +kernel, rfl, by decide +kernel, by decide +kernel⟩
theorem ok_areSome {f f5 : Addr} {fd fd5 : FuncData} (F : Fun K "are_some" "are_some" sAreSome f fd) (D5 : Df K mg "are_pairs" sArePairs ["size", "value"] f5 fd5) (G5 : FnOk P w K mg base CX0 5 f5 fd5 ["size", "value"] (spArePairs K))
    (B : Bl mg) : FnOk P w K mg base CX0 6 f fd ["size", "value", "pairs"] (spAreSome K) := by
  refine F.ok sc_areSome (fun vs H Q E h => ?_) (fun cdv A outer s H vs Q E hr h => ?_)
  · obtain ⟨n, a, b, ps, us, rfl, _⟩ := h
    rfl
  · obtain ⟨n, a, b, ps, us, rfl, hp, hps, hu, sub, q⟩ := h
    refine ⟨_, pss_one (ps_ret (pe_and (pe_call G5 hr rfl D5.g D5.F.kp D5.b .nil pass0 (pa_cons (pv 0) (pa_cons (pv 1) pa_nil)))
      (pe_one (pe_callB (cr_all rfl) (by rfl) B.all PyProof.Rows.boot_all (pa_cons
          (pe_lc (own := [("pair", 3)]) (g := gName 3) (tt := tYes) (te := tOp (rInD K) (tVar 3) (tVar 2)) rfl sc_areSome.nd (pi_list (pv 1)) (blkOk_by (N := nSome) (sc := defScope sAreSome) (by decide +kernel))
            (fun _ _ _ _ _ => pg_name (i := 3) sc_areSome.nd rfl (Or.inl rfl)) (fun _ _ _ _ _ => pts_nil)
            (fun _ _ _ _ _ => pe_cmpR (op_inD (units65 hr)) (pv 3) (pv 2) (by rfl))) pa_nil))))), ?_⟩
    refine ⟨_, rfl, _, rfl, n, a, ps, rfl, hp, hps, fun H1 s1 => ⟨true, rfl, iteT ?_⟩⟩
    obtain ⟨xs, hxs, hd⟩ := pl_s hp s1
    refine ⟨_, rfl, a, rfl, ⟨xs, hxs⟩, fun D hD => ?_⟩
    refine lc_list (xs := xs) (LcP H1 D fun k => (List.replicate k (.bl true))) (lcp_0 hD rfl) (fun k H2 _ p => same_l p.1 hxs) ?_ ?_
    · intro k x H2 hx p
      have hk := lt_of_at hx
      have hl : xs.length = ps.length := by rw [dps_len hd, List.length_map]
      obtain ⟨⟨i, j⟩, t, hpk, rfl, ht⟩ := pl_at (dps_s hd p.1) hx
      have hij := sub (i, j) (List.mem_of_getElem? hpk)
      obtain ⟨ys, hys, hdy⟩ := pl_s hu (s1.trans p.1)
      refine ⟨rfl, _, rfl, _, rfl, dP (i, j), us.map dP, dP_mk ht, .lst hys hdy, shaped_pair _, shaped_pairs _, ?_⟩
      rw [any_pairs, decide_eq_true hij]
      exact lcp_put hD p (by simp [List.replicate_succ']) (by have := hps.2.1; simp; omega)
    · intro H2 p
      refine ⟨D, List.replicate xs.length true, rfl, sl_of (by rw [List.map_replicate]; exact p.2), ?_⟩
      have e : (List.replicate xs.length true).all id = true := List.all_eq_true.mpr fun b hb => (List.mem_replicate.mp hb).2
      rw [e]
      exact q H2 (s1.trans p.1)
abbrev nWM : List Str := ["plan", "arrows", "ties", "size"]
theorem sc_withMore : FnScope nWM ["plan", "arrows", "ties"] (defScope sWithMore) := ⟨rfl, rfl, rfl, by decide +kernel, rfl, by decide +kernel, by decide +kernel⟩
theorem ok_withMore {f f1 f5 f6 f7 fI C pW gW fA fT : Addr} {fd fd1 fd5 fd6 fd7 dI fdW fdA fdT : FuncData} (F : Fun K "with_more" "with_more" sWithMore f fd) (M : PlM K mg C pW gW fA fT fdW fdA fdT)
    (D1 : Df K mg "check_plan" sChkPlan ["plan"] f1 fd1) (D5 : Df K mg "are_pairs" sArePairs ["size", "value"] f5 fd5) (G5 : FnOk P w K mg base CX0 5 f5 fd5 ["size", "value"] (spArePairs K))
    (D6 : Df K mg "are_arrows" sAreArr ["size", "value"] f6 fd6) (G6 : FnOk P w K mg base CX0 6 f6 fd6 ["size", "value"] (spAreArr K)) (D7 : Df K mg "are_ties" sAreTies ["size", "value"] f7 fd7) (G7 : FnOk P w K mg base CX0 6 f7 fd7 ["size", "value"] (spAreTies K))
    (MI : Mk K C fI) (bI : Binds K dI ["self", "size", "arrows", "ties"] []) (GI : FnOk P w K mg base CX0 7 fI dI ["self", "size", "arrows", "ties"] (spInit K C)) (B : Bl mg) :
    FnOk P w K mg base CX0 9 f fd ["plan", "arrows", "ties"] (spWithMore K C) := by
  have G1 : FnOk P w K mg base CX0 1 f1 fd1 ["plan"] (spChkPlan C) := ok_chkPlan D1.F M.c M.ins B
  have GA : FnOk P w K mg base CX0 1 fA fdA ["self"] (spArr K C) := ok_arrows M.FA M.c B
  have GT : FnOk P w K mg base CX0 1 fT fdT ["self"] (spTies K C) := ok_ties M.FT M.c B
  have GW : FnOk P w K mg base CX0 1 gW fdW ["self"] (getSp C "_size") := ok_width M.FW M.c
  refine F.ok sc_withMore (fun vs H Q E h => ?_) (fun cdv A outer s H vs Q E hr h => ?_)
  · obtain ⟨p, a, t, n, as, ts, ma, mt, rfl, _⟩ := h
    rfl
  · obtain ⟨p, a, t, n, as, ts, ma, mt, rfl, hP, hma, hmt, pma, pall, acy, pmt, ptall, ltm, q⟩ := h
    have hr1 : Room 1 _ := hr.mono (by decide)
    have hr2 : Room 2 _ := hr.mono (by decide)
    have hr5 : Room 5 _ := hr.mono (by decide)
    have hr6 : Room 6 _ := hr.mono (by decide)
    refine ⟨_, pss_cons (ps_expr (pe_call G1 hr1 rfl D1.g D1.F.kp D1.b .nil pass0 (pa_cons (pv 0) pa_nil)))
      (pss_cons (ps_set (i := 3) sc_withMore.nd rfl (Or.inl rfl) (pe_prop (pv 0) M.c.cl M.prop GW hr2 M.bW .nil pass0 rfl))
      (pss_cons (ps_if (PW.pt (pw_or (pt_not (pt_val (pe_call G5 hr5 rfl D5.g D5.F.kp D5.b .nil pass0 (pa_cons (pv 3) (pa_cons (pv 1) pa_nil)))))
          (pw_or1 (pt_not (pt_val (pe_call G6 hr6 rfl D6.g D6.F.kp D6.b .nil pass0 (pa_cons (pv 3) (pa_cons (pe_lst (StX.pa_star (pe_meth0 (pv 0) M.c.cl M.mA GA hr1 M.bA .nil pass0) (StX.pa_star (pv 1) pa_nil))) pa_nil)))))))) pss_never pss_nil)
      (pss_cons (ps_if (PW.pt (pw_or (pt_not (pt_val (pe_call G5 hr5 rfl D5.g D5.F.kp D5.b .nil pass0 (pa_cons (pv 3) (pa_cons (pv 2) pa_nil)))))
          (pw_or1 (pt_not (pt_val (pe_call G7 hr6 rfl D7.g D7.F.kp D7.b .nil pass0 (pa_cons (pv 3) (pa_cons (pe_lst (StX.pa_star (pe_meth0 (pv 0) M.c.cl M.mT GT hr1 M.bT .nil pass0) (StX.pa_star (pv 2) pa_nil))) pa_nil)))))))) pss_never pss_nil)
      (pss_one (ps_ret (pe_make MI GI hr rfl M.c.mgC bI .nil pass0 (pa_cons (pv 3) (pa_cons (pe_lst (StX.pa_star (pe_meth0 (pv 0) M.c.cl M.mA GA hr1 M.bA .nil pass0) (StX.pa_star (pv 1) pa_nil))) (pa_cons (pe_lst (StX.pa_star (pe_meth0 (pv 0) M.c.cl M.mT GT hr1 M.bT .nil pass0) (StX.pa_star (pv 2) pa_nil))) pa_nil))))))))), ?_⟩
    obtain ⟨⟨dx, a0, t0, hp, _⟩, n6, _, _, _, lt⟩ := id hP
    have ltall : ∀ z ∈ ts ++ mt, z.1 < z.2 := fun z hz => by
      rcases List.mem_append.mp hz with c | c
      · exact lt z c
      · exact ltm z c
    have few1 := pall.2.1
    have few2 := ptall.2.1
    rw [List.length_append] at few1 few2
    have pfn : ∀ {m : Str}, ¬ m = "_size" → ¬ m = "_arrows" → ¬ m = "_ties" → (pf n a0 t0).lookup m = none := fun h1 h2 h3 => pf_no _ _ _ h1 h2 h3
    refine ⟨_, rfl, p, dx, _, rfl, hp, ?_⟩
    refine ⟨_, rfl, p, dx, _, rfl, hp, p, dx, _, _, rfl, hp, pf_size _ _ _, ?_⟩
    refine ⟨_, rfl, _, rfl, n, a, ma, rfl, hma, pma, fun H1 s1 => ⟨true, rfl, iteF ?_⟩⟩
    -- [*plan.arrows(), *arrows]
    refine ⟨_, rfl, _, rfl, p, dx, _, rfl, s1 _ _ hp, pfn (by decide +kernel) (by decide +kernel) (by decide +kernel), p, n, as, ts, rfl, plan_s hP s1, fun H2 l2 s2 hl2 ⟨x2, hx2, d2⟩ => ?_⟩
    have s12 := s1.trans s2
    obtain ⟨y2, hy2, e2⟩ := pl_s hma s12
    have lx2 : x2.length = as.length := by rw [dps_len d2, List.length_map]
    have ly2 : y2.length = ma.length := by rw [dps_len e2, List.length_map]
    refine ⟨l2, x2, rfl, .inr hx2, _, rfl, a, y2, rfl, .inr hy2, szle (by simp; omega), fun lb hlb => ?_⟩
    have s13 : Same H (upd H2 lb (.lst (x2 ++ (y2 ++ [])))) := s12.trans (same_new hlb)
    have plb : PL K (upd H2 lb (.lst (x2 ++ (y2 ++ [])))) lb (as ++ ma) := ⟨_, sl_of upd_same, by
      rw [List.map_append, List.append_nil]
      exact dps_app (dps_s d2 (same_new hlb)) (dps_s e2 (same_new hlb))⟩
    generalize upd H2 lb (.lst (x2 ++ (y2 ++ []))) = H3 at s13 plb
    refine ⟨n, lb, as ++ ma, rfl, plb, by omega, pall, acy, fun H4 s4 => ⟨true, rfl, iteF ?_⟩⟩
    have s14 := s13.trans s4
    refine ⟨_, rfl, _, rfl, n, t, mt, rfl, pl_s hmt s14, pmt, fun H5 s5 => ⟨true, rfl, iteF ?_⟩⟩
    have s15 := s14.trans s5
    refine ⟨_, rfl, _, rfl, p, dx, _, rfl, s15 _ _ hp, pfn (by decide +kernel) (by decide +kernel) (by decide +kernel), p, n, as, ts, rfl, plan_s hP s15, fun H6 l6 s6 hl6 ⟨x6, hx6, d6⟩ => ?_⟩
    have s16 := s15.trans s6
    obtain ⟨y6, hy6, e6⟩ := pl_s hmt s16
    have lx6 : x6.length = ts.length := by rw [dps_len d6, List.length_map]
    have ly6 : y6.length = mt.length := by rw [dps_len e6, List.length_map]
    refine ⟨l6, x6, rfl, .inr hx6, _, rfl, t, y6, rfl, .inr hy6, szle (by simp; omega), fun lc hlc => ?_⟩
    have s17 : Same H (upd H6 lc (.lst (x6 ++ (y6 ++ [])))) := s16.trans (same_new hlc)
    have plc : PL K (upd H6 lc (.lst (x6 ++ (y6 ++ [])))) lc (ts ++ mt) := ⟨_, sl_of upd_same, by
      rw [List.map_append, List.append_nil]
      exact dps_app (dps_s d6 (same_new hlc)) (dps_s e6 (same_new hlc))⟩
    generalize upd H6 lc (.lst (x6 ++ (y6 ++ []))) = H7 at s17 plc
    refine ⟨n, lc, ts ++ mt, rfl, plc, ptall, ltall, fun H8 s8 => ⟨true, rfl, iteF ?_⟩⟩
    have s18 := s17.trans s8
    -- the plan
    refine ⟨_, rfl, _, rfl, p, dx, _, rfl, s18 _ _ hp, pfn (by decide +kernel) (by decide +kernel) (by decide +kernel), p, n, as, ts, rfl, plan_s hP s18, fun H9 l9 s9 hl9 ⟨x9, hx9, d9⟩ => ?_⟩
    have s19 := s18.trans s9
    obtain ⟨y9, hy9, e9⟩ := pl_s hma s19
    have lx9 : x9.length = as.length := by rw [dps_len d9, List.length_map]
    have ly9 : y9.length = ma.length := by rw [dps_len e9, List.length_map]
    refine ⟨l9, x9, rfl, .inr hx9, _, rfl, a, y9, rfl, .inr hy9, szle (by simp; omega), fun ld hld => ?_⟩
    have s1a : Same H (upd H9 ld (.lst (x9 ++ (y9 ++ [])))) := s19.trans (same_new hld)
    have pld : PL K (upd H9 ld (.lst (x9 ++ (y9 ++ [])))) ld (as ++ ma) := ⟨_, sl_of upd_same, by
      rw [List.map_append, List.append_nil]
      exact dps_app (dps_s d9 (same_new hld)) (dps_s e9 (same_new hld))⟩
    generalize upd H9 ld (.lst (x9 ++ (y9 ++ []))) = Ha at s1a pld
    refine ⟨_, rfl, p, dx, _, rfl, s1a _ _ hp, pfn (by decide +kernel) (by decide +kernel) (by decide +kernel), p, n, as, ts, rfl, plan_s hP s1a, fun Hb l10 s10 hl10 ⟨x10, hx10, d10⟩ => ?_⟩
    have s1b := s1a.trans s10
    obtain ⟨y10, hy10, e10⟩ := pl_s hmt s1b
    have lx10 : x10.length = ts.length := by rw [dps_len d10, List.length_map]
    have ly10 : y10.length = mt.length := by rw [dps_len e10, List.length_map]
    refine ⟨l10, x10, rfl, .inr hx10, _, rfl, t, y10, rfl, .inr hy10, szle (by simp; omega), fun le hle => ?_⟩
    have s1c : Same H (upd Hb le (.lst (x10 ++ (y10 ++ [])))) := s1b.trans (same_new hle)
    have ple : PL K (upd Hb le (.lst (x10 ++ (y10 ++ [])))) le (ts ++ mt) := ⟨_, sl_of upd_same, by
      rw [List.map_append, List.append_nil]
      exact dps_app (dps_s d10 (same_new hle)) (dps_s e10 (same_new hle))⟩
    have pld' : PL K (upd Hb le (.lst (x10 ++ (y10 ++ [])))) ld (as ++ ma) := pl_s pld (s10.trans (same_new hle))
    generalize upd Hb le (.lst (x10 ++ (y10 ++ []))) = Hc at s1c ple pld'
    intro x dx' nx ndx nex
    have sm : Same Hc (upd (upd Hc dx' (.own x)) x (.ins C dx' [])) := fun b o e => by
      rw [upd_ne (ne_of_none e nx), upd_ne (ne_of_none e ndx)]
      exact e
    refine ⟨x, dx', ld, le, n, as ++ ma, ts ++ mt, rfl, upd_same, pl_s pld' sm, pl_s ple sm, n6, pall, acy, ptall, ltall, fun Hd as' ts' keep sA sT PA => ⟨rfl, ?_⟩⟩
    have sd : Same H Hd := s1c.trans fun b o e => keep b o (ne_of_none e nx) (sm b o e)
    exact q Hd x as' ts' sd (s1c.free nx) sA.1 sT.1 PA
end
end Tk

namespace Tk
open PySem PySem.Spec PyProof.Rows L2
def keepL (us ps : List (Int × Int)) : List (Int × Int) := ps.filter fun q => !decide (q ∈ us)
theorem keepL_take {us ps : List (Int × Int)} {i : Nat} {p : Int × Int} (h : ps[i]? = some p) : keepL us (ps.take (i + 1)) = if p ∈ us then keepL us (ps.take i) else keepL us (ps.take i) ++ [p] := by
  unfold keepL
  rw [take_at h, List.filter_append]
  by_cases c : p ∈ us
  · simp [c]
  · simp [c]
section
variable {P : Program} {w : World} {K : PySem.W.Frag} {mg : Str → Option Value} {base : Heap}
abbrev nWO : List Str := ["plan", "arrows", "ties", "size", "left", "arrow", "tie"]
theorem sc_without : FnScope nWO ["plan", "arrows", "ties"] (defScope sWithout) := ⟨rfl, rfl, rfl, by decide +kernel, rfl, by decide +kernel, by decide +kernel⟩
theorem ok_without {f f1 f6 fI C pW gW fA fT : Addr} {fd fd1 fd6 dI fdW fdA fdT : FuncData} (F : Fun K "without" "without" sWithout f fd) (M : PlM K mg C pW gW fA fT fdW fdA fdT)
    (D1 : Df K mg "check_plan" sChkPlan ["plan"] f1 fd1) (D6 : Df K mg "are_some" sAreSome ["size", "value", "pairs"] f6 fd6) (G6 : FnOk P w K mg base CX0 6 f6 fd6 ["size", "value", "pairs"] (spAreSome K))
    (MI : Mk K C fI) (bI : Binds K dI ["self", "size", "arrows", "ties"] []) (GI : FnOk P w K mg base CX0 7 fI dI ["self", "size", "arrows", "ties"] (spInit K C)) (B : Bl mg) :
    FnOk P w K mg base CX0 9 f fd ["plan", "arrows", "ties"] (spWithout K C) := by
  have G1 : FnOk P w K mg base CX0 1 f1 fd1 ["plan"] (spChkPlan C) := ok_chkPlan D1.F M.c M.ins B
  have GA : FnOk P w K mg base CX0 1 fA fdA ["self"] (spArr K C) := ok_arrows M.FA M.c B
  have GT : FnOk P w K mg base CX0 1 fT fdT ["self"] (spTies K C) := ok_ties M.FT M.c B
  have GW : FnOk P w K mg base CX0 1 gW fdW ["self"] (getSp C "_size") := ok_width M.FW M.c
  refine F.ok sc_without (fun vs H Q E h => ?_) (fun cdv A outer s H vs Q E hr h => ?_)
  · obtain ⟨p, a, t, n, as, ts, ma, mt, rfl, _⟩ := h
    rfl
  · obtain ⟨p, a, t, n, as, ts, la, lt', rfl, hP, hla, hlt, pla, sla, plt, slt, q⟩ := h
    have hr1 : Room 1 _ := hr.mono (by decide)
    have hr2 : Room 2 _ := hr.mono (by decide)
    have hr6 : Room 6 _ := hr.mono (by decide)
    have hu := units65 hr
    refine ⟨_, pss_cons (ps_expr (pe_call G1 hr1 rfl D1.g D1.F.kp D1.b .nil pass0 (pa_cons (pv 0) pa_nil)))
      (pss_cons (ps_set (i := 3) sc_without.nd rfl (Or.inl rfl) (pe_prop (pv 0) M.c.cl M.prop GW hr2 M.bW .nil pass0 rfl))
      (pss_cons (ps_if (pt_not (pt_val (pe_call G6 hr6 rfl D6.g D6.F.kp D6.b .nil pass0 (pa_cons (pv 3) (pa_cons (pv 1) (pa_cons (pe_meth0 (pv 0) M.c.cl M.mA GA hr1 M.bA .nil pass0) pa_nil)))))) pss_never pss_nil)
      (pss_cons (ps_if (pt_not (pt_val (pe_call G6 hr6 rfl D6.g D6.F.kp D6.b .nil pass0 (pa_cons (pv 3) (pa_cons (pv 2) (pa_cons (pe_meth0 (pv 0) M.c.cl M.mT GT hr1 M.bT .nil pass0) pa_nil)))))) pss_never pss_nil)
      (pss_cons (ps_setLc (i := 4) (own := [("arrow", 5)]) (g := gName 5) (tt := tTest (tOp (rNotInD K) (tVar 5) (tVar 1))) rfl sc_without.nd rfl rfl (sw_true rfl rfl rfl (by decide +kernel)) (pi_list (pe_meth0 (pv 0) M.c.cl M.mA GA hr1 M.bA .nil pass0)) (blkOk_by (N := nWO) (sc := defScope sWithout) (by decide +kernel))
            (fun _ _ _ _ _ => pg_name (i := 5) sc_without.nd rfl (Or.inl rfl)) (fun _ _ _ _ _ => pts_one (pt_cmpR (op_notInD hu) (pv 5) (pv 1) (by rfl))) (fun _ _ _ _ _ => pv 5))
      (pss_one (ps_ret (pe_make MI GI hr rfl M.c.mgC bI .nil pass0 (pa_cons (pv 3) (pa_cons (pv 4) (pa_cons
          (pe_lc (own := [("tie", 6)]) (g := gName 6) (tt := tTest (tOp (rNotInD K) (tVar 6) (tVar 2))) rfl sc_without.nd (pi_list (pe_meth0 (pv 0) M.c.cl M.mT GT hr1 M.bT .nil pass0)) (blkOk_by (N := nWO) (sc := defScope sWithout) (by decide +kernel))
            (fun _ _ _ _ _ => pg_name (i := 6) sc_without.nd rfl (Or.inl rfl)) (fun _ _ _ _ _ => pts_one (pt_cmpR (op_notInD hu) (pv 6) (pv 2) (by rfl))) (fun _ _ _ _ _ => pv 6)) pa_nil)))))))))), ?_⟩
    obtain ⟨⟨dx, a0, t0, hp, _⟩, n6, pas, acy, pts, lt⟩ := id hP
    have pfn : ∀ {m : Str}, ¬ m = "_size" → ¬ m = "_arrows" → ¬ m = "_ties" → (pf n a0 t0).lookup m = none := fun h1 h2 h3 => pf_no _ _ _ h1 h2 h3
    refine ⟨_, rfl, p, dx, _, rfl, hp, ?_⟩
    refine ⟨_, rfl, p, dx, _, rfl, hp, p, dx, _, _, rfl, hp, pf_size _ _ _, ?_⟩
    refine ⟨_, rfl, _, rfl, _, rfl, p, dx, _, rfl, hp, pfn (by decide +kernel) (by decide +kernel) (by decide +kernel), p, n, as, ts, rfl, hP, fun H1 l1 s1 hl1 pl1 => ?_⟩
    refine ⟨n, a, l1, la, as, rfl, pl_s hla s1, pla, pl1, sla, fun H2 s2 => ⟨true, rfl, iteF ?_⟩⟩
    have s02 := s1.trans s2
    refine ⟨_, rfl, _, rfl, _, rfl, p, dx, _, rfl, s02 _ _ hp, pfn (by decide +kernel) (by decide +kernel) (by decide +kernel), p, n, as, ts, rfl, plan_s hP s02, fun H3 l3 s3 hl3 pl3 => ?_⟩
    have s03 := s02.trans s3
    refine ⟨n, t, l3, lt', ts, rfl, pl_s hlt s03, plt, pl3, slt, fun H4 s4 => ⟨true, rfl, iteF ?_⟩⟩
    have s04 := s03.trans s4
    -- left
    refine ⟨_, rfl, p, dx, _, rfl, s04 _ _ hp, pfn (by decide +kernel) (by decide +kernel) (by decide +kernel), p, n, as, ts, rfl, plan_s hP s04, fun H5 l5 s5 hl5 ⟨x5, hx5, d5⟩ => ?_⟩
    have s05 := s04.trans s5
    have lx5 : x5.length = as.length := by rw [dps_len d5, List.length_map]
    refine ⟨l5, rfl, ⟨x5, hx5⟩, fun D hD => ?_⟩
    refine lc_list (xs := x5) (fun k G => Same H5 G ∧ ∃ acc, G D = some (.lst acc) ∧ DpAll K H5 acc ((keepL la (as.take k)).map dP)) ⟨same_new hD, [], upd_same, .nil⟩ (fun k G _ z => same_l z.1 hx5) ?_ ?_
    · rintro k x G hx ⟨sG, acc, hacc, da⟩
      obtain ⟨⟨u, v⟩, t', hpk, rfl, hu'⟩ := pl_at d5 hx
      obtain ⟨ys, hys, hdy⟩ := pl_s hla (s05.trans sG)
      have al : acc.length ≤ as.length := by
        rw [dps_len da, List.length_map]
        unfold keepL
        refine Nat.le_trans (List.length_filter_le ..) ?_
        rw [List.length_take]; omega
      have hf := pas.2.1
      refine ⟨rfl, _, rfl, _, rfl, dP (u, v), la.map dP, dP_mk (same_t sG hu'), .lst hys hdy, shaped_pair _, shaped_pairs _, ?_⟩
      rw [any_pairs]
      refine ⟨_, rfl, ?_⟩
      have ek := keepL_take (us := la) hpk
      by_cases c : (u, v) ∈ la
      · rw [decide_eq_true c]
        refine iteF ⟨sG, acc, hacc, ?_⟩
        rw [ek, if_pos c]
        exact da
      · rw [decide_eq_false c]
        refine ⟨_, rfl, acc, hacc, szlt (by omega), same_mut sG hD, acc ++ [.ref t'], upd_same, ?_⟩
        rw [ek, if_neg c, List.map_append]
        exact dps_app da (.cons (dP_mk hu') .nil)
    rintro G ⟨sG, acc, hacc, da⟩
    rw [take_all lx5.symm] at da
    have s06 := s05.trans sG
    have pla' : PL K G D (keepL la as) := ⟨acc, sl_of hacc, dps_s da sG⟩
    refine ⟨_, rfl, _, rfl, _, rfl, p, dx, _, rfl, s06 _ _ hp, pfn (by decide +kernel) (by decide +kernel) (by decide +kernel), p, n, as, ts, rfl, plan_s hP s06, fun H7 l7 s7 hl7 ⟨x7, hx7, d7⟩ => ?_⟩
    have s07 := s06.trans s7
    have lx7 : x7.length = ts.length := by rw [dps_len d7, List.length_map]
    refine ⟨l7, rfl, ⟨x7, hx7⟩, fun D2 hD2 => ?_⟩
    refine lc_list (xs := x7) (fun k G => Same H7 G ∧ ∃ acc, G D2 = some (.lst acc) ∧ DpAll K H7 acc ((keepL lt' (ts.take k)).map dP)) ⟨same_new hD2, [], upd_same, .nil⟩ (fun k G _ z => same_l z.1 hx7) ?_ ?_
    · rintro k x G hx ⟨sG, acc, hacc, da⟩
      obtain ⟨⟨u, v⟩, t', hpk, rfl, hu'⟩ := pl_at d7 hx
      obtain ⟨ys, hys, hdy⟩ := pl_s hlt (s07.trans sG)
      have al : acc.length ≤ ts.length := by
        rw [dps_len da, List.length_map]
        unfold keepL
        refine Nat.le_trans (List.length_filter_le ..) ?_
        rw [List.length_take]; omega
      have hf := pts.2.1
      refine ⟨rfl, _, rfl, _, rfl, dP (u, v), lt'.map dP, dP_mk (same_t sG hu'), .lst hys hdy, shaped_pair _, shaped_pairs _, ?_⟩
      rw [any_pairs]
      refine ⟨_, rfl, ?_⟩
      have ek := keepL_take (us := lt') hpk
      by_cases c : (u, v) ∈ lt'
      · rw [decide_eq_true c]
        refine iteF ⟨sG, acc, hacc, ?_⟩
        rw [ek, if_pos c]
        exact da
      · rw [decide_eq_false c]
        refine ⟨_, rfl, acc, hacc, szlt (by omega), same_mut sG hD2, acc ++ [.ref t'], upd_same, ?_⟩
        rw [ek, if_neg c, List.map_append]
        exact dps_app da (.cons (dP_mk hu') .nil)
    rintro G8 ⟨sG8, acc8, hacc8, da8⟩
    rw [take_all lx7.symm] at da8
    have s08 := s07.trans sG8
    have plt' : PL K G8 D2 (keepL lt' ts) := ⟨acc8, sl_of hacc8, dps_s da8 sG8⟩
    have pla8 := pl_s pla' (s7.trans sG8)
    intro x dx' nx ndx nex
    have sm : Same G8 (upd (upd G8 dx' (.own x)) x (.ins C dx' [])) := fun b o e => by
      rw [upd_ne (ne_of_none e nx), upd_ne (ne_of_none e ndx)]
      exact e
    refine ⟨x, dx', D, D2, n, keepL la as, keepL lt' ts, rfl, upd_same, pl_s pla8 sm, pl_s plt' sm, n6, prs_sub pas List.filter_sublist, acy_sub acy (fun z hz => (List.mem_filter.mp hz).1), prs_sub pts List.filter_sublist, (fun z hz => lt z (List.mem_filter.mp hz).1), fun Hd as' ts' keep sA sT PA => ⟨rfl, ?_⟩⟩
    have sd : Same H Hd := s08.trans fun b o e => keep b o (ne_of_none e nx) (sm b o e)
    exact q Hd x as' ts' sd (s08.free nx) sA.1 sT.1 PA
end
/-! ## sorted, of lists of ints -/
section
open PySem.W
variable {X : Cx}
def rSortedR (K : PySem.W.Frag) : List V → Hp → VK → Prop := fun vs H Q => ∃ (a : Addr) (xs : List V) (os : List (List Int)), vs = [V.ref a] ∧ SqL K H a xs ∧ LsAt H xs os ∧
  ∀ (ys : List V) (os' : List (List Int)) (p : Addr), os'.Perm os → os'.Pairwise (· ≤ ·) → LsAt H ys os' → (∀ y ∈ ys, y ∈ xs) → H p = none → Q (.ref p) (upd H p (.lst ys))
theorem ls_zip {G : Hp} : ∀ {xs : List V} {os : List (List Int)}, LsAt G xs os → xs = (xs.zip os).map Prod.fst ∧ os = (xs.zip os).map Prod.snd ∧ ∀ b ∈ xs.zip os, ∃ r : Addr, b.1 = .ref r ∧ G r = some (.lst (b.2.map V.int))
  | [], [], _ => ⟨rfl, rfl, fun _ h => nomatch h⟩
  | x :: xs, o :: os, ⟨h1, h3⟩ => by
    obtain ⟨a, b, c⟩ := ls_zip h3
    refine ⟨by simp only [List.zip_cons_cons, List.map_cons]; rw [← a], by simp only [List.zip_cons_cons, List.map_cons]; rw [← b], fun z hz => ?_⟩
    simp only [List.zip_cons_cons] at hz
    rcases List.mem_cons.mp hz with e | e
    · rw [e]; exact h1
    · exact c z e
  | [], _ :: _, h => h.elim
  | _ :: _, [], h => h.elim
theorem ls_of {G : Hp} : ∀ {bs : List (V × List Int)}, (∀ b ∈ bs, ∃ r : Addr, b.1 = .ref r ∧ G r = some (.lst (b.2.map V.int))) → LsAt G (bs.map Prod.fst) (bs.map Prod.snd)
  | [], _ => trivial
  | b :: bs, h => ⟨h b (List.mem_cons_self ..), ls_of fun c hc => h c (List.mem_cons_of_mem _ hc)⟩
theorem each_vals : ∀ {bs : List (V × List Int)} {us : List Value}, Vals (bs.map Prod.fst) us → EachIs (fun (v : Value) (b : V × List Int) => RelV b.1 v) us bs
  | [], _, h => by cases h; exact .nil
  | b :: bs, _, h => by
    cases h with
    | cons h1 h2 => exact .cons h1 (each_vals h2)
theorem vals_each : ∀ {bs : List (V × List Int)} {us : List Value}, EachIs (fun (v : Value) (b : V × List Int) => RelV b.1 v) us bs → Vals (bs.map Prod.fst) us
  | _, _, .nil => .nil
  | _, _, .cons h1 h2 => .cons h1 (vals_each h2)
theorem cr_sortedR (hu : X.A.units + 64 < cLine) : CallR X (.builtin "sorted") (rSortedR X.K) := by
  intro pins s σ H vs us Q I r h
  obtain ⟨a, xs, os, rfl, hs, ls, q⟩ := h
  obtain ⟨its, rv, hl, hz⟩ := I.list hs
  rw [Vals.ref1 r]
  obtain ⟨e1, e2, e3⟩ := ls_zip ls
  generalize xs.zip os = bs at e1 e2 e3
  subst e1
  subst e2
  have each := each_vals rv
  have reads : EachIs (fun (v : Value) (b : V × List Int) => ∃ as, Reads s.heap v (PyData.list (b.2.map .int)) as) its bs := by
    clear q hs ls hl hz r
    induction each with
    | nil => exact .nil
    | @cons v b vs' bs' h1 h2 ih =>
      refine .cons ?_ (ih (fun c hc => e3 c (List.mem_cons_of_mem _ hc)) (by cases rv with | cons _ r2 => exact r2))
      obtain ⟨r0, er, hr⟩ := e3 b (List.mem_cons_self ..)
      rw [er] at h1
      exact Dp.reads I _ (.ref r0) v (.lst (sl_of hr) (dps_ints b.2)) h1
  refine sorted_data (enc := fun b : V × List Int => PyData.list (b.2.map .int)) (R := fun (v : Value) (b : V × List Int) => RelV b.1 v) hl.isList each reads (AllAlike.of fun b b' => by simp [alike, alike_ints]) (Sortable.others fun b => ⟨by simp, by simp⟩) (by rw [List.length_map] at hz; exact hz) (fun b hb => ?_) fun out hlen ho => ?_
  · have : PyData.depth (PyData.list (b.2.map .int)) ≤ 1 := by rw [PyData.depth, depth_ints]; exact Nat.le_refl _
    omega
  · rw [dataLe_rows (fun b : V × List Int => b.2)] at ho
    obtain ⟨ep, he'⟩ := PyProof.Rows.sortedAll_at s.heap its out.toArray
    have vo := vals_each ho
    generalize hbs : bs.mergeSort (fun p q => decide (p.2 ≤ q.2)) = bs' at ho vo
    have pm : bs'.Perm bs := by rw [← hbs]; exact List.mergeSort_perm ..
    have srt : bs'.Pairwise (fun p q => decide (p.2 ≤ q.2) = true) := by
      rw [← hbs]
      refine List.pairwise_mergeSort (fun a b c h1 h2 => ?_) (fun a b => ?_) bs
      · simp only [decide_eq_true_eq] at h1 h2 ⊢
        exact List.le_trans h1 h2
      · simp only [Bool.or_eq_true, decide_eq_true_eq]
        exact List.le_total _ _
    refine ⟨.ref _, upd H (s.heap.objs.size + 1) (.lst (bs'.map Prod.fst)), I.laid (t' := s.toks) (fun _ _ => PyProof.Rows.sortedAll_old) (Nat.le_succ _) ⟨by rw [List.length_map, pm.length_eq]; rw [List.length_map] at hz; exact hz, out, ep, vo, he'⟩, rfl, ?_⟩
    refine q _ (bs'.map Prod.snd) _ (pm.map _) ?_ (ls_of fun b hb => e3 b (pm.mem_iff.mp hb)) (fun y hy => ?_) (I.hok.fresh (Nat.le_succ _))
    · rw [List.pairwise_map]
      exact srt.imp fun h => of_decide_eq_true h
    · obtain ⟨b, hb, rfl⟩ := List.mem_map.mp hy
      exact List.mem_map.mpr ⟨b, pm.mem_iff.mp hb, rfl⟩
end
end Tk

namespace Tk
open PySem PySem.Spec PyProof.Rows L2
/-! ## the law's own draws -/
def PotOk (x y : Int) : Prop := 0 ≤ x ∧ 0 ≤ y ∧ y < 4294967296
/-- all but what stands at a is as it was -/
def SmX (a : Addr) (H H' : Hp) : Prop := ∀ b o, b ≠ a → H b = some o → H' b = some o
theorem SmX.refl (a : Addr) (H : Hp) : SmX a H H := fun _ _ _ h => h
theorem SmX.trans {a : Addr} {H H1 H2 : Hp} (h : SmX a H H1) (g : SmX a H1 H2) : SmX a H H2 := fun b o hb e => g b o hb (h b o hb e)
theorem smx_of {a : Addr} {H H1 : Hp} (h : Same H H1) : SmX a H H1 := fun b o _ e => h b o e
theorem smx_upd {a : Addr} {H : Hp} {o : HO} : SmX a H (upd H a o) := fun b o hb e => by rw [upd_ne hb]; exact e
theorem smx_mut {a p : Addr} {H H' : Hp} {o : HO} (e : SmX a H H') (h : H p = none) : SmX a H (upd H' p o) := by
  intro b u hb hu
  rw [upd_ne (ne_of_none hu h)]
  exact e b u hb hu
theorem smx_free {a p : Addr} {H H' : Hp} (e : SmX a H H') (hp : p ≠ a) (h : H' p = none) : H p = none := by
  cases q : H p with
  | none => rfl
  | some o => rw [e p o hp q] at h; cases h
/-- a pot of draws at a -/
def Pot (H : Hp) (a : Addr) : Prop := ∃ x y, H a = some (.lst [.int x, .int y]) ∧ PotOk x y
theorem smx_l {K : PySem.W.Frag} {a : Addr} {H H' : Hp} {p : Addr} {xs : List V} (e : SmX a H H') (n : p ≠ a) (h : SqL K H p xs) : SqL K H' p xs := by
  rcases h with (h | ⟨o, h⟩) | h
  · exact .inl (.inl (e _ _ n h))
  · exact .inl (.inr ⟨o, e _ _ n h⟩)
  · exact .inr h
theorem smx_t {K : PySem.W.Frag} {a : Addr} {H H' : Hp} {p : Addr} {xs : List V} (pa : Pot H a) (e : SmX a H H') (h : SqT K H p xs) : SqT K H' p xs := by
  obtain ⟨x, y, ha, _⟩ := pa
  rcases h with (h | ⟨o, h⟩) | h
  · exact .inl (.inl (e _ _ (fun q => by rw [q, ha] at h; cases h) h))
  · exact .inl (.inr ⟨o, e _ _ (fun q => by rw [q, ha] at h; cases h) h⟩)
  · exact .inr h
def spPot (K : PySem.W.Frag) : Sp := fun vs H Q _ => ∃ (a : Addr) (ns : List Int), vs = [.ref a, .int 0] ∧ SqL K H a (ns.map V.int) ∧
  ∀ (H' : Hp) (p : Addr), Same H H' → H p = none → Pot H' p → Q (.ref p) H'
def spDraw : Sp := fun vs H Q _ => ∃ (a : Addr) (m : Int), vs = [.ref a, .int m] ∧ Pot H a ∧ 0 < m ∧ m < 1073741824 ∧
  ∀ (H' : Hp) (d : Int), SmX a H H' → Pot H' a → 0 ≤ d → d < m → Q (.int d) H'
section
variable {P : Program} {w : World} {K : PySem.W.Frag} {mg : Str → Option Value} {base : Heap}
abbrev nPot : List Str := ["_law_script", "_law_k", "_law_cell"]
theorem sc_pot : FnScope nPot ["_law_script", "_law_k"] (defScope sPot) := ⟨rfl, rfl, rfl, by decide +kernel, rfl, by decide +kernel, by decide +kernel⟩
theorem cut1 (ns : List Int) : cutV (ns.map V.int) none (some 1) = (ns.take 1).map V.int := by
  cases ns with
  | nil => rfl
  | cons n ns =>
    unfold cutV HT.sIx
    simp [List.length_map]
theorem potok_end (c j : Int) (m : Int) (h0 : 0 < m) (h1 : m < 4294967295) : PotOk (if j > 0 then j else 0) (c % m + 1) := by
  have a := Int.emod_nonneg c (show m ≠ 0 by omega)
  have b := Int.emod_lt_of_pos c h0
  refine ⟨?_, by omega, by omega⟩
  split <;> omega
theorem ok_pot {f : Addr} {fd : FuncData} (F : Fun K "_law_pot" "_law_pot" sPot f fd) (B : Bl mg) : FnOk P w K mg base CX0 1 f fd ["_law_script", "_law_k"] (spPot K) := by
  refine F.ok sc_pot (fun vs H Q E h => ?_) (fun cdv A outer s H vs Q E hr h => ?_)
  · obtain ⟨a, ns, rfl, _⟩ := h
    rfl
  · obtain ⟨a, ns, rfl, ha, q⟩ := h
    refine ⟨_, pss_cons (ps_set (i := 2) sc_pot.nd rfl (Or.inl rfl) (pe_op op_add (pe_op op_add (pe_op op_mul pe_int (pv 1)) pe_int)
          (pe_op op_mod (pe_callB (cr_sum rfl) (by rfl) B.sum PyProof.Rows.boot_sum (pa_cons (pe_slice sl_list (pv 0) po_none (po_some pe_int)) pa_nil)) pe_int)))
      (pss_cons (ps_if (pt_cmpR op_lt (pv 1) (pe_callB call_len_seq (by rfl) B.len PySem.boot_len (pa_cons (pv 0) pa_nil)) (nomark _))
          (pss_one (ps_set (i := 2) sc_pot.nd rfl (Or.inl rfl) (pe_callB call_abs (by rfl) B.abs PyProof.Rows.boot_abs (pa_cons (pe_ix ix_list (pv 0) (pv 1) (fun _ _ => rfl)) pa_nil)))) pss_nil)
      (pss_one (ps_ret (pe_lst (pa_cons (pe_callB (call_max2 rfl) (by rfl) B.max PyProof.Rows.boot_max (pa_cons pe_int (pa_cons (pe_op op_sub (pv 2) (pe_op op_pow pe_int pe_int)) pa_nil)))
        (pa_cons (pe_op op_add (pe_op op_mod (pe_op op_mul (pe_callTy call_int1 (by rfl) B.int PyProof.Rows.boot_int (pa_cons (pe_op op_add (pe_op op_mod (pe_callTy call_int1 (by rfl) B.int PyProof.Rows.boot_int (pa_cons (pv 2) pa_nil)) pe_int) pe_int) pa_nil))
          (pe_op op_pow (pe_op op_add (pe_op op_mul pe_int (pv 1)) pe_int) pe_int)) pe_int) pe_int) pa_nil)))))), ?_⟩
    refine ⟨_, rfl, _, _, rfl, rfl, .inl ⟨by decide, by decide⟩, _, _, rfl, rfl, _, rfl, _, rfl, a, _, rfl, ha, fun p hp => ?_⟩
    refine ⟨p, ns.take 1, rfl, sl_of (by rw [upd_same, cut1]), _, _, rfl, rfl, (show (0 : Int) < 1000003 by decide), _, _, rfl, rfl, ?_⟩
    have s1 : Same H (upd H p (.lst (cutV (ns.map V.int) none (some 1)))) := same_new hp
    generalize upd H p (.lst (cutV (ns.map V.int) none (some 1))) = H1 at s1
    refine ⟨_, rfl, _, rfl, a, _, rfl, .inl (same_l s1 ha), _, _, rfl, rfl, _, rfl, ?_⟩
    refine ite2 (fun hk => ?_) (fun hk => ?_)
    · cases ns with
      | nil => simp at hk
      | cons n ns =>
        refine ⟨_, rfl, _, rfl, a, _, _, _, rfl, rfl, same_l s1 ha, at0, n, rfl, ?_⟩
        refine ⟨_, rfl, _, _, rfl, rfl, ⟨by decide, by decide, by decide⟩, _, _, rfl, rfl, _, _, rfl, ?_⟩
        refine ⟨_, rfl, .inl ⟨_, rfl, _, _, rfl, rfl, (show (0 : Int) < 2147483549 by decide), _, _, rfl, rfl, .inl ⟨_, rfl, ?_⟩⟩⟩
        refine ⟨_, rfl, _, _, rfl, rfl, .inl ⟨by decide, by decide⟩, _, _, rfl, rfl, _, _, rfl, rfl, ⟨by decide, by decide, by decide⟩, _, _, rfl, rfl, ?_, _, _, rfl, rfl, (show (0 : Int) < 2147483477 by decide), _, _, rfl, rfl, ?_⟩
        · have b0 := Int.emod_nonneg (if n < 0 then -n else n) (show (2147483549 : Int) ≠ 0 by decide)
          have b1 := Int.emod_lt_of_pos (if n < 0 then -n else n) (show (0 : Int) < 2147483549 by decide)
          exact .inl ⟨by omega, by omega⟩
        · refine ⟨szle (by show 2 ≤ 100000; decide), fun r hr => ?_⟩
          exact q _ r (s1.trans (same_new hr)) (s1.free hr) ⟨_, _, upd_same, potok_end _ _ 2147483477 (by decide) (by decide)⟩
    · refine ⟨_, rfl, _, _, rfl, rfl, ⟨by decide, by decide, by decide⟩, _, _, rfl, rfl, _, _, rfl, ?_⟩
      generalize (709 * 0 + 643 + (ns.take 1).sum % 1000003 : Int) = c
      refine ⟨_, rfl, .inl ⟨_, rfl, _, _, rfl, rfl, (show (0 : Int) < 2147483549 by decide), _, _, rfl, rfl, .inl ⟨_, rfl, ?_⟩⟩⟩
      refine ⟨_, rfl, _, _, rfl, rfl, .inl ⟨by decide, by decide⟩, _, _, rfl, rfl, _, _, rfl, rfl, ⟨by decide, by decide, by decide⟩, _, _, rfl, rfl, ?_, _, _, rfl, rfl, (show (0 : Int) < 2147483477 by decide), _, _, rfl, rfl, ?_⟩
      · have b0 := Int.emod_nonneg c (show (2147483549 : Int) ≠ 0 by decide)
        have b1 := Int.emod_lt_of_pos c (show (0 : Int) < 2147483549 by decide)
        exact .inl ⟨by omega, by omega⟩
      · refine ⟨szle (by show 2 ≤ 100000; decide), fun r hr => ?_⟩
        exact q _ r (s1.trans (same_new hr)) (s1.free hr) ⟨_, _, upd_same, potok_end _ _ 2147483477 (by decide) (by decide)⟩
end
end Tk

namespace Tk
open PySem PySem.Spec PyProof.Rows L2
/-- an int, or a tuple of two -/
def El (K : PySem.W.Frag) (H : Hp) (x : V) : Prop := (∃ i, x = .int i) ∨ ∃ t i j, x = .ref t ∧ SqT K H t [.int i, .int j]
theorem el_s {K : PySem.W.Frag} {H H' : Hp} {x : V} (h : El K H x) (e : Same H H') : El K H' x := by
  rcases h with h | ⟨t, i, j, h1, h2⟩
  · exact .inl h
  · exact .inr ⟨t, i, j, h1, same_t e h2⟩
theorem el_x {K : PySem.W.Frag} {a : Addr} {H H' : Hp} {x : V} (h : El K H x) (pa : Pot H a) (e : SmX a H H') : El K H' x := by
  rcases h with h | ⟨t, i, j, h1, h2⟩
  · exact .inl h
  · exact .inr ⟨t, i, j, h1, smx_t pa e h2⟩
theorem el_dp {K : PySem.W.Frag} {H : Hp} : ∀ {xs : List V}, (∀ x ∈ xs, El K H x) → ∃ ds, DpAll K H xs ds ∧ PyData.canLayAll0 ds = true ∧ PyData.depthAll ds ≤ 1 ∧ ds.length = xs.length
  | [], _ => ⟨[], .nil, by simp [PyData.canLayAll0], by simp [PyData.depthAll], rfl⟩
  | x :: xs, h => by
    obtain ⟨ds, h1, h2, h3, h4⟩ := el_dp (xs := xs) fun y hy => h y (List.mem_cons_of_mem _ hy)
    rcases h x (List.mem_cons_self ..) with ⟨i, rfl⟩ | ⟨t, i, j, rfl, ht⟩
    · exact ⟨.int i :: ds, .cons (.int i) h1, by simp [PyData.canLayAll0, PyData.canLay0, h2], by simp [PyData.depthAll, PyData.depth]; exact h3, by simp [h4]⟩
    · refine ⟨dP (i, j) :: ds, .cons (dP_mk ht) h1, ?_, ?_, by simp [h4]⟩
      · simp [PyData.canLayAll0, PyData.canLay0, dP, h2]
      · simp [PyData.depthAll, PyData.depth, dP]; omega
theorem shaped_l {ds : List PyData} (h1 : PyData.canLayAll0 ds = true) (h2 : PyData.depthAll ds ≤ 10) : SeqAt.shaped (.list ds) = true := by
  show ((PyData.list ds).canLay0 && decide ((PyData.list ds).depth ≤ 64)) = true
  rw [Bool.and_eq_true]
  exact ⟨by simp only [PyData.canLay0]; exact h1, decide_eq_true (by simp only [PyData.depth]; omega)⟩
theorem eqv_nil (ds : List PyData) : PyData.eqv (.list ds) (.list []) = ds.isEmpty := by
  cases ds with
  | nil => simp [PyData.eqv, PyData.eqvAll]
  | cons d ds => simp [PyData.eqv, PyData.eqvAll]
theorem perm_erase {α : Type} : ∀ {l : List α} {i : Nat} (h : i < l.length), ([l[i]] ++ l.eraseIdx i).Perm l
  | [], _, h => by simp at h
  | x :: l, 0, _ => by simp
  | x :: l, i + 1, h => by
    have ih := perm_erase (l := l) (i := i) (by simpa using h)
    simp only [List.getElem_cons_succ, List.eraseIdx_cons_succ]
    refine List.Perm.trans (List.Perm.swap x _ _) ?_
    exact List.Perm.cons x ih
def spShuf (K : PySem.W.Frag) : Sp := fun vs H Q _ => ∃ (a b : Addr) (xs : List V), vs = [.ref a, .ref b] ∧ Pot H a ∧ b ≠ a ∧ SqL K H b xs ∧ (∀ x ∈ xs, El K H x) ∧ xs.length ≤ 1000 ∧
  ∀ (H' : Hp) (p : Addr) (ys : List V), SmX a H H' → Pot H' a → H p = none → p ≠ a → H' p = some (.lst ys) → ys.Perm xs → Q (.ref p) H'
section
variable {P : Program} {w : World} {K : PySem.W.Frag} {mg : Str → Option Value} {base : Heap}
abbrev nDraw : List Str := ["_law_pot_here", "_law_many", "_law_digit"]
theorem sc_draw : FnScope nDraw ["_law_pot_here", "_law_many"] (defScope sDraw) := ⟨rfl, rfl, rfl, by decide +kernel, rfl, by decide +kernel, by decide +kernel⟩
theorem at_0 {x y : V} : atI [x, y] (0 : Int) = some x := rfl
theorem at_1 {x y : V} : atI [x, y] (1 : Int) = some y := rfl
theorem ok_draw {f : Addr} {fd : FuncData} (F : Fun K "_law_draw" "_law_draw" sDraw f fd) (B : Bl mg) : FnOk P w K mg base CX0 1 f fd ["_law_pot_here", "_law_many"] spDraw := by
  refine F.ok sc_draw (fun vs H Q E h => ?_) (fun cdv A outer s H vs Q E hr h => ?_)
  · obtain ⟨a, m, rfl, _⟩ := h
    rfl
  · obtain ⟨a, m, rfl, ⟨x, y, ha, hx, hy0, hy1⟩, m0, m1, q⟩ := h
    refine ⟨_, pss_cons (ps_if (pt_cmpR op_gt (pe_ix ix_list (pv 0) pe_int (fun _ _ => rfl)) pe_int (nomark _))
        (pss_cons (ps_asg (pe_callB call_divmod (by rfl) B.divmod PyProof.Rows.boot_divmod (pa_cons (pe_ix ix_list (pv 0) pe_int (fun _ _ => rfl)) (pa_cons (pv 1) pa_nil)))
            (pg_tup rfl (pgs_cons (pg_sub (pv 0) pe_int set_list) (pgs_cons (pg_name (i := 2) sc_draw.nd rfl (Or.inl rfl)) pgs_nil))))
          (pss_one (ps_ret (pv 2)))) pss_nil)
      (pss_cons (ps_asg (pe_op op_mod (pe_callTy call_int1 (by rfl) B.int PyProof.Rows.boot_int (pa_cons (pe_op op_add (pe_op op_mul (pe_ix ix_list (pv 0) pe_int (fun _ _ => rfl)) pe_int) pe_int) pa_nil)) pe_int) (pg_sub (pv 0) pe_int set_list))
      (pss_one (ps_ret (pe_op op_mod (pe_callTy call_int1 (by rfl) B.int PyProof.Rows.boot_int (pa_cons (pe_op op_fdiv (pe_op op_mod (pe_callTy call_int1 (by rfl) B.int PyProof.Rows.boot_int (pa_cons (pe_op op_mul (pe_ix ix_list (pv 0) pe_int (fun _ _ => rfl)) (pe_ix ix_list (pv 0) pe_int (fun _ _ => rfl))) pa_nil)) pe_int) pe_int) pa_nil)) (pv 1))))), ?_⟩
    refine ⟨_, rfl, a, _, _, _, rfl, rfl, sl_of ha, at_0, _, _, rfl, rfl, _, rfl, ?_⟩
    refine ite2 (fun h => ?_) (fun h => ?_)
    · refine ⟨_, rfl, a, _, _, _, rfl, rfl, sl_of ha, at_0, _, rfl, _, _, rfl, ⟨m0, m1⟩, fun t ht => ?_⟩
      have nta : t ≠ a := fun e => by rw [e, ha] at ht; cases ht
      refine ⟨t, _, rfl, st_of upd_same, rfl, _, _, rfl, _, rfl, a, _, _, 0, rfl, rfl, (by rw [upd_ne nta.symm]; exact ha), rfl, _, _, rfl, rfl, ?_⟩
      refine ⟨_, rfl, q _ _ ((smx_of (same_new ht)).trans smx_upd) ⟨_, _, upd_same, ?_, hy0, hy1⟩ (Int.emod_nonneg x (by omega)) (Int.emod_lt_of_pos x m0)⟩
      exact Int.ediv_nonneg hx (by omega)
    · refine ⟨_, rfl, a, _, _, _, rfl, rfl, sl_of ha, at_1, _, _, rfl, rfl, .inl ⟨by omega, by omega⟩, _, _, rfl, rfl, .inl ⟨_, rfl, _, _, rfl, rfl, (show (0 : Int) < 2147483587 by decide), _, rfl, a, _, _, 1, rfl, rfl, ha, rfl, ?_⟩⟩
      have b0 := Int.emod_nonneg (y * 48271 + 17341) (show (2147483587 : Int) ≠ 0 by decide)
      have b1 := Int.emod_lt_of_pos (y * 48271 + 17341) (show (0 : Int) < 2147483587 by decide)
      refine ⟨_, rfl, a, _, _, _, rfl, rfl, sl_of upd_same, at_1, _, rfl, a, _, _, _, rfl, rfl, sl_of upd_same, at_1, _, _, rfl, rfl, .inl ⟨by omega, by omega⟩, .inl ⟨_, rfl, _, _, rfl, rfl, (show (0 : Int) < 2147483549 by decide), _, _, rfl, rfl, ⟨by decide, by decide⟩, .inl ⟨_, rfl, _, rfl, _, _, rfl, rfl, m0, ?_⟩⟩⟩
      exact q _ _ smx_upd ⟨_, _, upd_same, hx, b0, by omega⟩ (Int.emod_nonneg _ (by omega)) (Int.emod_lt_of_pos _ m0)
abbrev nShuf : List Str := ["_law_pot_here", "_law_some", "_law_left", "_law_found"]
theorem sc_shuf : FnScope nShuf ["_law_pot_here", "_law_some"] (defScope sShuf) := ⟨rfl, rfl, rfl, by decide +kernel, rfl, by decide +kernel, by decide +kernel⟩
theorem ok_shuf {f f1 : Addr} {fd fd1 : FuncData} (F : Fun K "_law_shuffled" "_law_shuffled" sShuf f fd) (D1 : Df K mg "_law_draw" sDraw ["_law_pot_here", "_law_many"] f1 fd1) (B : Bl mg) :
    FnOk P w K mg base CX0 2 f fd ["_law_pot_here", "_law_some"] (spShuf K) := by
  have G1 : FnOk P w K mg base CX0 1 f1 fd1 ["_law_pot_here", "_law_many"] spDraw := ok_draw D1.F B
  refine F.ok sc_shuf (fun vs H Q E h => ?_) (fun cdv A outer s H vs Q E hr h => ?_)
  · obtain ⟨a, b, xs, rfl, _⟩ := h
    rfl
  · obtain ⟨a, b, xs, rfl, pa, nba, hb, hel, hlen, q⟩ := h
    refine ⟨_, pss_cons (ps_par (i := 2) (j := 3) rfl sc_shuf.nd rfl rfl (by decide) rfl rfl (pa_cons (pe_callTy call_list_of (by rfl) B.list PyProof.Rows.boot_list (pa_cons (pv 1) pa_nil)) (pa_cons (pe_lst pa_nil) pa_nil)) (by rfl))
      (pss_cons (ps_while PassesOwn.never (pt_cmpR (op_neD hr.units) (pv 2) (pe_lst pa_nil) (nomark _))
        (pss_one (ps_expr (pe_bm PySem.F.plainAttrs_list PySem.F.slot_list_append PySem.F.type_list_append mt_append (pv 3) (pa_cons
          (pe_bm PySem.F.plainAttrs_list PySem.F.slot_list_pop PySem.F.type_list_pop mt_popAt (pv 2) (pa_cons
            (pe_call G1 hr rfl D1.g D1.F.kp D1.b .nil pass0 (pa_cons (pv 0) (pa_cons (pe_callB call_len_seq (by rfl) B.len PySem.boot_len (pa_cons (pv 2) pa_nil)) pa_nil))) pa_nil)) pa_nil)))))
      (pss_one (ps_ret (pv 3)))), ?_⟩
    obtain ⟨px, py, hpa, _⟩ := id pa
    refine ⟨_, rfl, b, xs, rfl, .inl hb, fun l hl => ⟨szle (by decide), fun fo hfo => ⟨_, _, rfl, ?_⟩⟩⟩
    have nlf : l ≠ fo := fun e => by rw [e, upd_same] at hfo; cases hfo
    have hfo0 : H fo = none := by rw [upd_ne nlf.symm] at hfo; exact hfo
    have nla : l ≠ a := fun e => by rw [e, hpa] at hl; cases hl
    have nfa : fo ≠ a := fun e => by rw [e, hpa] at hfo0; cases hfo0
    refine ⟨fun m σ H1 => ∃ (ls fs : List V), σ = [some (V.ref a), some (V.ref b), some (V.ref l), some (V.ref fo)] ∧ SmX a H H1 ∧ Pot H1 a ∧ H1 l = some (.lst ls) ∧ H1 fo = some (.lst fs) ∧ (fs ++ ls).Perm xs ∧ ls.length = m,
      ⟨_, xs, [], rfl, ?_, ?_, ?_, upd_same, List.Perm.refl _, rfl⟩, ?_⟩
    · exact smx_of ((same_new hl).trans (same_new hfo))
    · exact ⟨px, py, by rw [upd_ne nfa.symm, upd_ne nla.symm]; exact hpa, by assumption⟩
    · rw [upd_ne nlf, upd_same]
    rintro m σ H1 ⟨ls, fs, rfl, s1, p1, hl1, hf1, pm, rfl⟩
    have elx : ∀ x ∈ ls, El K H1 x := fun x hx => el_x (hel x (pm.mem_iff.mp (List.mem_append_right _ hx))) pa s1
    obtain ⟨ds, d1, d2, d3, d4⟩ := el_dp elx
    refine ⟨_, rfl, szle (by decide), fun e he => ?_⟩
    refine ⟨.list ds, .list [], .lst (sl_of (by rw [upd_ne (fun z => by rw [z, he] at hl1; cases hl1)]; exact hl1)) (dps_s d1 (same_new he)), .lst (sl_of upd_same) .nil, shaped_l d2 (by omega), shaped_l (by simp [PyData.canLayAll0]) (by simp [PyData.depthAll]), _, rfl, ?_⟩
    rw [eqv_nil]
    have nel : e ≠ l := fun z => by rw [z, hl1] at he; cases he
    have nef : e ≠ fo := fun z => by rw [z, hf1] at he; cases he
    have nea : e ≠ a := fun z => by obtain ⟨u, v, g, _⟩ := p1; rw [z, g] at he; cases he
    have s2 : SmX a H (upd H1 e (.lst [])) := s1.trans (smx_of (same_new he))
    have p2 : Pot (upd H1 e (.lst [])) a := by obtain ⟨u, v, g, o⟩ := p1; exact ⟨u, v, by rw [upd_ne nea.symm]; exact g, o⟩
    have hl2 : (upd H1 e (.lst [])) l = some (.lst ls) := by rw [upd_ne nel.symm]; exact hl1
    have hf2 : (upd H1 e (.lst [])) fo = some (.lst fs) := by rw [upd_ne nef.symm]; exact hf1
    generalize upd H1 e (.lst []) = H2 at s2 p2 hl2 hf2
    cases ls with
    | nil =>
      have e0 : ds = [] := List.length_eq_zero_iff.mp (by rw [d4]; rfl)
      subst e0
      refine iteF ⟨_, rfl, q H2 fo fs s2 p2 hfo0 nfa hf2 ?_⟩
      simpa using pm
    | cons y ls0 =>
      generalize hL : y :: ls0 = ls at *
      have lpos : 0 < ls.length := by rw [← hL]; simp
      have e1 : (!ds.isEmpty) = true := by
        cases ds with
        | nil => simp at d4; omega
        | cons d ds => rfl
      rw [e1]
      refine ⟨_, fun σ' H' z => z, ?_⟩
      have lsl : ls.length ≤ xs.length := by
        have := pm.length_eq
        rw [List.length_append] at this
        omega
      refine ⟨_, rfl, .inl ⟨rfl, _, sl_of hf2⟩, _, rfl, .inl ⟨rfl, _, sl_of hl2⟩, _, rfl, _, rfl, l, ls, rfl, .inl (sl_of hl2), a, _, rfl, p2, by omega, by omega, fun H3 d s3 p3 d0 d1' => ?_⟩
      have hl3 : H3 l = some (.lst ls) := s3 _ _ nla hl2
      have hf3 : H3 fo = some (.lst fs) := s3 _ _ nfa hf2
      have dlt : d.toNat < ls.length := by omega
      refine ⟨l, ls, d, d.toNat, ls[d.toNat], rfl, rfl, hl3, by omega, by omega, ?_, by simp [dlt], ?_⟩
      · unfold seqIndex?
        first
          | (simp; omega)
          | (rw [if_neg (by omega)]; simp; omega)
      have hf4 : (upd H3 l (.lst (ls.eraseIdx d.toNat))) fo = some (.lst fs) := by rw [upd_ne nlf.symm]; exact hf3
      have fsl : fs.length ≤ xs.length := by
        have := pm.length_eq
        rw [List.length_append] at this
        omega
      refine ⟨fo, fs, _, rfl, rfl, hf4, szlt (by omega), ?_⟩
      refine ⟨(ls.eraseIdx d.toNat).length, ?_, ls.eraseIdx d.toNat, fs ++ [ls[d.toNat]], rfl, ?_, ?_, ?_, upd_same, ?_, rfl⟩
      · rw [List.length_eraseIdx_of_lt dlt]; omega
      · exact smx_mut (smx_mut (s2.trans s3) hl) hfo0
      · obtain ⟨u, v, g, o⟩ := p3
        exact ⟨u, v, by rw [upd_ne nfa.symm, upd_ne nla.symm]; exact g, o⟩
      · rw [upd_ne nlf, upd_same]
      · rw [List.append_assoc]
        refine List.Perm.trans ?_ pm
        refine List.Perm.append_left _ ?_
        exact perm_erase dlt
end
end Tk

namespace Tk
open PySem PySem.Spec PyProof.Rows L2
theorem ta_x {a : Addr} {G G' : Hp} {acc : List V} {ps : List (Int × Int)} {k : Nat} (h : TA G acc ps k) (pa : Pot G a) (e : SmX a G G') : TA G' acc ps k :=
  ⟨h.1, fun i x hx => by
    obtain ⟨t, z, h1, h2, h3⟩ := h.2 i x hx
    obtain ⟨u, v, g, _⟩ := pa
    exact ⟨t, z, h1, h2, e _ _ (fun q => by rw [q, g] at h3; cases h3) h3⟩⟩
theorem ta_upd {G : Hp} {acc o : List V} {O : HO} {ps : List (Int × Int)} {k : Nat} {D : Addr} (h : TA G acc ps k) (hD : G D = some (.lst o)) : TA (upd G D O) acc ps k :=
  ⟨h.1, fun i x hx => by
    obtain ⟨t, z, h1, h2, h3⟩ := h.2 i x hx
    exact ⟨t, z, h1, h2, by rw [upd_ne (fun q => by rw [q, hD] at h3; cases h3)]; exact h3⟩⟩
theorem ta_more {G : Hp} {acc : List V} {ps qs : List (Int × Int)} {k : Nat} (h : TA G acc ps k) : TA G acc (ps ++ qs) k :=
  ⟨h.1, fun i x hx => by
    obtain ⟨t, z, h1, h2, h3⟩ := h.2 i x hx
    exact ⟨t, z, h1, by rw [List.getElem?_append_left (lt_of_at h2)]; exact h2, h3⟩⟩
/-- a list at D of new tuples for these pairs -/
def LT (G : Hp) (D : Addr) (ps : List (Int × Int)) : Prop := ∃ acc, G D = some (.lst acc) ∧ TA G acc ps ps.length
theorem lt_put {G : Hp} {D v : Addr} {ps : List (Int × Int)} {acc : List V} {x y : Int} (hD : G D = some (.lst acc)) (h : TA G acc ps ps.length) (hv : G v = none) :
    LT (upd (upd G v (.tup [.int x, .int y])) D (.lst (acc ++ [.ref v]))) D (ps ++ [(x, y)]) := by
  refine ⟨acc ++ [.ref v], upd_same, ?_⟩
  have := ta_put (z := (x, y)) (ta_more (qs := [(x, y)]) h) hD hv (by simp)
  rw [List.length_append]
  exact this
theorem lt_other {G : Hp} {D E v : Addr} {ps : List (Int × Int)} {O O' : HO} {e : List V} (h : LT G D ps) (ne : D ≠ E) (hE : G E = some (.lst e)) (hv : G v = none) : LT (upd (upd G v O) E O') D ps := by
  obtain ⟨acc, h1, h2⟩ := h
  have nD : D ≠ v := fun q => by rw [q, hv] at h1; cases h1
  have nE : E ≠ v := fun q => by rw [q, hv] at hE; cases hE
  refine ⟨acc, by rw [upd_ne ne, upd_ne nD]; exact h1, ?_⟩
  refine ta_upd (o := e) ?_ (by rw [upd_ne nE]; exact hE)
  exact ta_s h2 (same_new hv)
theorem lt_x {a : Addr} {G G' : Hp} {D : Addr} {ps : List (Int × Int)} (h : LT G D ps) (n : D ≠ a) (pa : Pot G a) (e : SmX a G G') : LT G' D ps :=
  let ⟨acc, h1, h2⟩ := h; ⟨acc, e _ _ n h1, ta_x h2 pa e⟩
theorem lt_el {K : PySem.W.Frag} {G : Hp} {acc : List V} {ps : List (Int × Int)} (h : TA G acc ps ps.length) : ∀ x ∈ acc, El K G x := fun x hx => by
  obtain ⟨i, hi⟩ := List.getElem?_of_mem hx
  obtain ⟨t, z, h1, _, h3⟩ := h.2 i x hi
  exact .inr ⟨t, z.1, z.2, h1, st_of h3⟩
/-- a list put in another sequence stands for the pairs in another sequence -/
theorem dps_perm {K : PySem.W.Frag} {H : Hp} {xs ys : List V} {ps : List (Int × Int)} (h : DpAll K H xs (ps.map dP)) (e : ys.Perm xs) : ∃ qs : List (Int × Int), qs.Perm ps ∧ DpAll K H ys (qs.map dP) := by
  induction e generalizing ps with
  | nil => exact ⟨ps, .refl _, h⟩
  | @cons x l m pm ih =>
    cases ps with
    | nil => cases h
    | cons p ps =>
      cases h with
      | cons h1 h2 =>
        obtain ⟨qs, q1, q2⟩ := ih h2
        exact ⟨p :: qs, q1.cons p, .cons h1 q2⟩
  | swap x y l =>
    cases ps with
    | nil => cases h
    | cons p ps =>
      cases h with
      | cons h1 h2 =>
        cases ps with
        | nil => cases h2
        | cons p' ps =>
          cases h2 with
          | cons h2 h3 => exact ⟨p' :: p :: ps, .swap p p' ps, .cons h2 (.cons h1 h3)⟩
  | trans _ _ ih1 ih2 =>
    obtain ⟨qs, q1, q2⟩ := ih2 h
    obtain ⟨rs, r1, r2⟩ := ih1 q2
    exact ⟨rs, r1.trans q1, r2⟩
/-- where the drawing of a plan stands -/
structure LP (a po pa pt : Addr) (H0 H1 : Hp) (o : List Int) (ixA ixT : List (Nat × Nat)) : Prop where
  sx : SmX a H0 H1
  pot : Pot H1 a
  ho : H1 po = some (.lst (o.map V.int))
  hA : LT H1 pa (ixA.map (prA o))
  hT : LT H1 pt (ixT.map (prT o))
structure Dist (a po pa pt : Addr) (H0 : Hp) : Prop where
  n1 : po ≠ a
  n2 : pa ≠ a
  n3 : pt ≠ a
  n4 : po ≠ pa
  n5 : po ≠ pt
  n6 : pa ≠ pt
  fA : H0 pa = none
  fT : H0 pt = none
section
variable {a po pa pt : Addr} {H0 H1 H2 : Hp} {o : List Int} {ixA ixT : List (Nat × Nat)}
theorem lp_draw (d : Dist a po pa pt H0) (h : LP a po pa pt H0 H1 o ixA ixT) (e : SmX a H1 H2) (p : Pot H2 a) : LP a po pa pt H0 H2 o ixA ixT :=
  ⟨h.sx.trans e, p, e _ _ d.n1 h.ho, lt_x h.hA d.n2 h.pot e, lt_x h.hT d.n3 h.pot e⟩
theorem lp_arr (d : Dist a po pa pt H0) (h : LP a po pa pt H0 H1 o ixA ixT) {acc : List V} (hD : H1 pa = some (.lst acc)) {v : Addr} (hv : H1 v = none) (q : Nat × Nat) :
    LP a po pa pt H0 (upd (upd H1 v (.tup [.int (it o q.1), .int (it o q.2)])) pa (.lst (acc ++ [.ref v]))) o (ixA ++ [q]) ixT := by
  obtain ⟨acc', e1, e2⟩ := h.hA
  rw [hD] at e1
  cases e1
  obtain ⟨x, y, g, gg⟩ := h.pot
  have nva : a ≠ v := fun z => by rw [z, hv] at g; cases g
  have nvo : po ≠ v := fun z => by have := h.ho; rw [z, hv] at this; cases this
  refine ⟨?_, ⟨x, y, by rw [upd_ne d.n2.symm, upd_ne nva]; exact g, gg⟩, by rw [upd_ne d.n4, upd_ne nvo]; exact h.ho, ?_, ?_⟩
  · exact smx_mut (h.sx.trans (smx_of (same_new hv))) d.fA
  · rw [List.map_append]
    exact lt_put hD e2 hv
  · exact lt_other h.hT d.n6.symm hD hv
theorem lp_tie (d : Dist a po pa pt H0) (h : LP a po pa pt H0 H1 o ixA ixT) {acc : List V} (hD : H1 pt = some (.lst acc)) {v : Addr} (hv : H1 v = none) (q : Nat × Nat) :
    LP a po pa pt H0 (upd (upd H1 v (.tup [.int (prT o q).1, .int (prT o q).2])) pt (.lst (acc ++ [.ref v]))) o ixA (ixT ++ [q]) := by
  obtain ⟨acc', e1, e2⟩ := h.hT
  rw [hD] at e1
  cases e1
  obtain ⟨x, y, g, gg⟩ := h.pot
  have nva : a ≠ v := fun z => by rw [z, hv] at g; cases g
  have nvo : po ≠ v := fun z => by have := h.ho; rw [z, hv] at this; cases this
  refine ⟨?_, ⟨x, y, by rw [upd_ne d.n3.symm, upd_ne nva]; exact g, gg⟩, by rw [upd_ne d.n5, upd_ne nvo]; exact h.ho, ?_, ?_⟩
  · exact smx_mut (h.sx.trans (smx_of (same_new hv))) d.fT
  · exact lt_other h.hA d.n6 hD hv
  · rw [List.map_append]
    exact lt_put hD e2 hv
end
def spPlan (K : PySem.W.Frag) : Sp := fun vs H Q _ => ∃ (a : Addr) (most : Int), vs = [.ref a, .int most] ∧ Pot H a ∧ 0 ≤ most ∧ most ≤ 6 ∧
  ∀ (H' : Hp) (p l m : Addr) (n : Nat) (xs ys : List V) (as ts : List (Int × Int)), SmX a H H' → Pot H' a → H' p = some (.tup [.int n, .ref l, .ref m]) → H l = none → H m = none → l ≠ m → l ≠ a → m ≠ a →
    H' l = some (.lst xs) → H' m = some (.lst ys) → DpAll K H' xs (as.map dP) → DpAll K H' ys (ts.map dP) → (n : Int) ≤ most → Prs n as → Acy as → Prs n ts → (∀ q ∈ ts, q.1 < q.2) → Q (.ref p) H'
theorem at_it {o : List Int} {i : Nat} (h : i < o.length) : atI (o.map V.int) (i : Int) = some (V.int (it o i)) := atI_nat (by rw [List.getElem?_map, it_some h]; rfl)
section
variable {P : Program} {w : World} {K : PySem.W.Frag} {mg : Str → Option Value} {base : Heap}
abbrev nPlan : List Str := ["_law_pot_here", "_law_most", "_law_size", "_law_thin", "_law_order", "_law_arrows", "_law_ties", "_law_at", "_law_to"]
theorem sc_plan : FnScope nPlan ["_law_pot_here", "_law_most"] (defScope sPlan) := ⟨rfl, rfl, rfl, by decide +kernel, rfl, by decide +kernel, by decide +kernel⟩
theorem ok_plan {f f1 f2 : Addr} {fd fd1 fd2 : FuncData} (F : Fun K "_law_plan" "_law_plan" sPlan f fd) (D1 : Df K mg "_law_draw" sDraw ["_law_pot_here", "_law_many"] f1 fd1)
    (D2 : Df K mg "_law_shuffled" sShuf ["_law_pot_here", "_law_some"] f2 fd2) (B : Bl mg) : FnOk P w K mg base CX0 3 f fd ["_law_pot_here", "_law_most"] (spPlan K) := by
  have G1 : FnOk P w K mg base CX0 1 f1 fd1 ["_law_pot_here", "_law_many"] spDraw := ok_draw D1.F B
  have G2 : FnOk P w K mg base CX0 2 f2 fd2 ["_law_pot_here", "_law_some"] (spShuf K) := ok_shuf D2.F D1 B
  refine F.ok sc_plan (fun vs H Q E h => ?_) (fun cdv A outer s H vs Q E hr h => ?_)
  · obtain ⟨a, most, rfl, _⟩ := h
    rfl
  · obtain ⟨a, most, rfl, pot, m0, m6, q⟩ := h
    have hr1 : Room 1 _ := hr.mono (by decide)
    refine ⟨_, pss_cons (ps_par (i := 2) (j := 3) rfl sc_plan.nd rfl rfl (by decide) rfl rfl (pa_cons (pe_call G1 hr1 rfl D1.g D1.F.kp D1.b .nil pass0 (pa_cons (pv 0) (pa_cons (pe_op op_add (pv 1) pe_int) pa_nil)))
          (pa_cons (pe_op op_add pe_int (pe_call G1 hr1 rfl D1.g D1.F.kp D1.b .nil pass0 (pa_cons (pv 0) (pa_cons pe_int pa_nil)))) pa_nil)) (by rfl))
      (pss_cons (ps_par3 (i := 4) (j := 5) (l := 6) rfl sc_plan.nd rfl rfl rfl (by decide) (by decide) (by decide) rfl rfl rfl
          (pa_cons (pe_call G2 hr rfl D2.g D2.F.kp D2.b .nil pass0 (pa_cons (pv 0) (pa_cons (pe_listRg rfl (by rfl) B.list (prg_1 (by rfl) B.range (pv 2))) pa_nil))) (pa_cons (pe_lst pa_nil) (pa_cons (pe_lst pa_nil) pa_nil))) (by rfl))
      (pss_cons (ps_for PassesOwn.never rfl (pi_range1 rfl B.range (pa_cons (pv 2) pa_nil)) (pg_name (i := 7) sc_plan.nd rfl (Or.inl rfl))
        (pss_one (ps_for PassesOwn.never rfl (pi_range2 rfl B.range (pa_cons (pe_op op_add (pv 7) pe_int) (pa_cons (pv 2) pa_nil))) (pg_name (i := 8) sc_plan.nd rfl (Or.inl rfl))
          (pss_cons (ps_if (pt_cmpR op_eq (pe_call G1 hr1 rfl D1.g D1.F.kp D1.b .nil pass0 (pa_cons (pv 0) (pa_cons (pe_op op_add pe_int (pv 3)) pa_nil))) pe_int (nomark _))
              (pss_one (ps_expr (pe_bm PySem.F.plainAttrs_list PySem.F.slot_list_append PySem.F.type_list_append mt_append (pv 5) (pa_cons (pe_tup (pa_cons (pe_ix ix_list (pv 4) (pv 7) (fun _ _ => rfl)) (pa_cons (pe_ix ix_list (pv 4) (pv 8) (fun _ _ => rfl)) pa_nil))) pa_nil)))) pss_nil)
          (pss_one (ps_if (pt_cmpR op_eq (pe_call G1 hr1 rfl D1.g D1.F.kp D1.b .nil pass0 (pa_cons (pv 0) (pa_cons (pe_op op_add pe_int (pv 3)) pa_nil))) pe_int (nomark _))
              (pss_one (ps_expr (pe_bm PySem.F.plainAttrs_list PySem.F.slot_list_append PySem.F.type_list_append mt_append (pv 6) (pa_cons (pe_tup (pa_cons
                (pe_callB (call_min2 rfl) (by rfl) B.min PyProof.Rows.boot_min (pa_cons (pe_ix ix_list (pv 4) (pv 7) (fun _ _ => rfl)) (pa_cons (pe_ix ix_list (pv 4) (pv 8) (fun _ _ => rfl)) pa_nil)))
                (pa_cons (pe_callB (call_max2 rfl) (by rfl) B.max PyProof.Rows.boot_max (pa_cons (pe_ix ix_list (pv 4) (pv 7) (fun _ _ => rfl)) (pa_cons (pe_ix ix_list (pv 4) (pv 8) (fun _ _ => rfl)) pa_nil))) pa_nil))) pa_nil)))) pss_nil))))))
      (pss_one (ps_ret (pe_tup (pa_cons (pv 2) (pa_cons (pe_call G2 hr rfl D2.g D2.F.kp D2.b .nil pass0 (pa_cons (pv 0) (pa_cons (pv 5) pa_nil))) (pa_cons (pe_call G2 hr rfl D2.g D2.F.kp D2.b .nil pass0 (pa_cons (pv 0) (pa_cons (pv 6) pa_nil))) pa_nil)))))))), ?_⟩
    -- size, thin
    refine ⟨_, rfl, _, rfl, _, _, rfl, rfl, a, _, rfl, pot, by omega, by omega, fun H1 d s1 p1 d0 d1 => ?_⟩
    obtain ⟨n, rfl⟩ : ∃ n : Nat, d = (n : Int) := ⟨d.toNat, by omega⟩
    refine ⟨_, rfl, a, _, rfl, p1, by decide, by decide, fun H2 th s2 p2 t0 t1 => ?_⟩
    refine ⟨_, _, rfl, rfl, _, _, rfl, ?_⟩
    have s12 := s1.trans s2
    -- order, arrows, ties
    refine ⟨_, rfl, _, rfl, n, rfl, RgOk.of_le (by omega) (by omega) (by omega) (by omega), fun lr hlr => ?_⟩
    obtain ⟨x2, y2, g2, gg2⟩ := id p2
    have nlra : lr ≠ a := fun z => by rw [z, g2] at hlr; cases hlr
    refine ⟨a, lr, rgV 0 n, rfl, ⟨x2, y2, by rw [upd_ne nlra.symm]; exact g2, gg2⟩, nlra, sl_of upd_same, ?_, by rw [rgV_length]; omega, fun H3 po yo s3 p3 hpo npo ho pmo => ?_⟩
    · intro x hx
      rw [rgV_things] at hx
      obtain ⟨i, _, rfl⟩ := List.mem_map.mp hx
      exact .inl ⟨i, rfl⟩
    obtain ⟨o, rfl, hoP⟩ : ∃ o : List Int, yo = o.map V.int ∧ o.Perm (things n) := by
      rw [rgV_things] at pmo
      refine ⟨yo.map (fun v => match v with | .int i => i | _ => 0), ?_, ?_⟩
      · rw [List.map_map]
        refine (List.map_id yo).symm.trans (List.map_congr_left fun v hv => ?_)
        obtain ⟨i, _, rfl⟩ := List.mem_map.mp (pmo.mem_iff.mp hv)
        rfl
      · have := pmo.map (fun v => match v with | V.int i => i | _ => 0)
        rw [List.map_map] at this
        have e : ((fun v => match v with | V.int i => i | _ => 0) ∘ V.int) = (id : Int → Int) := by funext z; rfl
        rw [e, List.map_id] at this
        exact this
    refine ⟨szle (by decide), fun pa hpa => ⟨szle (by decide), fun pt hpt => ⟨_, _, _, rfl, ?_⟩⟩⟩
    have lno : o.length = n := by rw [hoP.length_eq, things_len]
    have npapt : pa ≠ pt := fun z => by rw [z, upd_same] at hpt; cases hpt
    have hpt3 : H3 pt = none := by rw [upd_ne npapt.symm] at hpt; exact hpt
    obtain ⟨x3, y3, g3, gg3⟩ := id p3
    have npaa : pa ≠ a := fun z => by rw [z, g3] at hpa; cases hpa
    have npta : pt ≠ a := fun z => by rw [z, g3] at hpt3; cases hpt3
    have npoa : po ≠ pa := fun z => by rw [z, hpa] at ho; cases ho
    have npot : po ≠ pt := fun z => by rw [z, hpt3] at ho; cases ho
    have s03 : SmX a H H3 := s12.trans ((smx_of (same_new hlr)).trans s3)
    have dist : Dist a po pa pt H := ⟨npo, npaa, npta, npoa, npot, npapt, smx_free s03 npaa hpa, smx_free s03 npta hpt3⟩
    have lp0 : LP a po pa pt H (upd (upd H3 pa (.lst [])) pt (.lst [])) o [] [] := by
      refine ⟨s03.trans (smx_of ((same_new hpa).trans (same_new hpt))), ⟨x3, y3, by rw [upd_ne npta.symm, upd_ne npaa.symm]; exact g3, gg3⟩, by rw [upd_ne npot, upd_ne npoa]; exact ho, ⟨[], by rw [upd_ne npapt, upd_same], ta_0 _ _⟩, ⟨[], upd_same, ta_0 _ _⟩⟩
    -- for at in range(size)
    refine ⟨_, rfl, n, rfl, by omega, by omega, for_range (lo := 0) (n := ((n : Nat) : Int).toNat) (fun i σ G => ∃ (ixA ixT : List (Nat × Nat)) (v7 v8 : Option V), σ = [some (V.ref a), some (V.int most), some (V.int n), some (V.int (1 + th)), some (V.ref po), some (V.ref pa), some (V.ref pt), v7, v8] ∧
      LP a po pa pt H G o ixA ixT ∧ Sn n i 0 ixA ∧ Sn n i 0 ixT) ⟨[], [], none, none, rfl, lp0, sn_0 _ _ _, sn_0 _ _ _⟩ ?_ ?_⟩
    · rintro i σ G hi ⟨ixA, ixT, v7, v8, rfl, lp, sA, sT⟩
      have hi' : i < n := by omega
      refine ⟨_, rfl, _, _, rfl, rfl, _, rfl, _, _, rfl, (by omega), for_range (lo := 0 + (i : Int) + 1) (n := ((n : Int) - (0 + (i : Int) + 1)).toNat) (fun j σ G => ∃ (ixA ixT : List (Nat × Nat)) (v8 : Option V), σ = [some (V.ref a), some (V.int most), some (V.int n), some (V.int (1 + th)), some (V.ref po), some (V.ref pa), some (V.ref pt), some (V.int (0 + (i : Int))), v8] ∧
        LP a po pa pt H G o ixA ixT ∧ Sn n i (i + 1 + j) ixA ∧ Sn n i (i + 1 + j) ixT) ⟨ixA, ixT, _, rfl, lp, sn_up sA (.inr ⟨rfl, by omega⟩), sn_up sT (.inr ⟨rfl, by omega⟩)⟩ ?_ ?_⟩
      · rintro j σ G1 hj ⟨ixA, ixT, v8, rfl, lp, sA, sT⟩
        have hj' : i + 1 + j < n := by omega
        have ei : (0 + (i : Int)) = ((i : Nat) : Int) := by omega
        have ej : (0 + (i : Int) + 1 + (j : Nat)) = ((i + 1 + j : Nat) : Int) := by omega
        have atI1 : atI (o.map V.int) (0 + (i : Int)) = some (V.int (it o i)) := by rw [ei]; exact at_it (by omega)
        have atJ1 : atI (o.map V.int) (0 + (i : Int) + 1 + (j : Nat)) = some (V.int (it o (i + 1 + j))) := by rw [ej]; exact at_it (by omega)
        refine ⟨_, rfl, _, rfl, _, _, rfl, rfl, a, _, rfl, lp.pot, by omega, by omega, fun G2 d2 e2 pp2 _ _ => ?_⟩
        have lp2 := lp_draw dist lp e2 pp2
        refine ⟨rfl, _, rfl, ?_⟩
        refine ite2 (fun hd => ?_) (fun hd => ?_)
        · obtain ⟨acc, hacc, tacc⟩ := lp2.hA
          refine ⟨_, rfl, .inl ⟨rfl, _, sl_of hacc⟩, _, rfl, _, rfl, po, _, _, _, rfl, rfl, sl_of lp2.ho, atI1, _, rfl, _, rfl, po, _, _, _, rfl, rfl, sl_of lp2.ho, atJ1, szle (by show 2 ≤ 100000; decide), fun v hv => ?_⟩
          have nvp : pa ≠ v := fun z => by rw [z, hv] at hacc; cases hacc
          have few := sn_few sA (by omega)
          refine ⟨pa, acc, _, rfl, rfl, by rw [upd_ne nvp]; exact hacc, szlt (by have := tacc.1; rw [List.length_map] at this; omega), ?_⟩
          have lp3 := lp_arr dist lp2 hacc hv (i, i + 1 + j)
          have sA' := sn_put (j := i + 1 + j) sA (by omega) hj'
          refine ⟨_, rfl, _, rfl, _, _, rfl, rfl, a, _, rfl, lp3.pot, by omega, by omega, fun G4 d4 e4 pp4 _ _ => ?_⟩
          have lp4 := lp_draw dist lp3 e4 pp4
          refine ⟨rfl, _, rfl, ?_⟩
          refine ite2 (fun hd => ?_) (fun hd => ?_)
          · obtain ⟨acc, hacc, tacc⟩ := lp4.hT
            refine ⟨_, rfl, .inl ⟨rfl, _, sl_of hacc⟩, _, rfl, _, rfl, po, _, _, _, rfl, rfl, sl_of lp4.ho, atI1, _, rfl, _, rfl, po, _, _, _, rfl, rfl, sl_of lp4.ho, atJ1, _, _, rfl, _, rfl, _, rfl, po, _, _, _, rfl, rfl, sl_of lp4.ho, atI1, _, rfl, _, rfl, po, _, _, _, rfl, rfl, sl_of lp4.ho, atJ1, _, _, rfl, szle (by show 2 ≤ 100000; decide), fun v hv => ?_⟩
            have nvp : pt ≠ v := fun z => by rw [z, hv] at hacc; cases hacc
            have few := sn_few sT (by omega)
            refine ⟨pt, acc, _, rfl, rfl, by rw [upd_ne nvp]; exact hacc, szlt (by have := tacc.1; rw [List.length_map] at this; omega), ?_⟩
            have lp5 := lp_tie dist lp4 hacc hv (i, i + 1 + j)
            exact ⟨_, _, _, rfl, lp5, sA', sn_put (j := i + 1 + j) sT (by omega) hj'⟩
          · exact ⟨_, _, _, rfl, lp4, sA', sn_up sT (.inr ⟨rfl, by show i + 1 + j ≤ i + 1 + (j + 1); omega⟩)⟩
        · refine ⟨_, rfl, _, rfl, _, _, rfl, rfl, a, _, rfl, lp2.pot, by omega, by omega, fun G4 d4 e4 pp4 _ _ => ?_⟩
          have lp4 := lp_draw dist lp2 e4 pp4
          refine ⟨rfl, _, rfl, ?_⟩
          refine ite2 (fun hd => ?_) (fun hd => ?_)
          · obtain ⟨acc, hacc, tacc⟩ := lp4.hT
            refine ⟨_, rfl, .inl ⟨rfl, _, sl_of hacc⟩, _, rfl, _, rfl, po, _, _, _, rfl, rfl, sl_of lp4.ho, atI1, _, rfl, _, rfl, po, _, _, _, rfl, rfl, sl_of lp4.ho, atJ1, _, _, rfl, _, rfl, _, rfl, po, _, _, _, rfl, rfl, sl_of lp4.ho, atI1, _, rfl, _, rfl, po, _, _, _, rfl, rfl, sl_of lp4.ho, atJ1, _, _, rfl, szle (by show 2 ≤ 100000; decide), fun v hv => ?_⟩
            have nvp : pt ≠ v := fun z => by rw [z, hv] at hacc; cases hacc
            have few := sn_few sT (by omega)
            refine ⟨pt, acc, _, rfl, rfl, by rw [upd_ne nvp]; exact hacc, szlt (by have := tacc.1; rw [List.length_map] at this; omega), ?_⟩
            have lp5 := lp_tie dist lp4 hacc hv (i, i + 1 + j)
            exact ⟨_, _, _, rfl, lp5, sn_up sA (.inr ⟨rfl, by show i + 1 + j ≤ i + 1 + (j + 1); omega⟩), sn_put (j := i + 1 + j) sT (by omega) hj'⟩
          · exact ⟨_, _, _, rfl, lp4, sn_up sA (.inr ⟨rfl, by omega⟩), sn_up sT (.inr ⟨rfl, by omega⟩)⟩
      · rintro σ G1 ⟨ixA, ixT, v8, rfl, lp, sA, sT⟩
        exact ⟨ixA, ixT, _, _, rfl, lp, sn_end sA (by omega), sn_end sT (by omega)⟩
    · rintro σ G ⟨ixA, ixT, v7, v8, rfl, lp, sA, sT⟩
      obtain ⟨accA, hA1, tA⟩ := lp.hA
      obtain ⟨accT, hT1, tT⟩ := lp.hT
      have fewA := sn_few sA (by omega)
      have fewT := sn_few sT (by omega)
      have lA := tA.1
      have lT := tT.1
      rw [List.length_map] at lA lT
      refine ⟨_, rfl, _, rfl, _, rfl, a, pa, accA, rfl, lp.pot, npaa, sl_of hA1, lt_el tA, by omega, fun G1 la xs e1 pp1 hla nla hxs pmA => ?_⟩
      have hT2 : LT G1 pt (ixT.map (prT o)) := lt_x lp.hT npta lp.pot e1
      obtain ⟨accT', hT2', tT'⟩ := hT2
      rw [e1 _ _ npta hT1] at hT2'
      cases hT2'
      refine ⟨_, rfl, _, rfl, a, pt, accT, rfl, pp1, npta, sl_of (e1 _ _ npta hT1), lt_el tT', by omega, fun G2 lt ys e2 pp2 hlt nlt hys pmT => ?_⟩
      refine ⟨szle (by show 3 ≤ 100000; decide), fun p hp => ?_⟩
      have dA : DpAll K G accA ((ixA.map (prA o)).map dP) := ta_dps tA
      have dT : DpAll K G1 accT ((ixT.map (prT o)).map dP) := ta_dps tT'
      obtain ⟨as, pmas, das⟩ := dps_perm dA pmA
      obtain ⟨ts, pmts, dts⟩ := dps_perm dT pmT
      have key : ∀ {G G' : Hp} {xs : List V} {ps : List (Int × Int)}, DpAll K G xs (ps.map dP) → Pot G a → SmX a G G' → DpAll K G' xs (ps.map dP) := by
        intro G G' xs ps h pg e
        induction ps generalizing xs with
        | nil => cases h; exact .nil
        | cons z zs ih =>
          cases h with
          | cons h1 h2 =>
            obtain ⟨t, rfl, ht⟩ := dP_inv h1
            exact .cons (dP_mk (smx_t pg e ht)) (ih h2)
      have npl : p ≠ la := fun z => by rw [z, e2 _ _ nla hxs] at hp; cases hp
      have npm : p ≠ lt := fun z => by rw [z, hys] at hp; cases hp
      obtain ⟨u2, v2, gp2, og2⟩ := id pp2
      have npa' : p ≠ a := fun z => by rw [z, gp2] at hp; cases hp
      have nlm : la ≠ lt := fun z => by rw [z] at hxs; rw [hxs] at hlt; cases hlt
      have pas := prs_a hoP sA (by omega)
      have pts := prs_t hoP sT (by omega)
      refine q _ p la lt n xs ys as ts ((lp.sx.trans (e1.trans e2)).trans (smx_of (same_new hp))) ⟨u2, v2, by rw [upd_ne npa'.symm]; exact gp2, og2⟩ upd_same ?_ ?_ nlm nla nlt ?_ ?_ ?_ ?_ (by omega) (prs_perm pas pmas) (acy_perm (acy_a hoP sA) pmas) (prs_perm pts.1 pmts) (fun z hz => pts.2 z (pmts.mem_iff.mp hz))
      · exact smx_free lp.sx nla hla
      · exact smx_free (lp.sx.trans e1) nlt hlt
      · rw [upd_ne npl.symm]; exact e2 _ _ nla hxs
      · rw [upd_ne npm.symm]; exact hys
      · exact dps_s (key (key das lp.pot e1) pp1 e2) (same_new hp)
      · exact dps_s (key dts pp1 e2) (same_new hp)
end
end Tk

namespace Tk
open PySem PySem.Spec PyProof.Rows L2
abbrev scOut : Scope := { kind := .function, names := [(".0", .local), ("_law_mark", .cell), ("range", .globalImplicit), ("_law_marks", .cell), ("_law_size", .cell)], isGenerator := false, isCoroutine := false }
abbrev nParts : List Str := ["_law_size", "_law_ties", "_law_marks", "_law_one", "_law_other", "_law_near", "_law_far", "_law_mark", "_law_thing"]
theorem sc_parts : FnScope nParts ["_law_size", "_law_ties"] (defScope sParts) := ⟨rfl, rfl, rfl, by decide +kernel, rfl, by decide +kernel, by decide +kernel⟩
def spParts (K : PySem.W.Frag) : Sp := fun vs H Q _ => ∃ (n : Nat) (b : Addr) (ts : List (Int × Int)), vs = [.int n, .ref b] ∧ PL K H b ts ∧ n ≤ 6 ∧ ts.length < 60 ∧ (∀ p ∈ ts, p.1 ∈ things n ∧ p.2 ∈ things n) ∧
  ∀ (H' : Hp) (p : Addr) (xs : List V), Same H H' → H p = none → H' p = some (.lst xs) → LsAt H' xs (partsL n ts) → Q (.ref p) H'
theorem at_I {M : List Int} {n : Nat} (h : M.length = n) {x : Int} (hx : x ∈ things n) : atI (M.map V.int) x = some (V.int (at' M x)) := by
  have g := at_get h hx
  obtain ⟨h0, h1⟩ := mem_things.mp hx
  have e : x = ((x.toNat : Nat) : Int) := by omega
  generalize hy : at' M x = y at g ⊢
  rw [e]
  exact atI_nat (by rw [List.getElem?_map, g]; rfl)
def clsK (M : List Int) (m : Int) (j : Nat) : List Int := (things j).filter fun t => decide (at' M t = m)
theorem clsK_s (M : List Int) (m : Int) (j : Nat) : clsK M m (j + 1) = if at' M (Int.ofNat j) = m then clsK M m j ++ [Int.ofNat j] else clsK M m j := by
  unfold clsK
  rw [things_succ, List.filter_append]
  by_cases c : at' M (Int.ofNat j) = m
  · have c' : at' M (j : Int) = m := c
    rw [if_pos c]; simp [c']
  · have c' : ¬ at' M (j : Int) = m := c
    rw [if_neg c]; simp [c']
def rawK (n : Nat) (M : List Int) (k : Nat) : List (List Int) := ((things k).filter fun m => decide (m ∈ M)).map fun m => clsK M m n
theorem rawK_s (n : Nat) (M : List Int) (k : Nat) : rawK n M (k + 1) = if Int.ofNat k ∈ M then rawK n M k ++ [clsK M (Int.ofNat k) n] else rawK n M k := by
  unfold rawK
  rw [things_succ, List.filter_append, List.map_append]
  by_cases c : Int.ofNat k ∈ M
  · have c' : (k : Int) ∈ M := c
    rw [if_pos c]; simp [c']
  · have c' : (k : Int) ∉ M := c
    rw [if_neg c]; simp [c']
section
variable {P : Program} {w : World} {K : PySem.W.Frag} {mg : Str → Option Value} {base : Heap}
theorem ok_parts {f : Addr} {fd : FuncData} (F : Fun K "_law_parts" "_law_parts" sParts f fd) (B : Bl mg) : FnOk P w K mg base CX0 1 f fd ["_law_size", "_law_ties"] (spParts K) := by
  refine F.ok sc_parts (fun vs H Q E h => ?_) (fun cdv A outer s H vs Q E hr h => ?_)
  · obtain ⟨n, b, ts, rfl, _⟩ := h
    rfl
  · obtain ⟨n, b, ts, rfl, ⟨xs, hxs, hd⟩, n6, few, rg, q⟩ := h
    refine ⟨_, pss_cons (ps_set (i := 2) sc_parts.nd rfl (Or.inr rfl) (pe_listRg rfl (by rfl) B.list (prg_1 (by rfl) B.range (pv 0))))
      (pss_cons (ps_for PassesOwn.never rfl (pi_list (pv 1)) (pg_tup rfl (pgs_cons (pg_name (i := 3) sc_parts.nd rfl (Or.inl rfl)) (pgs_cons (pg_name (i := 4) sc_parts.nd rfl (Or.inl rfl)) pgs_nil)))
        (pss_cons (ps_asg (pe_tup (pa_cons (pe_ix ix_list (pv 2) (pv 3) (fun _ _ => rfl)) (pa_cons (pe_ix ix_list (pv 2) (pv 4) (fun _ _ => rfl)) pa_nil)))
            (pg_tup rfl (pgs_cons (pg_name (i := 5) sc_parts.nd rfl (Or.inr rfl)) (pgs_cons (pg_name (i := 6) sc_parts.nd rfl (Or.inr rfl)) pgs_nil))))
        (pss_one (ps_set (i := 2) sc_parts.nd rfl (Or.inr rfl)
          (pe_lc (own := [("_law_mark", 7)]) (g := gName 7) (tt := tYes) (te := tIf (tTest (tOp rEq (tVar 7) (tVar 6))) (tVar 5) (tVar 7)) rfl sc_parts.nd (pi_list (pv 2)) (blkOk_by (N := nParts) (sc := defScope sParts) (by decide +kernel))
            (fun _ _ _ _ _ => pg_name (i := 7) sc_parts.nd rfl (Or.inl rfl)) (fun _ _ _ _ _ => pts_nil) (fun _ _ _ _ _ => pe_ifExp (pt_cmpR op_eq (pv 7) (pv 6) (nomark _)) (pv 5) (pv 7)))))))
      (pss_one (ps_ret (pe_callB (cr_sortedR hr.units) (by rfl) B.sorted PyProof.Rows.boot_sorted (pa_cons
          (pe_lc (own := [("_law_mark", 7)]) (g := gName 7) (tt := tTest (tOp (rIn K false) (tVar 7) (tVar 2))) (te := tLc (iRng1 (tCons (tVar 0) tNil)) (gName 8) (tTest (tOp rEq (tOp (rIxL K) (tVar 2) (tVar 8)) (tVar 7))) (tVar 8) [8]) rfl sc_parts.nd
            (pi_range1 rfl B.range (pa_cons (pv 0) pa_nil)) (blkOk_by (N := nParts) (sc := defScope sParts) (by decide +kernel))
            (fun _ _ _ _ _ => pg_name (i := 7) sc_parts.nd rfl (Or.inr rfl)) (fun _ _ _ _ _ => pts_one (pt_cmpR op_in_seq (pv 7) (pv 2) (by rfl)))
            (fun _ _ _ _ _ => pe_lc (own := [("_law_thing", 8)]) (g := gName 8) (tt := tTest (tOp rEq (tOp (rIxL K) (tVar 2) (tVar 8)) (tVar 7))) (te := tVar 8) rfl sc_parts.nd
              (pi_range1 rfl B.range (pa_cons (pv 0) pa_nil)) (blkOk_by (N := nParts) (sc := scOut) (by decide +kernel))
              (fun _ _ _ _ _ => pg_name (i := 8) sc_parts.nd rfl (Or.inl rfl)) (fun _ _ _ _ _ => pts_one (pt_cmpR op_eq (pe_ix ix_list (pv 2) (pv 8) (fun _ _ => rfl)) (pv 7) (nomark _))) (fun _ _ _ _ _ => pv 8))) pa_nil))))), ?_⟩
    have lx : xs.length = ts.length := by rw [dps_len hd, List.length_map]
    refine ⟨_, rfl, n, rfl, RgOk.of_le (by omega) (by omega) (by omega) (by omega), fun l0 hl0 => ?_⟩
    refine ⟨_, rfl, b, rfl, ⟨xs, same_l (same_new hl0) hxs⟩, for_list (K := K) (a := b) (xs := xs) (fun k σ G => ∃ (lm : Addr) (M : List Int) (v3 v4 v5 v6 v7 v8 : Option V), σ = [some (V.int n), some (V.ref b), some (V.ref lm), v3, v4, v5, v6, v7, v8] ∧
        Same H G ∧ G lm = some (.lst (M.map V.int)) ∧ MInv n (ts.take k) M)
      ⟨l0, things n, _, _, _, _, _, _, rfl, same_new hl0, by rw [upd_same, rgV_things], minv_0 n⟩ (fun i σ G _ z => by obtain ⟨_, _, _, _, _, _, _, _, _, z, _⟩ := z; exact same_l z hxs) ?_ ?_⟩
    · rintro k x σ G hx ⟨lm, M, v3, v4, v5, v6, v7, v8, rfl, sG, hM, inv⟩
      obtain ⟨⟨u, v⟩, t', hpk, rfl, hu'⟩ := pl_at (dps_s hd sG) hx
      obtain ⟨hu, hv⟩ := rg _ (List.mem_of_getElem? hpk)
      refine ⟨t', _, rfl, hu', rfl, _, _, rfl, _, _, rfl, rfl, ?_⟩
      refine ⟨_, rfl, _, rfl, lm, _, _, _, rfl, rfl, sl_of hM, at_I inv.len hu, _, rfl, _, rfl, lm, _, _, _, rfl, rfl, sl_of hM, at_I inv.len hv, szle (by show 2 ≤ 100000; decide), fun c hc => ?_⟩
      refine ⟨c, _, rfl, st_of upd_same, rfl, _, _, rfl, _, _, rfl, rfl, ?_⟩
      have s1 : Same G (upd G c (.tup [V.int (at' M u), V.int (at' M v)])) := same_new hc
      have hM1 := s1 _ _ hM
      generalize upd G c (.tup [V.int (at' M u), V.int (at' M v)]) = G1 at s1 hM1
      refine ⟨_, rfl, lm, rfl, ⟨_, sl_of hM1⟩, fun D hD => ?_⟩
      refine lc_list (xs := M.map V.int) (LcP G1 D fun j => ((M.take j).map fun m => if m = at' M v then at' M u else m).map V.int) (lcp_0 hD rfl) (fun j G2 _ p => sl_of (p.1 _ _ hM1)) ?_ ?_
      · intro j y G2 hy p
        obtain ⟨m, hm, rfl⟩ := int_at hy
        have short : (((M.take j).map fun m => if m = at' M v then at' M u else m).map V.int).length < 100000 := by
          rw [List.length_map, List.length_map, List.length_take]
          have := inv.len
          omega
        refine ⟨rfl, _, rfl, _, rfl, rfl, decide (m = at' M v), dec_bl, ?_⟩
        by_cases c1 : m = at' M v
        · rw [decide_eq_true c1]
          refine ⟨_, rfl, ?_⟩
          refine lcp_put hD p ?_ short
          rw [take_at hm, List.map_append, List.map_append]
          simp [c1]
        · rw [decide_eq_false c1]
          refine iteF ⟨_, rfl, ?_⟩
          refine lcp_put hD p ?_ short
          rw [take_at hm, List.map_append, List.map_append]
          simp [c1]
      · intro G2 p
        have hD2 : G2 D = some (.lst (((M.take (M.map V.int).length).map fun m => if m = at' M v then at' M u else m).map V.int)) := p.2
        rw [take_all (by simp)] at hD2
        have st := minv_step inv (p := (u, v)) hu hv
        rw [← take_at hpk] at st
        exact ⟨D, _, _, _, _, _, _, _, rfl, sG.trans (s1.trans p.1), hD2, st⟩
    · rintro σ G ⟨lm, M, v3, v4, v5, v6, v7, v8, rfl, sG, hM, inv⟩
      rw [take_all lx.symm] at inv
      have ml := inv.len
      refine ⟨_, rfl, n, rfl, by omega, by omega, fun D hD => ?_⟩
      refine lc_range (lo := 0) (n := ((n : Nat) : Int).toNat) (fun k G2 => ∃ acc, Same G G2 ∧ G2 D = some (.lst acc) ∧ LsAt G2 acc (rawK n M k) ∧ ∀ y ∈ acc, y ≠ .ref D)
        ⟨[], same_new hD, upd_same, trivial, (fun _ h => nomatch h)⟩ ?_ ?_
      · rintro k G2 hk ⟨acc, s2, hD2, ls, nac⟩
        have hk' : k < n := by omega
        have e0 : (0 + (k : Int)) = Int.ofNat k := Int.zero_add _
        have rk := rawK_s n M k
        have al := ls_len ls
        have al2 : (rawK n M k).length ≤ k := by
          unfold rawK
          rw [List.length_map]
          have := List.length_filter_le (fun m => decide (m ∈ M)) (things k)
          rw [things_len] at this
          exact this
        refine ⟨rfl, _, rfl, _, rfl, lm, _, rfl, .inl (sl_of (s2 _ _ hM)), rfl, flat_ints M, _, in_bl, ?_⟩
        rw [e0]
        by_cases c : Int.ofNat k ∈ M
        · rw [decide_eq_true c]
          refine ⟨_, rfl, n, rfl, by omega, by omega, fun D2 hDn => ?_⟩
          refine lc_range (lo := 0) (n := ((n : Nat) : Int).toNat) (LcP G2 D2 fun j => (clsK M (Int.ofNat k) j).map V.int) (lcp_0 hDn rfl) ?_ ?_
          · intro j G3 hj p
            have hj' : j < n := by omega
            have e1 : (0 + (j : Int)) = Int.ofNat j := Int.zero_add _
            have hjt : Int.ofNat j ∈ things n := mem_things.mpr ⟨by simp, by simpa using hj'⟩
            have short : ((clsK M (Int.ofNat k) j).map V.int).length < 100000 := by
              unfold clsK
              rw [List.length_map]
              have := List.length_filter_le (fun t => decide (at' M t = Int.ofNat k)) (things j)
              rw [things_len] at this
              omega
            have ck := clsK_s M (Int.ofNat k) j
            rw [e1]
            refine ⟨rfl, _, rfl, _, rfl, lm, _, _, _, rfl, rfl, sl_of (p.1 _ _ (s2 _ _ hM)), at_I ml hjt, _, rfl, rfl, decide (at' M (Int.ofNat j) = Int.ofNat k), dec_bl, ?_⟩
            by_cases c1 : at' M (Int.ofNat j) = Int.ofNat k
            · rw [decide_eq_true c1]
              refine ⟨_, rfl, ?_⟩
              refine lcp_put hDn p ?_ short
              rw [ck, if_pos c1, List.map_append]; rfl
            · rw [decide_eq_false c1]
              refine iteF (lcp_no p ?_)
              rw [ck, if_neg c1]
          · intro G3 p
            have en : ((n : Nat) : Int).toNat = n := by omega
            have hD3 : G3 D2 = some (.lst ((clsK M (Int.ofNat k) n).map V.int)) := by have := p.2; rw [en] at this; exact this
            have nDD : D2 ≠ D := fun e => by rw [e, hD2] at hDn; cases hDn
            refine ⟨acc, p.1 _ _ hD2, szlt (by omega), acc ++ [.ref D2], same_mut (s2.trans p.1) hD, upd_same, ?_, ?_⟩
            · rw [rk, if_pos c]
              refine ls_mut (ls_app (ls_s p.1 ls) ⟨⟨D2, rfl, hD3⟩, trivial⟩) fun y hy => ?_
              rcases List.mem_append.mp hy with z | z
              · exact nac y z
              · simp at z
                rw [z]
                exact fun e => nDD (V.ref.inj e)
            · intro y hy
              rcases List.mem_append.mp hy with z | z
              · exact nac y z
              · simp at z
                rw [z]
                exact fun e => nDD (V.ref.inj e)
        · rw [decide_eq_false c]
          refine iteF ⟨acc, s2, hD2, ?_, nac⟩
          rw [rk, if_neg c]
          exact ls
      · rintro G2 ⟨acc, s2, hD2, ls, nac⟩
        have en : ((n : Nat) : Int).toNat = n := by omega
        rw [en] at ls
        have er : rawK n M n = rawL n M := rfl
        rw [er] at ls
        refine ⟨D, acc, _, rfl, sl_of hD2, ls, fun ys os' p pm srt lsy sub hp => ?_⟩
        have eo := sorted_parts inv pm srt
        subst eo
        exact q _ p ys ((sG.trans s2).trans (same_new hp)) ((sG.trans s2).free hp) upd_same (ls_s (same_new hp) lsy)
end
end Tk

namespace Tk
open PySem PySem.Spec PyProof.Rows L2
/-- what the rule of repr asks of data -/
structure RepOk (d : PyData) : Prop where
  sh : d.showable = true
  nd : d.hasDict = false
  dp : d.depth ≤ 50
  sz : d.shown.length ≤ sizeLine
theorem log2_lt {k : Nat} (h : k < 10 ^ 12) : k.log2 < 40 := by
  by_cases h0 : k = 0
  · subst h0; decide
  · have := (Nat.log2_lt h0 (k := 40)).mpr (Nat.lt_of_lt_of_le h (by decide))
    exact this
theorem ints_facts : ∀ {ns : List Int}, (∀ n ∈ ns, n.natAbs < 10 ^ 12) → PyData.showableAll (ns.map .int) = true ∧ PyData.hasDictAll (ns.map .int) = false ∧ PyData.depthAll (ns.map .int) = 0 ∧ PyData.canLayAll0 (ns.map .int) = true ∧ PyData.weightAll (ns.map .int) ≤ 42 * ns.length
  | [], _ => ⟨by simp [PyData.showableAll], by simp [PyData.hasDictAll], by simp [PyData.depthAll], by simp [PyData.canLayAll0], by simp [PyData.weightAll]⟩
  | n :: ns, h => by
    obtain ⟨a, b, c, d, e⟩ := ints_facts (ns := ns) fun m hm => h m (List.mem_cons_of_mem _ hm)
    have hn := log2_lt (h n (List.mem_cons_self ..))
    refine ⟨?_, ?_, ?_, ?_, ?_⟩
    · simp only [List.map_cons, PyData.showableAll, PyData.showable, a, Bool.and_true, decide_eq_true_eq]; omega
    · simp only [List.map_cons, PyData.hasDictAll, PyData.hasDict, b, Bool.or_false]
    · simp only [List.map_cons, PyData.depthAll, PyData.depth, c, Nat.max_self]
    · simp only [List.map_cons, PyData.canLayAll0, PyData.canLay0, d, Bool.and_true]
    · simp only [List.map_cons, PyData.weightAll, PyData.weight, List.length_cons]
      split <;> omega
theorem rep_ints {ns : List Int} (h : ∀ n ∈ ns, n.natAbs < 10 ^ 12) (hl : ns.length ≤ 1000) : RepOk (.list (ns.map .int)) := by
  obtain ⟨a, b, c, d, e⟩ := ints_facts h
  refine ⟨by simp only [PyData.showable]; exact a, by simp only [PyData.hasDict]; exact b, by simp only [PyData.depth]; omega, ?_⟩
  refine PyData.shown_fits (B := 13) (by decide) (by decide) ?_ ?_
  · simp only [PyData.leavesShort]
    exact PyData.leavesShortAll_of_canLay0 13 _ d (PyData.intsShortAll_ints ns h)
  · simp only [PyData.weight]; omega
theorem bools_facts : ∀ (bs : List Bool), PyData.showableAll (bs.map .bool) = true ∧ PyData.hasDictAll (bs.map .bool) = false ∧ PyData.depthAll (bs.map .bool) = 0 ∧ PyData.canLayAll0 (bs.map .bool) = true ∧ PyData.weightAll (bs.map .bool) ≤ 42 * bs.length
  | [] => ⟨by simp [PyData.showableAll], by simp [PyData.hasDictAll], by simp [PyData.depthAll], by simp [PyData.canLayAll0], by simp [PyData.weightAll]⟩
  | n :: ns => by
    obtain ⟨a, b, c, d, e⟩ := bools_facts ns
    refine ⟨?_, ?_, ?_, ?_, ?_⟩
    · simp only [List.map_cons, PyData.showableAll, PyData.showable, a, Bool.and_true]
    · simp only [List.map_cons, PyData.hasDictAll, PyData.hasDict, b, Bool.or_false]
    · simp only [List.map_cons, PyData.depthAll, PyData.depth, c, Nat.max_self]
    · simp only [List.map_cons, PyData.canLayAll0, PyData.canLay0, d, Bool.and_true]
    · simp only [List.map_cons, PyData.weightAll, PyData.weight, List.length_cons]
      omega
theorem rep_bools {bs : List Bool} (hl : bs.length ≤ 1000) : RepOk (.list (bs.map .bool)) := by
  obtain ⟨a, b, c, d, e⟩ := bools_facts bs
  refine ⟨by simp only [PyData.showable]; exact a, by simp only [PyData.hasDict]; exact b, by simp only [PyData.depth]; omega, ?_⟩
  refine PyData.shown_fits (B := 13) (by decide) (by decide) ?_ ?_
  · simp only [PyData.leavesShort]
    exact PyData.leavesShortAll_of_canLay0 13 _ d (PyData.intsShortAll_bools 13 bs)
  · simp only [PyData.weight]; omega

/-! ## calls with keywords alone, named in the parameters' order from behind -/
def tKwR (m : Nat) (sp : Sp) (t : L2.TA) : TE := fun σ H Q => t σ H fun zs H1 => zs.length = m ∧ sp zs.reverse H1 Q E0
section
variable {X : Cx} {k : Nat} {f : Addr} {fd : FuncData} {ps ks : List Str} {sp : Sp} {x : Str} {p pos : Pos} {kws : List Keyword} {t : L2.TA}
theorem vals_app {xs ys : List V} {us ws : List Value} (h : Vals xs us) (g : Vals ys ws) : Vals (xs ++ ys) (us ++ ws) := h.append g
theorem vals_rev : ∀ {xs : List V} {us : List Value}, Vals xs us → Vals xs.reverse us.reverse
  | _, _, .nil => .nil
  | _, _, .cons r t => by
    rw [List.reverse_cons, List.reverse_cons]
    exact (vals_rev t).append (.cons r .nil)
theorem pe_kwR (F : FnOk X.prog X.w X.K X.mg X.base CX0 k f fd ps sp) (hr : Room k X.A) (hg : Gl X x) (hm : X.mg x = some (.ref f)) (hk : PySem.W.keepIn X.K (.ref f) = true)
    (hb : ∀ (s : Shared) (ws : List Value), ws.length = ks.length → BindsTo s fd ⟨[], ks.zip ws⟩ (ps.zip ws.reverse))
    (hkw : PK X kws t) (hall : (backToKw pos (keywordEach kws X.env)).all (·.1.isSome) = true := by rfl) (hks : (backToKw pos (keywordEach kws X.env)).filterMap (·.1) = ks := by rfl) (hdb : (x == ("__debug__" : Str)) = false := by decide)
    (hpl : ((backTo pos (starEach [] X.env)).any (·.1) || (backToKw pos (keywordEach kws X.env)).any (·.1.isNone)) = false := by rfl) :
    PE X (.Call (.Name x p) [] kws pos) (tKwR ks.length sp t) := by
  constructor
  intro pins s σ H Q I h
  apply wpAny_Call_Name_kw
  apply ld_glob I hg hm _ hdb
  refine PySem.W.callWith_KW0 (h₀ := X.base) I.ok.mod.kin hk hall (thn (hkw.run pos pins s σ H _ I h) ?_) hpl
  rintro ws s1 ⟨zs, H1, I1, rv, lz, q⟩
  refine ⟨I1.kIn, ?_⟩
  rw [hks]
  have lw : ws.length = ks.length := by rw [← rv.length]; exact lz
  apply wpAny_call
  refine codeAny_mono (F.run X.A X.stack s1 H1 ⟨[], ks.zip ws⟩ ws.reverse zs.reverse Q E0 hr I1.env0 (hb s1 ws lw) (vals_rev rv) q) ?_
  intro r s' hq
  cases r with
  | error er => exact hq.elim
  | ok fl =>
    cases fl with
    | ret u => exact I1.after hq
    | next => exact hq.elim
    | brk => exact hq.elim
    | cont => exact hq.elim
end
end Tk
namespace Tk
open PySem
structure GoodD (d : PyData) (k W : Nat) : Prop where
  sh : d.showable = true
  nd : d.hasDict = false
  dp : d.depth ≤ k
  cl : d.canLay0 = true
  ish : d.intsShort 13 = true
  wt : d.weight ≤ W
structure GoodA (ds : List PyData) (k W : Nat) : Prop where
  sh : PyData.showableAll ds = true
  nd : PyData.hasDictAll ds = false
  dp : PyData.depthAll ds ≤ k
  cl : PyData.canLayAll0 ds = true
  ish : PyData.intsShortAll 13 ds = true
  wt : PyData.weightAll ds ≤ W
theorem goodA_ints {ns : List Int} (h : ∀ n ∈ ns, n.natAbs < 10 ^ 12) : GoodA (ns.map .int) 0 (42 * ns.length) := by
  obtain ⟨a, b, c, d, e⟩ := ints_facts h
  exact ⟨a, b, by omega, d, PyData.intsShortAll_ints ns h, e⟩
theorem goodD_list {ds : List PyData} {k W : Nat} (g : GoodA ds k W) : GoodD (.list ds) (k + 1) (W + 64) := by
  refine ⟨by simp only [PyData.showable]; exact g.sh, by simp only [PyData.hasDict]; exact g.nd, ?_, by simp only [PyData.canLay0]; exact g.cl, by simp only [PyData.intsShort]; exact g.ish, ?_⟩
  · have := g.dp
    simp only [PyData.depth]; omega
  · have := g.wt
    simp only [PyData.weight]; omega
theorem goodA_nil {k : Nat} : GoodA [] k 64 := ⟨by simp [PyData.showableAll], by simp [PyData.hasDictAll], by simp [PyData.depthAll], by simp [PyData.canLayAll0], by simp [PyData.intsShortAll], by simp [PyData.weightAll]⟩
theorem goodA_cons {d : PyData} {ds : List PyData} {k W1 W2 : Nat} (g : GoodD d k W1) (h : GoodA ds k W2) : GoodA (d :: ds) k (W1 + W2 + 64) := by
  refine ⟨?_, ?_, ?_, ?_, ?_, ?_⟩
  · simp only [PyData.showableAll, g.sh, h.sh]; rfl
  · simp only [PyData.hasDictAll, g.nd, h.nd]; rfl
  · have a := g.dp
    have b := h.dp
    simp only [PyData.depthAll]; omega
  · simp only [PyData.canLayAll0, g.cl, h.cl]; rfl
  · simp only [PyData.intsShortAll, g.ish, h.ish]; rfl
  · have a := g.wt
    have b := h.wt
    simp only [PyData.weightAll]; omega
theorem goodD_rep {d : PyData} {k W : Nat} (g : GoodD d k W) (hk : k ≤ 50) (hW : W ≤ 100000) : RepOk d :=
  ⟨g.sh, g.nd, Nat.le_trans g.dp hk, PyData.shown_fits (B := 13) (by decide) (by decide) (PyData.leavesShort_of_canLay0 13 d g.cl g.ish) (by have := g.wt; omega)⟩
theorem goodD_mono {d : PyData} {k W W' : Nat} (g : GoodD d k W) (h : W ≤ W') : GoodD d k W' := ⟨g.sh, g.nd, g.dp, g.cl, g.ish, Nat.le_trans g.wt h⟩
/-- short lists of small ints -/
theorem goodA_rows : ∀ {os : List (List Int)}, (∀ o ∈ os, o.length ≤ 6 ∧ ∀ x ∈ o, x.natAbs < 10 ^ 12) → GoodA (os.map fun o => PyData.list (o.map .int)) 1 (400 * os.length + 64)
  | [], _ => goodA_nil
  | o :: os, h => by
    have ho := h o (List.mem_cons_self ..)
    have g1 : GoodD (.list (o.map .int)) 1 316 := goodD_mono (goodD_list (goodA_ints ho.2)) (by have := ho.1; omega)
    have g2 := goodA_rows (os := os) fun p hp => h p (List.mem_cons_of_mem _ hp)
    have g := goodA_cons g1 g2
    refine ⟨g.sh, g.nd, g.dp, g.cl, g.ish, Nat.le_trans g.wt ?_⟩
    rw [List.length_cons]
    omega
theorem rows_rep {os : List (List Int)} (h : ∀ o ∈ os, o.length ≤ 6 ∧ ∀ x ∈ o, x.natAbs < 10 ^ 12) (hl : os.length ≤ 6) : GoodD (.list (os.map fun o => PyData.list (o.map .int))) 2 3000 := goodD_mono (goodD_list (goodA_rows h)) (by omega)
end Tk

namespace Tk
open PySem PySem.Spec PyProof.Rows L2
theorem plan_x {K : PySem.W.Frag} {C a : Addr} {H H' : Hp} {p : Addr} {n : Nat} {as ts : List (Int × Int)} (h : PlanAt K C H p n as ts) (pa : Pot H a) (e : SmX a H H') : PlanAt K C H' p n as ts := by
  obtain ⟨⟨dx, l, m, h1, h2, h3⟩, n6, h4, h5, h6, h7⟩ := h
  obtain ⟨x, y, ha, _⟩ := id pa
  have key : ∀ {l : Addr} {ps : List (Int × Int)}, PL K H l ps → PL K H' l ps := by
    rintro l ps ⟨xs, g1, g2⟩
    have g1' : SqL K H' l xs := by
      rcases g1 with (g | ⟨o, g⟩) | g
      · by_cases c : l = a
        · subst c
          rw [ha] at g
          cases g
          cases ps with
          | nil => cases g2
          | cons z zs =>
            cases g2 with
            | cons k1 _ =>
              obtain ⟨t, q, _⟩ := dP_inv k1
              cases q
        · exact .inl (.inl (e _ _ c g))
      · exact .inl (.inr ⟨o, e _ _ (fun c => by rw [c, ha] at g; cases g) g⟩)
      · exact .inr g
    refine ⟨xs, g1', ?_⟩
    clear g1 g1'
    induction ps generalizing xs with
    | nil => cases g2; exact .nil
    | cons z zs ih =>
      cases g2 with
      | cons k1 k2 =>
        obtain ⟨t, rfl, ht⟩ := dP_inv k1
        exact .cons (dP_mk (smx_t pa e ht)) (ih _ k2)
  exact ⟨⟨dx, l, m, e _ _ (fun c => by rw [c, ha] at h1; cases h1) h1, key h2, key h3⟩, n6, h4, h5, h6, h7⟩
theorem dps_x {K : PySem.W.Frag} {a : Addr} {G G' : Hp} {xs : List V} {ps : List (Int × Int)} (h : DpAll K G xs (ps.map dP)) (pg : Pot G a) (e : SmX a G G') : DpAll K G' xs (ps.map dP) := by
  induction ps generalizing xs with
  | nil => cases h; exact .nil
  | cons z zs ih =>
    cases h with
    | cons h1 h2 =>
      obtain ⟨t, rfl, ht⟩ := dP_inv h1
      exact .cons (dP_mk (smx_t pg e ht)) (ih h2)
theorem pot_s {G G' : Hp} {a : Addr} (h : Pot G a) (e : Same G G') : Pot G' a := let ⟨x, y, g, o⟩ := h; ⟨x, y, e _ _ g, o⟩
theorem str_ne {d e : PyData} (h : d = e) : V.bl (!decide (V.str d.shown = V.str e.shown)) = V.bl false := by subst h; simp
theorem shaped_ints {ns : List Int} (h : ∀ x ∈ ns, x.natAbs < 10 ^ 12) : SeqAt.shaped (.list (ns.map .int)) = true := by
  obtain ⟨a, b, c, d, e⟩ := ints_facts h
  exact shaped_l d (by omega)
theorem eqv_ints {ns : List Int} (h : ∀ x ∈ ns, x.natAbs < 10 ^ 12) : PyData.eqv (.list (ns.map .int)) (.list (ns.map .int)) = true := by
  obtain ⟨a, b, c, d, e⟩ := ints_facts h
  exact SeqAt.eqv_refl _ (by rw [PyData.canLay0]; exact d)
theorem cut_tail (y : V) (l : List V) : cutV (y :: l) (some 1) none = l := by
  unfold cutV HT.sIx
  simp
theorem flat_sub (l : List (List Int)) (i : Nat) : (l.take i).flatten.Sublist l.flatten := by
  have e : l.flatten = (l.take i).flatten ++ (l.drop i).flatten := by rw [← List.flatten_append, List.take_append_drop]
  rw [e]
  exact List.sublist_append_left _ _
/-- the data of a list of lists -/
abbrev dR (os : List (List Int)) : PyData := .list (os.map fun o => PyData.list (o.map .int))
theorem ls_dR {K : PySem.W.Frag} {G : Hp} {p : Addr} {xs : List V} {os : List (List Int)} (h : G p = some (.lst xs)) (ls : LsAt G xs os) : Dp K G (.ref p) (dR os) := .lst (sl_of h) (ls_dp ls)
structure Calls (P : Program) (w : World) (K : PySem.W.Frag) (mg : Str → Option Value) (base : Heap) (C : Addr) : Prop where
  plan : ∃ f fd, Df K mg "_law_plan" sPlan ["_law_pot_here", "_law_most"] f fd ∧ FnOk P w K mg base CX0 3 f fd ["_law_pot_here", "_law_most"] (spPlan K)
  init : ∃ f fd, Mk K C f ∧ mg "Plan" = some (.ref C) ∧ Binds K fd ["self", "size", "arrows", "ties"] [] ∧ FnOk P w K mg base CX0 7 f fd ["self", "size", "arrows", "ties"] (spInit K C)
  parts : ∃ f fd, Df K mg "_law_parts" sParts ["_law_size", "_law_ties"] f fd ∧ FnOk P w K mg base CX0 1 f fd ["_law_size", "_law_ties"] (spParts K)
  tp : ∃ f fd, Df K mg "tie_parts" sTieParts ["plan"] f fd ∧ FnOk P w K mg base CX0 3 f fd ["plan"] (spTieParts K C) ∧
    ∀ (s : Shared) (ws : List Value), ws.length = (["plan"] : List Str).length → BindsTo s fd ⟨[], (["plan"] : List Str).zip ws⟩ ((["plan"] : List Str).zip ws.reverse)
  wm : ∃ f fd, Df K mg "with_more" sWithMore ["plan", "arrows", "ties"] f fd ∧ FnOk P w K mg base CX0 9 f fd ["plan", "arrows", "ties"] (spWithMore K C)
  wo : ∃ f fd, Df K mg "without" sWithout ["plan", "arrows", "ties"] f fd ∧ FnOk P w K mg base CX0 9 f fd ["plan", "arrows", "ties"] (spWithout K C)
  draw : ∃ f fd, Df K mg "_law_draw" sDraw ["_law_pot_here", "_law_many"] f fd ∧ FnOk P w K mg base CX0 1 f fd ["_law_pot_here", "_law_many"] spDraw
def spRight : Sp := fun vs H Q _ => ∃ a : Addr, vs = [.ref a] ∧ Pot H a ∧ ∀ H', Q (.bl true) H'
def spLaw (K : PySem.W.Frag) : Sp := fun vs H Q _ => ∃ (a : Addr) (ns : List Int), vs = [.ref a] ∧ SqL K H a (ns.map V.int) ∧ ∀ H', Q (.bl true) H'
abbrev nRight : List Str := ["_law_pot_here", "_law_size", "_law_arrows", "_law_ties", "_law_plan_here", "_law_due", "_law_told", "_law_things", "_law_part", "_law_one", "_law_other", "_law_more"]
section
variable {P : Program} {w : World} {K : PySem.W.Frag} {mg : Str → Option Value} {base : Heap}
theorem sc_right : FnScope nRight ["_law_pot_here"] (defScope sRight) := ⟨rfl, rfl, rfl, by decide +kernel, rfl, by decide +kernel, by decide +kernel⟩
theorem ok_right {f C : Addr} {fd : FuncData} (F : Fun K "_law_right" "_law_right" sRight f fd) (Z : Calls P w K mg base C) (B : Bl mg) : FnG P w K mg base 10 f fd ["_law_pot_here"] spRight := by
  obtain ⟨fP, dP', DP, GP⟩ := Z.plan
  obtain ⟨fI, dI, MI, gC, bI, GI⟩ := Z.init
  obtain ⟨fL, dL, DL, GL⟩ := Z.parts
  obtain ⟨fT, dT, DT, GT, kT⟩ := Z.tp
  obtain ⟨fM, dM, DM, GM⟩ := Z.wm
  obtain ⟨fO, dO, DO, GO⟩ := Z.wo
  obtain ⟨fD, dD, DD, GD⟩ := Z.draw
  refine okG F sc_right (fun vs H Q E h => ?_) (fun cdv A outer s H vs Q E hgd hr h => ?_)
  · obtain ⟨a, rfl, _⟩ := h
    rfl
  · obtain ⟨a, rfl, pot, q⟩ := h
    have hr1 : Room 1 _ := hr.mono (by decide)
    have hr3 : Room 3 _ := hr.mono (by decide)
    have hr8 : Room 8 _ := hr.mono (by decide)
    refine ⟨_, (pss_cons (ps_asg (pe_call GP hr3 rfl DP.g DP.F.kp DP.b .nil pass0 (pa_cons (pv 0) (pa_cons pe_int pa_nil))) (pg_tup rfl (pgs_cons (pg_name (i := 1) sc_right.nd rfl (Or.inl rfl)) (pgs_cons (pg_name (i := 2) sc_right.nd rfl (Or.inl rfl)) (pgs_cons (pg_name (i := 3) sc_right.nd rfl (Or.inl rfl)) pgs_nil)))))
      (pss_cons (ps_par (i := 4) (j := 5) rfl sc_right.nd rfl rfl (by decide) rfl rfl (pa_cons (pe_make MI GI hr8 rfl gC bI .nil pass0 (pa_cons (pv 1) (pa_cons (pv 2) (pa_cons (pv 3) pa_nil)))) (pa_cons (pe_call GL hr1 rfl DL.g DL.F.kp DL.b .nil pass0 (pa_cons (pv 1) (pa_cons (pv 3) pa_nil))) pa_nil)) (by rfl))
      (pss_cons (ps_set (i := 6) sc_right.nd rfl (Or.inl rfl) (pe_call GT hr3 rfl DT.g DT.F.kp DT.b .nil pass0 (pa_cons (pv 4) pa_nil)))
      (pss_cons (ps_if (PW.pt (pw_or (pt_cmpR op_ne (pe_callB (call_reprD hgd hr.units) (by rfl) B.repr PyProof.Rows.boot_repr (pa_cons (pe_lst (pa_cons (pv 6) (pa_cons (pe_kwR GT hr3 rfl DT.g DT.F.kp kT (pk_cons (pv 4) pk_nil)) pa_nil))) pa_nil))
              (pe_callB (call_reprD hgd hr.units) (by rfl) B.repr PyProof.Rows.boot_repr (pa_cons (pe_lst (pa_cons (pv 5) (pa_cons (pv 5) pa_nil))) pa_nil)) (nomark _))
            (pw_or1 (pt_cmpR op_ne (pe_callB (call_reprD hgd hr.units) (by rfl) B.repr PyProof.Rows.boot_repr (pa_cons (pe_call GT hr3 rfl DT.g DT.F.kp DT.b .nil pass0 (pa_cons (pe_make MI GI hr8 rfl gC bI .nil pass0 (pa_cons (pv 1) (pa_cons (pe_lst pa_nil) (pa_cons (pv 3) pa_nil)))) pa_nil)) pa_nil))
              (pe_callB (call_reprD hgd hr.units) (by rfl) B.repr PyProof.Rows.boot_repr (pa_cons (pv 5) pa_nil)) (nomark _))))) (pss_one (ps_ret pe_bl)) pss_nil)
      (pss_cons (ps_set (i := 7) sc_right.nd rfl (Or.inl rfl) (pe_lst pa_nil))
      (pss_cons (ps_for PassesOwn.never rfl (pi_list (pv 6)) (pg_name (i := 8) sc_right.nd rfl (Or.inl rfl))
          (pss_cons (ps_expr (pe_bm PySem.F.plainAttrs_list PySem.F.slot_list_extend PySem.F.type_list_extend mt_extend (pv 7) (pa_cons (pv 8) pa_nil)))
          (pss_one (ps_expr (pe_bm PySem.F.plainAttrs_list PySem.F.slot_list_append PySem.F.type_list_append mt_append (pv 8) (pa_cons pe_non pa_nil))))))
      (pss_cons (ps_expr (pe_bm PySem.F.plainAttrs_list PySem.F.slot_list_append PySem.F.type_list_append mt_append (pv 6) (pa_cons pe_non pa_nil)))
      (pss_cons (ps_if (PW.pt (pw_or (pt_cmpR (op_neD hr.units) (pe_callB cr_sortedI (by rfl) B.sorted PyProof.Rows.boot_sorted (pa_cons (pv 7) pa_nil)) (pe_listRg rfl (by rfl) B.list (prg_1 (by rfl) B.range (pv 1))) (nomark _))
            (pw_or1 (pt_cmpR op_ne (pe_callB (call_reprD hgd hr.units) (by rfl) B.repr PyProof.Rows.boot_repr (pa_cons (pe_call GT hr3 rfl DT.g DT.F.kp DT.b .nil pass0 (pa_cons (pv 4) pa_nil)) pa_nil))
              (pe_callB (call_reprD hgd hr.units) (by rfl) B.repr PyProof.Rows.boot_repr (pa_cons (pv 5) pa_nil)) (nomark _))))) (pss_one (ps_ret pe_bl)) pss_nil)
      (pss_cons (ps_if (PW.pt (pw_and (pt_cmpR (op_neD hr.units) (pv 3) (pe_lst pa_nil) (nomark _))
            (pw_and1 (pt_cmpR op_ne (pe_callB (call_reprD hgd hr.units) (by rfl) B.repr PyProof.Rows.boot_repr (pa_cons (pe_call GT hr3 rfl DT.g DT.F.kp DT.b .nil pass0 (pa_cons (pe_call GO hr rfl DO.g DO.F.kp DO.b .nil pass0 (pa_cons (pv 4) (pa_cons (pe_lst pa_nil) (pa_cons (pe_lst (pa_cons (pe_ix ix_list (pv 3) pe_int (fun _ _ => rfl)) pa_nil)) pa_nil)))) pa_nil)) pa_nil))
              (pe_callB (call_reprD hgd hr.units) (by rfl) B.repr PyProof.Rows.boot_repr (pa_cons (pe_call GL hr1 rfl DL.g DL.F.kp DL.b .nil pass0 (pa_cons (pv 1) (pa_cons (pe_slice sl_list (pv 3) (po_some pe_int) po_none) pa_nil))) pa_nil)) (nomark _))))) (pss_one (ps_ret pe_bl)) pss_nil)
      (pss_cons (ps_for PassesOwn.never rfl (pi_range1 rfl B.range (pa_cons (pv 1) pa_nil)) (pg_name (i := 9) sc_right.nd rfl (Or.inl rfl))
        (pss_one (ps_for PassesOwn.never rfl (pi_range2 rfl B.range (pa_cons (pe_op op_add (pv 9) pe_int) (pa_cons (pv 1) pa_nil))) (pg_name (i := 10) sc_right.nd rfl (Or.inl rfl))
          (pss_one (ps_if (PW.pt (pw_and (pt_cmpR (op_notInD (units65 hr)) (pe_tup (pa_cons (pv 9) (pa_cons (pv 10) pa_nil))) (pv 3) (by rfl))
              (pw_and1 (pt_cmpR op_eq (pe_call GD hr1 rfl DD.g DD.F.kp DD.b .nil pass0 (pa_cons (pv 0) (pa_cons pe_int pa_nil))) pe_int (nomark _)))))
            (pss_cons (ps_set (i := 11) sc_right.nd rfl (Or.inl rfl) (pe_call GT hr3 rfl DT.g DT.F.kp DT.b .nil pass0 (pa_cons (pe_call GM hr rfl DM.g DM.F.kp DM.b .nil pass0 (pa_cons (pv 4) (pa_cons (pe_lst pa_nil) (pa_cons (pe_lst (pa_cons (pe_tup (pa_cons (pv 9) (pa_cons (pv 10) pa_nil))) pa_nil)) pa_nil)))) pa_nil)))
            (pss_one (ps_if (PW.pt (pw_or (pt_cmpR op_ne (pe_callB (call_reprD hgd hr.units) (by rfl) B.repr PyProof.Rows.boot_repr (pa_cons (pv 11) pa_nil))
                (pe_callB (call_reprD hgd hr.units) (by rfl) B.repr PyProof.Rows.boot_repr (pa_cons (pe_call GL hr1 rfl DL.g DL.F.kp DL.b .nil pass0 (pa_cons (pv 1) (pa_cons (pe_op op_cat (pv 3) (pe_lst (pa_cons (pe_tup (pa_cons (pv 9) (pa_cons (pv 10) pa_nil))) pa_nil))) pa_nil))) pa_nil)) (nomark _))
              (pw_or1 (pt_cmpR op_notIn_seq (pe_op op_sub (pe_callB call_len_seq (by rfl) B.len PySem.boot_len (pa_cons (pv 5) pa_nil)) (pe_callB call_len_seq (by rfl) B.len PySem.boot_len (pa_cons (pv 11) pa_nil))) (pe_tup (pa_cons pe_int (pa_cons pe_int pa_nil))) (by rfl)))))
              (pss_one (ps_ret pe_bl)) pss_nil))) pss_nil)))))
      (pss_one (ps_ret pe_bl)))))))))))), ?_⟩
    refine ⟨_, rfl, a, 6, rfl, pot, by decide, by decide, fun H1 p l m n xs ys as ts sx1 p1 hp hl hm nlm nla nma hlx hmy dxs dys nle pas ac pts lt => ?_⟩
    refine ⟨p, _, rfl, st_of hp, rfl, _, _, rfl, _, _, rfl, _, _, rfl, rfl, ?_⟩
    have n6 : n ≤ 6 := by omega
    have few := pts.2.1
    have rg : ∀ p ∈ ts, p.1 ∈ things n ∧ p.2 ∈ things n := fun p hp => ⟨mem_things.mpr ⟨(pts.2.2 p hp).1, (pts.2.2 p hp).2.1⟩, mem_things.mpr ⟨(pts.2.2 p hp).2.2.1, (pts.2.2 p hp).2.2.2.1⟩⟩
    refine ⟨_, rfl, _, rfl, _, rfl, fun x dx nx ndx nex => ?_⟩
    have sm : Same H1 (upd (upd H1 dx (.own x)) x (.ins C dx [])) := fun b o e => by
      rw [upd_ne (ne_of_none e nx), upd_ne (ne_of_none e ndx)]
      exact e
    refine ⟨x, dx, l, m, n, as, ts, rfl, upd_same, ⟨xs, sl_of (sm _ _ hlx), dps_s dxs sm⟩, ⟨ys, sl_of (sm _ _ hmy), dps_s dys sm⟩, by omega, pas, ac, pts, lt, fun H2 as' ts' keep sA sT PA => ⟨rfl, ?_⟩⟩
    have s2 : Same H1 H2 := fun b o e => keep b o (ne_of_none e nx) (sm b o e)
    refine ⟨_, rfl, _, rfl, n, m, ts, rfl, ⟨ys, sl_of (s2 _ _ hmy), dps_s dys s2⟩, n6, few, rg, fun H3 dd dus s3 hdd hd3 lsd => ?_⟩
    refine ⟨_, _, rfl, ?_⟩
    have s14 := s2.trans s3
    have PA4 := plan_s PA s3
    have hd4 := hd3
    have ls4 := lsd
    generalize H3 = H4 at *
    have eT : partsL n ts' = partsL n ts := partsL_congr fun p => sT.1.mem_iff
    have small := parts_small (n := n) (ts := ts) n6
    have plen := parts_len (n := n) (ts := ts)
    have gR := rows_rep small (Nat.le_trans plen n6)
    have rR : RepOk (dR (partsL n ts)) := goodD_rep gR (by decide) (by decide)
    -- told
    refine ⟨_, rfl, x, n, as', ts', rfl, PA4, fun H5 T txs s5 hT hT5 ls5 fr5 nT5 => ?_⟩
    rw [eT] at ls5
    have hd5 := s5 _ _ hd4
    have lsd5 := ls_s s5 ls4
    -- repr([told, tie_parts(plan=..)]) != repr([due, due])
    have r2 : RepOk (.list [dR (partsL n ts), dR (partsL n ts)]) := goodD_rep (goodD_list (goodA_cons gR (goodA_cons gR goodA_nil))) (by decide) (by decide)
    refine ⟨_, rfl, _, rfl, rfl, x, n, as', ts', rfl, plan_s PA4 s5, fun H6 T2 t2xs s6 hT2 hT26 ls6 fr6 nT6 => ?_⟩
    rw [eT] at ls6
    refine ⟨szle (by show 2 ≤ 100000; decide), fun lb hlb => ?_⟩
    have s67 : Same H6 (upd H6 lb (.lst [V.ref T, V.ref T2])) := same_new hlb
    refine ⟨lb, .list [dR (partsL n ts), dR (partsL n ts)], rfl, .lst (sl_of upd_same) (.cons (ls_dR (s67 _ _ (s6 _ _ hT5)) (ls_s (s6.trans s67) ls5)) (.cons (ls_dR (s67 _ _ hT26) (ls_s s67 ls6)) .nil)), r2.sh, r2.nd, r2.dp, r2.sz, ?_⟩
    have s57 := s6.trans s67
    generalize upd H6 lb (.lst [V.ref T, V.ref T2]) = H7 at s57
    refine ⟨_, rfl, _, rfl, szle (by show 2 ≤ 100000; decide), fun lc hlc => ?_⟩
    have s78 : Same H7 (upd H7 lc (.lst [V.ref dd, V.ref dd])) := same_new hlc
    have s58 := s57.trans s78
    refine ⟨lc, .list [dR (partsL n ts), dR (partsL n ts)], rfl, .lst (sl_of upd_same) (.cons (ls_dR (s58 _ _ hd5) (ls_s s58 lsd5)) (.cons (ls_dR (s58 _ _ hd5) (ls_s s58 lsd5)) .nil)), r2.sh, r2.nd, r2.dp, r2.sz, rfl, false, str_ne rfl, iteF ?_⟩
    generalize upd H7 lc (.lst [V.ref dd, V.ref dd]) = H8 at s58
    -- repr(tie_parts(Plan(size, [], ties))) != repr(due)
    refine ⟨_, rfl, szle (by show 0 ≤ 100000; decide), fun le hle => ⟨_, rfl, fun x2 dx2 nx2 ndx2 nex2 => ?_⟩⟩
    have s89 : Same H8 (upd H8 le (.lst [])) := same_new hle
    have sm2 : Same (upd H8 le (.lst [])) (upd (upd (upd H8 le (.lst [])) dx2 (.own x2)) x2 (.ins C dx2 [])) := fun b o e => by
      rw [upd_ne (ne_of_none e nx2), upd_ne (ne_of_none e ndx2)]
      exact e
    have s18 : Same H1 H8 := s14.trans (s5.trans s58)
    have s19 := (s18.trans s89).trans sm2
    refine ⟨x2, dx2, le, m, n, [], ts, rfl, upd_same, ⟨[], sl_of (sm2 _ _ upd_same), .nil⟩, ⟨ys, sl_of (s19 _ _ hmy), dps_s dys s19⟩, by omega, ⟨List.nodup_nil, by decide, (fun _ h => nomatch h)⟩, ⟨fun _ => 0, (fun _ h => nomatch h)⟩, pts, lt, fun H9 as2 ts2 keep2 sA2 sT2 PA2 => ⟨rfl, ?_⟩⟩
    have s8_9 : Same H8 H9 := fun b o e => keep2 b o (ne_of_none (s89 b o e) nx2) (sm2 b o (s89 b o e))
    have eT2 : partsL n ts2 = partsL n ts := partsL_congr fun p => sT2.1.mem_iff
    refine ⟨x2, n, as2, ts2, rfl, PA2, fun H10 T3 t3xs s10 hT3 hT310 ls10 fr10 nT10 => ?_⟩
    rw [eT2] at ls10
    have s5_10 := s58.trans (s8_9.trans s10)
    refine ⟨T3, dR (partsL n ts), rfl, ls_dR hT310 ls10, rR.sh, rR.nd, rR.dp, rR.sz, ?_⟩
    refine ⟨_, rfl, dd, dR (partsL n ts), rfl, ls_dR (s5_10 _ _ hd5) (ls_s s5_10 lsd5), rR.sh, rR.nd, rR.dp, rR.sz, rfl, false, str_ne rfl, iteF ?_⟩
    -- things
    refine ⟨szle (by show 0 ≤ 100000; decide), fun th hth => ?_⟩
    have s45 : Same H4 H10 := s5.trans s5_10
    have tl := ls_len ls5
    have hT10 := s5_10 _ _ hT5
    have nTth : T ≠ th := fun e => by rw [e, hth] at hT10; cases hT10
    have hth4 : H4 th = none := s45.free hth
    refine ⟨_, rfl, T, rfl, ⟨txs, sl_of (same_new hth _ _ hT10)⟩, for_list (K := K) (a := T) (xs := txs) (fun i σ G => ∃ (v8 v9 v10 v11 : Option V), σ = [some (V.ref a), some (V.int n), some (V.ref l), some (V.ref m), some (V.ref x), some (V.ref dd), some (V.ref T), some (V.ref th), v8, v9, v10, v11] ∧
        Same H4 G ∧ G T = some (.lst txs) ∧ G th = some (.lst (((partsL n ts).take i).flatten.map V.int)) ∧ ∀ j y, i ≤ j → txs[j]? = some y → ∃ (o : List Int) (r : Addr), (partsL n ts)[j]? = some o ∧ y = .ref r ∧ r ≠ th ∧ G r = some (.lst (o.map V.int)))
      ⟨_, _, _, _, rfl, s45.trans (same_new hth), by rw [upd_ne nTth]; exact hT10, upd_same, fun j y _ hy => ?_⟩ (fun i σ G _ z => by obtain ⟨_, _, _, _, _, _, z, _⟩ := z; exact sl_of z) ?_ ?_⟩
    · obtain ⟨o, r, ho, er, hr'⟩ := ls_at ls5 hy
      have hr10 := s5_10 _ _ hr'
      have nr : r ≠ th := fun e => by rw [e, hth] at hr10; cases hr10
      exact ⟨o, r, ho, er, nr, by rw [upd_ne nr]; exact hr10⟩
    · rintro i y σ G hy ⟨v8, v9, v10, v11, rfl, sG, gT, gth, rest⟩
      obtain ⟨o, r, ho, rfl, nr, hr'⟩ := rest i y (Nat.le_refl _) hy
      have fl : ((partsL n ts).take i).flatten.length ≤ n := by
        have nd : ((partsL n ts).take i).flatten.Nodup := (flat_sub _ i).nodup parts_flat_nodup
        have := nodup_le nd (m := things n) (fun z hz => parts_flat_mem.mp ((flat_sub _ i).subset hz))
        rw [things_len] at this
        exact this
      have ol := (small o (List.mem_of_getElem? ho)).1
      obtain ⟨r', er', hr4⟩ := fr5.2 _ (List.mem_of_getElem? hy)
      cases er'
      refine ⟨_, rfl, .inl ⟨rfl, _, sl_of gth⟩, _, rfl, th, r, _, _, rfl, rfl, gth, hr', szle (by simp only [List.length_map]; omega), ?_⟩
      have hr2 : (upd G th (.lst (((partsL n ts).take i).flatten.map V.int ++ o.map V.int))) r = some (.lst (o.map V.int)) := by rw [upd_ne nr]; exact hr'
      refine ⟨_, rfl, .inl ⟨rfl, _, sl_of hr2⟩, r, _, _, rfl, rfl, hr2, szlt (by rw [List.length_map]; omega), ?_⟩
      have nTr : T ≠ r := fun e => nT5 _ (List.mem_of_getElem? hy) (by rw [e])
      refine ⟨_, _, _, _, rfl, same_mut (same_mut sG hth4) hr4, by rw [upd_ne nTr, upd_ne nTth]; exact gT, ?_, fun j z hj hz => ?_⟩
      · rw [upd_ne nr.symm, upd_same, take_at ho, List.flatten_append, List.map_append]
        simp
      · obtain ⟨o2, r2, ho2, rfl, nr2, hr2'⟩ := rest j z (by omega) hz
        have n2 : r2 ≠ r := fun e => by
          subst e
          have := (List.getElem?_inj (lt_of_at hy) fr5.1).mp (hy.trans hz.symm)
          omega
        exact ⟨o2, r2, ho2, rfl, nr2, by rw [upd_ne n2, upd_ne nr2]; exact hr2'⟩
    rintro σ G ⟨v8, v9, v10, v11, rfl, sG, gT, gth, _⟩
    rw [take_all tl.symm] at gth
    -- told.append(None)
    refine ⟨_, rfl, .inl ⟨rfl, _, sl_of gT⟩, T, _, _, rfl, rfl, gT, szlt (by rw [tl]; omega), ?_⟩
    have sG2 : Same H4 (upd G T (.lst (txs ++ [V.non]))) := same_mut sG hT
    have gth2 : (upd G T (.lst (txs ++ [V.non]))) th = some (.lst ((partsL n ts).flatten.map V.int)) := by rw [upd_ne nTth.symm]; exact gth
    generalize upd G T (.lst (txs ++ [V.non])) = H11 at sG2 gth2
    -- sorted(things) != list(range(size))
    refine ⟨_, rfl, th, _, rfl, sl_of gth2, fun ns' pn pm pw hpn => ?_⟩
    refine ⟨_, rfl, n, rfl, RgOk.of_le (by omega) (by omega) (by omega) (by omega), fun pr hpr => ?_⟩
    have ens : ns' = things n := rise_eq (le_nodup_lt pw (pm.nodup_iff.mpr parts_flat_nodup)) (things_rise n) fun y => by rw [pm.mem_iff]; exact parts_flat_mem
    subst ens
    have sth : ∀ z ∈ things n, z.natAbs < 10 ^ 12 := fun z hz => by
      have := mem_things.mp hz
      have : (10 : Nat) ^ 12 = 1000000000000 := by decide
      omega
    have npr : pn ≠ pr := fun e => by rw [e, upd_same] at hpr; cases hpr
    refine ⟨.list ((things n).map .int), .list ((things n).map .int), .lst (sl_of (by rw [upd_ne npr, upd_same])) (dps_ints _), .lst (sl_of (by rw [upd_same, rgV_things])) (dps_ints _), shaped_ints sth, shaped_ints sth, _, rfl, ?_⟩
    rw [eqv_ints sth]
    refine iteF ?_
    have sG3 : Same H4 (upd (upd H11 pn (.lst ((things n).map V.int))) pr (.lst (rgV 0 n))) := sG2.trans ((same_new hpn).trans (same_new hpr))
    generalize upd (upd H11 pn (.lst ((things n).map V.int))) pr (.lst (rgV 0 n)) = H12 at sG3
    -- repr(tie_parts(plan)) != repr(due)
    refine ⟨_, rfl, x, n, as', ts', rfl, plan_s PA4 sG3, fun H13 T4 t4xs s13 hT4 hT413 ls13 fr13 nT13 => ?_⟩
    rw [eT] at ls13
    have s4_13 := sG3.trans s13
    refine ⟨T4, dR (partsL n ts), rfl, ls_dR hT413 ls13, rR.sh, rR.nd, rR.dp, rR.sz, ?_⟩
    refine ⟨_, rfl, dd, dR (partsL n ts), rfl, ls_dR (s4_13 _ _ hd4) (ls_s s4_13 ls4), rR.sh, rR.nd, rR.dp, rR.sz, rfl, false, str_ne rfl, iteF ?_⟩
    -- without the first tie
    have s1_13 : Same H1 H13 := s14.trans s4_13
    have nda : dd ≠ a := fun e => by
      obtain ⟨px, py, g, _⟩ := p1
      have := s2 _ _ g
      rw [← e, hdd] at this
      cases this
    obtain ets | ⟨p0, tr, ets⟩ : ts = [] ∨ ∃ p0 tr, ts = p0 :: tr := by
      cases ts with
      | nil => exact .inl rfl
      | cons p0 tr => exact .inr ⟨p0, tr, rfl⟩
    · refine ⟨_, rfl, szle (by show 0 ≤ 100000; decide), fun e he => ?_⟩
      have sE : Same H13 (upd H13 e (.lst [])) := same_new he
      refine ⟨.list (ts.map dP), .list [], .lst (sl_of (sE _ _ (s1_13 _ _ hmy))) (dps_s dys (s1_13.trans sE)), .lst (sl_of upd_same) .nil, shaped_pairs _, shaped_l (by simp [PyData.canLayAll0]) (by simp [PyData.depthAll]), _, rfl, ?_⟩
      rw [eqv_nil]
      have e1 : (ts.map dP).isEmpty = true := by rw [ets]; rfl
      rw [e1]
      refine iteF ?_
      have sb : Same H4 (upd H13 e (.lst [])) := s4_13.trans sE
      generalize upd H13 e (.lst []) = Hb at sb
      have PAb := plan_s PA4 sb
      have s1b : Same H1 Hb := s14.trans sb
      have hmb := s1b _ _ hmy
      have dmb := dps_s dys s1b
      have hdb := sb _ _ hd4
      have potb : Pot Hb a := pot_s p1 s1b
      have ldus := ls_len ls4
      refine ⟨_, rfl, n, rfl, by omega, by omega, for_range (lo := 0) (n := ((n : Nat) : Int).toNat) (fun i σ G => ∃ (v8 v9 v10 v11 : Option V), σ = [some (V.ref a), some (V.int n), some (V.ref l), some (V.ref m), some (V.ref x), some (V.ref dd), some (V.ref T), some (V.ref th), v8, v9, v10, v11] ∧ SmX a Hb G ∧ Pot G a) ⟨_, _, _, _, rfl, SmX.refl _ _, potb⟩ ?_ ?_⟩
      · rintro i σ G hi ⟨v8, v9, v10, v11, rfl, sx, pG⟩
        have hi' : i < n := by omega
        refine ⟨_, rfl, _, _, rfl, rfl, _, rfl, _, _, rfl, (by omega), for_range (lo := 0 + (i : Int) + 1) (n := ((n : Int) - (0 + (i : Int) + 1)).toNat) (fun j σ G => ∃ (v8 v10 v11 : Option V), σ = [some (V.ref a), some (V.int n), some (V.ref l), some (V.ref m), some (V.ref x), some (V.ref dd), some (V.ref T), some (V.ref th), v8, some (V.int (0 + (i : Int))), v10, v11] ∧ SmX a Hb G ∧ Pot G a) ⟨_, _, _, rfl, sx, pG⟩ ?_ ?_⟩
        · rintro j σ G hj ⟨v8, v10, v11, rfl, sx, pG⟩
          have hj' : i + 1 + j < n := by omega
          have hmG := sx _ _ nma hmb
          have dG := dps_x dmb potb sx
          refine ⟨_, rfl, _, rfl, szle (by show 2 ≤ 100000; decide), fun v hv => ?_⟩
          have s1v : Same G (upd G v (.tup [V.int (0 + (i : Int)), V.int (0 + (i : Int) + 1 + (j : Int))])) := same_new hv
          refine ⟨_, rfl, dP ((0 + (i : Int)), (0 + (i : Int) + 1 + (j : Int))), ts.map dP, dP_mk (st_of upd_same), .lst (sl_of (s1v _ _ hmG)) (dps_s dG s1v), shaped_pair _, shaped_pairs _, ?_⟩
          rw [any_pairs]
          have sxv := sx.trans (smx_of s1v)
          have pGv := pot_s pG s1v
          generalize upd G v (.tup [V.int (0 + (i : Int)), V.int (0 + (i : Int) + 1 + (j : Int))]) = G1 at sxv pGv
          refine ⟨_, rfl, ?_⟩
          by_cases c : ((0 + (i : Int)), (0 + (i : Int) + 1 + (j : Int))) ∈ ts
          · rw [decide_eq_true c]
            exact iteF ⟨_, _, _, rfl, sxv, pGv⟩
          rw [decide_eq_false c]
          refine iteT ?_
          refine ⟨_, rfl, a, _, rfl, pGv, by decide, by decide, fun G2 d e2 p2 d0 d1 => ?_⟩
          have sx2 := sxv.trans e2
          refine ⟨rfl, _, rfl, ?_⟩
          refine ite2 (fun hd => ?_) (fun hd => ⟨_, _, _, rfl, sx2, p2⟩)
          have PA2' := plan_x PAb potb sx2
          have hm2 := sx2 _ _ nma hmb
          have dm2 := dps_x dmb potb sx2
          have hd2' := sx2 _ _ nda hdb
          have rgT : ∀ p ∈ ts ++ [((0 + (i : Int)), (0 + (i : Int) + 1 + (j : Int)))], 0 ≤ p.1 ∧ p.1 < (n : Int) ∧ 0 ≤ p.2 ∧ p.2 < (n : Int) ∧ p.1 ≠ p.2 := fun p hp => by
            rcases List.mem_append.mp hp with z | z
            · exact pts.2.2 p z
            · simp only [List.mem_singleton] at z
              rw [z]
              refine ⟨?_, ?_, ?_, ?_, ?_⟩ <;> show _ <;> simp only [] <;> omega
          have ndT : (ts ++ [((0 + (i : Int)), (0 + (i : Int) + 1 + (j : Int)))]).Nodup := by
            rw [List.nodup_append]
            refine ⟨pts.1, by simp, fun p hp z hz e => ?_⟩
            simp only [List.mem_singleton] at hz
            rw [e, hz] at hp
            exact c hp
          have prT := prs_mk n6 ndT rgT
          have pmT : (ts' ++ [((0 + (i : Int)), (0 + (i : Int) + 1 + (j : Int)))]).Perm (ts ++ [((0 + (i : Int)), (0 + (i : Int) + 1 + (j : Int)))]) := sT.1.append_right _
          have prT' := prs_perm prT pmT
          have fewT := prT.2.1
          have pr1 : Prs n [((0 + (i : Int)), (0 + (i : Int) + 1 + (j : Int)))] := prs_sub prT (List.sublist_append_right _ _)
          refine ⟨_, rfl, szle (by show 0 ≤ 100000; decide), fun e0 he0 => ⟨_, rfl, _, rfl, szle (by show 2 ≤ 100000; decide), fun w hw => ⟨szle (by show 1 ≤ 100000; decide), fun e1 he1 => ?_⟩⟩⟩
          have k1 : Same G2 (upd G2 e0 (.lst [])) := same_new he0
          have k2 : Same (upd G2 e0 (.lst [])) (upd (upd G2 e0 (.lst [])) w (.tup [V.int (0 + (i : Int)), V.int (0 + (i : Int) + 1 + (j : Int))])) := same_new hw
          have k3 : Same (upd (upd G2 e0 (.lst [])) w (.tup [V.int (0 + (i : Int)), V.int (0 + (i : Int) + 1 + (j : Int))])) (upd (upd (upd G2 e0 (.lst [])) w (.tup [V.int (0 + (i : Int)), V.int (0 + (i : Int) + 1 + (j : Int))])) e1 (.lst [V.ref w])) := same_new he1
          have kk := (k1.trans k2).trans k3
          refine ⟨x, e0, e1, n, as', ts', [], [((0 + (i : Int)), (0 + (i : Int) + 1 + (j : Int)))], rfl, plan_s PA2' kk, ⟨[], sl_of (k3 _ _ (k2 _ _ upd_same)), .nil⟩, ⟨[V.ref w], sl_of upd_same, .cons (dP_mk (st_of (k3 _ _ upd_same))) .nil⟩, ⟨List.nodup_nil, by decide, (fun _ h => nomatch h)⟩, (by rw [List.append_nil]; exact PA2'.pa), (by rw [List.append_nil]; exact PA2'.ac), pr1, prT', (fun z hz => by simp only [List.mem_singleton] at hz; rw [hz]; show (0 + (i : Int)) < (0 + (i : Int) + 1 + (j : Int)); omega), fun G5 x5 as5 ts5 s5' hx5 pa5 pt5 PA5 => ?_⟩
          refine ⟨x5, n, as5, ts5, rfl, PA5, fun G6 l6 xs6 s6' hl6 hl6' ls6' _ _ => ?_⟩
          have e6 : partsL n ts5 = partsL n (ts ++ [((0 + (i : Int)), (0 + (i : Int) + 1 + (j : Int)))]) := partsL_congr fun p => by rw [pt5.mem_iff]; exact pmT.mem_iff
          rw [e6] at ls6'
          have s26 : Same G2 G6 := kk.trans (s5'.trans s6')
          have r6 : RepOk (dR (partsL n (ts ++ [((0 + (i : Int)), (0 + (i : Int) + 1 + (j : Int)))]))) := goodD_rep (rows_rep (parts_small n6) (Nat.le_trans parts_len n6)) (by decide) (by decide)
          refine ⟨_, rfl, l6, dR (partsL n (ts ++ [((0 + (i : Int)), (0 + (i : Int) + 1 + (j : Int)))])), rfl, ls_dR hl6' ls6', r6.sh, r6.nd, r6.dp, r6.sz, ?_⟩
          refine ⟨_, rfl, _, rfl, _, rfl, _, rfl, szle (by show 2 ≤ 100000; decide), fun w2 hw2 => ⟨szle (by show 1 ≤ 100000; decide), fun e2' he2 => ?_⟩⟩
          have k4 : Same G6 (upd G6 w2 (.tup [V.int (0 + (i : Int)), V.int (0 + (i : Int) + 1 + (j : Int))])) := same_new hw2
          have k5 : Same (upd G6 w2 (.tup [V.int (0 + (i : Int)), V.int (0 + (i : Int) + 1 + (j : Int))])) (upd (upd G6 w2 (.tup [V.int (0 + (i : Int)), V.int (0 + (i : Int) + 1 + (j : Int))])) e2' (.lst [V.ref w2])) := same_new he2
          have ylen : ys.length = ts.length := by rw [dps_len dys, List.length_map]
          refine ⟨m, e2', ys, [V.ref w2], rfl, rfl, k5 _ _ (k4 _ _ (s26 _ _ hm2)), upd_same, szle (by show ys.length + 1 ≤ 100000; omega), fun pc hpc => ?_⟩
          have hw2' := k5 _ _ (upd_same (H := G6) (a := w2) (o := .tup [V.int (0 + (i : Int)), V.int (0 + (i : Int) + 1 + (j : Int))]))
          have s2e := s26.trans (k4.trans k5)
          generalize upd (upd G6 w2 (.tup [V.int (0 + (i : Int)), V.int (0 + (i : Int) + 1 + (j : Int))])) e2' (.lst [V.ref w2]) = G7 at hpc hw2' s2e k5
          have k6 : Same G7 (upd G7 pc (.lst (ys ++ [V.ref w2]))) := same_new hpc
          refine ⟨n, pc, ts ++ [((0 + (i : Int)), (0 + (i : Int) + 1 + (j : Int)))], rfl, ⟨_, sl_of upd_same, by
            rw [List.map_append]
            exact dps_app (dps_s dm2 (s2e.trans k6)) (.cons (dP_mk (st_of (k6 _ _ hw2'))) .nil)⟩, n6, fewT, (fun p hp => ⟨mem_things.mpr ⟨(rgT p hp).1, (rgT p hp).2.1⟩, mem_things.mpr ⟨(rgT p hp).2.2.1, (rgT p hp).2.2.2.1⟩⟩), fun G8 l8 xs8 s8' hl8 hl8' ls8' => ?_⟩
          refine ⟨l8, dR (partsL n (ts ++ [((0 + (i : Int)), (0 + (i : Int) + 1 + (j : Int)))])), rfl, ls_dR hl8' ls8', r6.sh, r6.nd, r6.dp, r6.sz, rfl, false, str_ne rfl, iteF ?_⟩
          have s28 : Same G2 G8 := s2e.trans (k6.trans s8')
          have hl68 : G8 l6 = some (.lst xs6) := s8' _ _ (k6 _ _ (k5 _ _ (k4 _ _ hl6')))
          refine ⟨_, rfl, dd, _, rfl, .inl (sl_of (s28 _ _ hd2')), _, rfl, l6, _, rfl, .inl (sl_of hl68), _, _, rfl, rfl, szle (by show 2 ≤ 100000; decide), fun w3 hw3 => ?_⟩
          refine ⟨w3, ([0, 1] : List Int).map V.int, rfl, .inr (st_of upd_same), rfl, flat_ints _, _, notin_bl, ?_⟩
          have l6n := ls_len ls6'
          have one := parts_one (n := n) (ts := ts) (u := (0 + (i : Int))) (v := (0 + (i : Int) + 1 + (j : Int))) (mem_things.mpr ⟨by omega, by omega⟩) (mem_things.mpr ⟨by omega, by omega⟩)
          have key : decide (((dus.length : Nat) : Int) - ((xs6.length : Nat) : Int) ∈ ([0, 1] : List Int)) = true := by
            rw [decide_eq_true_eq]
            simp only [List.mem_cons, List.not_mem_nil, or_false]
            omega
          have key2 : ∀ z : Int, z = ((dus.length : Nat) : Int) - ((xs6.length : Nat) : Int) → decide (z ∈ ([0, 1] : List Int)) = true := fun z hz => by rw [hz]; exact key
          rw [key2 _ rfl]
          exact iteF ⟨_, _, _, rfl, sx2.trans (smx_of (s28.trans (same_new hw3))), pot_s p2 (s28.trans (same_new hw3))⟩
        · rintro σ G ⟨v8, v10, v11, rfl, sx, pG⟩
          exact ⟨_, _, _, _, rfl, sx, pG⟩
      · rintro σ G ⟨v8, v9, v10, v11, rfl, sx, pG⟩
        exact q G
    · obtain ⟨y0, yr, eys, k01, k02⟩ : ∃ y0 yr, ys = y0 :: yr ∧ Dp K H1 y0 (dP p0) ∧ DpAll K H1 yr (tr.map dP) := by
        rw [ets] at dys
        cases dys with
        | cons k1 k2 => exact ⟨_, _, rfl, k1, k2⟩
      refine ⟨_, rfl, szle (by show 0 ≤ 100000; decide), fun e he => ?_⟩
      have sE : Same H13 (upd H13 e (.lst [])) := same_new he
      refine ⟨.list (ts.map dP), .list [], .lst (sl_of (sE _ _ (s1_13 _ _ hmy))) (dps_s dys (s1_13.trans sE)), .lst (sl_of upd_same) .nil, shaped_pairs _, shaped_l (by simp [PyData.canLayAll0]) (by simp [PyData.depthAll]), _, rfl, ?_⟩
      rw [eqv_nil]
      have e1 : (ts.map dP).isEmpty = false := by rw [ets]; rfl
      rw [e1]
      refine iteT ?_
      have s4E := s4_13.trans sE
      generalize upd H13 e (.lst []) = H14 at s4E
      have s1_14 := s14.trans s4E
      refine ⟨_, rfl, szle (by show 0 ≤ 100000; decide), fun e0 he0 => ?_⟩
      have k1 : Same H14 (upd H14 e0 (.lst [])) := same_new he0
      refine ⟨_, rfl, m, _, _, _, rfl, rfl, sl_of (k1 _ _ (s1_14 _ _ hmy)), (by rw [eys]; exact atI_nat (j := 0) rfl), szle (by show 1 ≤ 100000; decide), fun e1' he1 => ?_⟩
      have k2 : Same (upd H14 e0 (.lst [])) (upd (upd H14 e0 (.lst [])) e1' (.lst [y0])) := same_new he1
      have kk := k1.trans k2
      have p0in : p0 ∈ ts := by rw [ets]; exact List.mem_cons_self ..
      have pr0 : Prs n [p0] := prs_sub pts (by rw [ets]; exact List.cons_sublist_cons.mpr (List.nil_sublist _))
      have prr : Prs n tr := prs_sub pts (by rw [ets]; exact List.sublist_cons_self ..)
      have nd0 : p0 ∉ tr := by have := pts.1; rw [ets] at this; exact (List.nodup_cons.mp this).1
      refine ⟨x, e0, e1', n, as', ts', [], [p0], rfl, plan_s PA4 (s4E.trans kk), ⟨[], sl_of (k2 _ _ upd_same), .nil⟩, ⟨[y0], sl_of upd_same, .cons (dp_s k01 (s1_14.trans kk)) .nil⟩, ⟨List.nodup_nil, by decide, (fun _ h => nomatch h)⟩, (fun _ h => nomatch h), pr0, (fun z hz => by simp only [List.mem_singleton] at hz; rw [hz]; exact sT.1.mem_iff.mpr p0in), fun G5 x5 as5 ts5 s5' hx5 pa5 pt5 PA5 => ?_⟩
      refine ⟨x5, n, as5, ts5, rfl, PA5, fun G6 l6 xs6 s6' hl6 hl6' ls6' _ _ => ?_⟩
      have e6 : partsL n ts5 = partsL n tr := partsL_congr fun p => by
        rw [pt5.mem_iff, List.mem_filter, sT.1.mem_iff, ets]
        simp only [List.mem_cons, List.mem_singleton, Bool.not_eq_true', decide_eq_false_iff_not]
        constructor
        · rintro ⟨z | z, nz⟩
          · exact absurd (.inl z) nz
          · exact z
        · intro z
          refine ⟨.inr z, fun e => ?_⟩
          rcases e with e | e
          · exact nd0 (e ▸ z)
          · exact nomatch e
      rw [e6] at ls6'
      have r6 : RepOk (dR (partsL n tr)) := goodD_rep (rows_rep (parts_small n6) (Nat.le_trans parts_len n6)) (by decide) (by decide)
      have s1_6 : Same H1 G6 := s1_14.trans (kk.trans (s5'.trans s6'))
      refine ⟨l6, dR (partsL n tr), rfl, ls_dR hl6' ls6', r6.sh, r6.nd, r6.dp, r6.sz, ?_⟩
      refine ⟨_, rfl, _, rfl, _, rfl, m, ys, rfl, sl_of (s1_6 _ _ hmy), fun pc hpc => ?_⟩
      have k3 : Same G6 (upd G6 pc (.lst (cutV ys (some 1) none))) := same_new hpc
      refine ⟨n, pc, tr, rfl, ⟨yr, sl_of (by rw [upd_same, eys, cut_tail]), dps_s k02 (s1_6.trans k3)⟩, n6, prr.2.1, (fun p hp => rg p (by rw [ets]; exact List.mem_cons_of_mem _ hp)), fun G8 l8 xs8 s8' hl8 hl8' ls8' => ?_⟩
      refine ⟨l8, dR (partsL n tr), rfl, ls_dR hl8' ls8', r6.sh, r6.nd, r6.dp, r6.sz, rfl, false, str_ne rfl, iteF ?_⟩
      have sb : Same H4 G8 := s4E.trans (kk.trans (s5'.trans (s6'.trans (k3.trans s8'))))
      generalize G8 = Hb at sb
      have PAb := plan_s PA4 sb
      have s1b : Same H1 Hb := s14.trans sb
      have hmb := s1b _ _ hmy
      have dmb := dps_s dys s1b
      have hdb := sb _ _ hd4
      have potb : Pot Hb a := pot_s p1 s1b
      have ldus := ls_len ls4
      refine ⟨_, rfl, n, rfl, by omega, by omega, for_range (lo := 0) (n := ((n : Nat) : Int).toNat) (fun i σ G => ∃ (v8 v9 v10 v11 : Option V), σ = [some (V.ref a), some (V.int n), some (V.ref l), some (V.ref m), some (V.ref x), some (V.ref dd), some (V.ref T), some (V.ref th), v8, v9, v10, v11] ∧ SmX a Hb G ∧ Pot G a) ⟨_, _, _, _, rfl, SmX.refl _ _, potb⟩ ?_ ?_⟩
      · rintro i σ G hi ⟨v8, v9, v10, v11, rfl, sx, pG⟩
        have hi' : i < n := by omega
        refine ⟨_, rfl, _, _, rfl, rfl, _, rfl, _, _, rfl, (by omega), for_range (lo := 0 + (i : Int) + 1) (n := ((n : Int) - (0 + (i : Int) + 1)).toNat) (fun j σ G => ∃ (v8 v10 v11 : Option V), σ = [some (V.ref a), some (V.int n), some (V.ref l), some (V.ref m), some (V.ref x), some (V.ref dd), some (V.ref T), some (V.ref th), v8, some (V.int (0 + (i : Int))), v10, v11] ∧ SmX a Hb G ∧ Pot G a) ⟨_, _, _, rfl, sx, pG⟩ ?_ ?_⟩
        · rintro j σ G hj ⟨v8, v10, v11, rfl, sx, pG⟩
          have hj' : i + 1 + j < n := by omega
          have hmG := sx _ _ nma hmb
          have dG := dps_x dmb potb sx
          refine ⟨_, rfl, _, rfl, szle (by show 2 ≤ 100000; decide), fun v hv => ?_⟩
          have s1v : Same G (upd G v (.tup [V.int (0 + (i : Int)), V.int (0 + (i : Int) + 1 + (j : Int))])) := same_new hv
          refine ⟨_, rfl, dP ((0 + (i : Int)), (0 + (i : Int) + 1 + (j : Int))), ts.map dP, dP_mk (st_of upd_same), .lst (sl_of (s1v _ _ hmG)) (dps_s dG s1v), shaped_pair _, shaped_pairs _, ?_⟩
          rw [any_pairs]
          have sxv := sx.trans (smx_of s1v)
          have pGv := pot_s pG s1v
          generalize upd G v (.tup [V.int (0 + (i : Int)), V.int (0 + (i : Int) + 1 + (j : Int))]) = G1 at sxv pGv
          refine ⟨_, rfl, ?_⟩
          by_cases c : ((0 + (i : Int)), (0 + (i : Int) + 1 + (j : Int))) ∈ ts
          · rw [decide_eq_true c]
            exact iteF ⟨_, _, _, rfl, sxv, pGv⟩
          rw [decide_eq_false c]
          refine iteT ?_
          refine ⟨_, rfl, a, _, rfl, pGv, by decide, by decide, fun G2 d e2 p2 d0 d1 => ?_⟩
          have sx2 := sxv.trans e2
          refine ⟨rfl, _, rfl, ?_⟩
          refine ite2 (fun hd => ?_) (fun hd => ⟨_, _, _, rfl, sx2, p2⟩)
          have PA2' := plan_x PAb potb sx2
          have hm2 := sx2 _ _ nma hmb
          have dm2 := dps_x dmb potb sx2
          have hd2' := sx2 _ _ nda hdb
          have rgT : ∀ p ∈ ts ++ [((0 + (i : Int)), (0 + (i : Int) + 1 + (j : Int)))], 0 ≤ p.1 ∧ p.1 < (n : Int) ∧ 0 ≤ p.2 ∧ p.2 < (n : Int) ∧ p.1 ≠ p.2 := fun p hp => by
            rcases List.mem_append.mp hp with z | z
            · exact pts.2.2 p z
            · simp only [List.mem_singleton] at z
              rw [z]
              refine ⟨?_, ?_, ?_, ?_, ?_⟩ <;> show _ <;> simp only [] <;> omega
          have ndT : (ts ++ [((0 + (i : Int)), (0 + (i : Int) + 1 + (j : Int)))]).Nodup := by
            rw [List.nodup_append]
            refine ⟨pts.1, by simp, fun p hp z hz e => ?_⟩
            simp only [List.mem_singleton] at hz
            rw [e, hz] at hp
            exact c hp
          have prT := prs_mk n6 ndT rgT
          have pmT : (ts' ++ [((0 + (i : Int)), (0 + (i : Int) + 1 + (j : Int)))]).Perm (ts ++ [((0 + (i : Int)), (0 + (i : Int) + 1 + (j : Int)))]) := sT.1.append_right _
          have prT' := prs_perm prT pmT
          have fewT := prT.2.1
          have pr1 : Prs n [((0 + (i : Int)), (0 + (i : Int) + 1 + (j : Int)))] := prs_sub prT (List.sublist_append_right _ _)
          refine ⟨_, rfl, szle (by show 0 ≤ 100000; decide), fun e0 he0 => ⟨_, rfl, _, rfl, szle (by show 2 ≤ 100000; decide), fun w hw => ⟨szle (by show 1 ≤ 100000; decide), fun e1 he1 => ?_⟩⟩⟩
          have k1 : Same G2 (upd G2 e0 (.lst [])) := same_new he0
          have k2 : Same (upd G2 e0 (.lst [])) (upd (upd G2 e0 (.lst [])) w (.tup [V.int (0 + (i : Int)), V.int (0 + (i : Int) + 1 + (j : Int))])) := same_new hw
          have k3 : Same (upd (upd G2 e0 (.lst [])) w (.tup [V.int (0 + (i : Int)), V.int (0 + (i : Int) + 1 + (j : Int))])) (upd (upd (upd G2 e0 (.lst [])) w (.tup [V.int (0 + (i : Int)), V.int (0 + (i : Int) + 1 + (j : Int))])) e1 (.lst [V.ref w])) := same_new he1
          have kk := (k1.trans k2).trans k3
          refine ⟨x, e0, e1, n, as', ts', [], [((0 + (i : Int)), (0 + (i : Int) + 1 + (j : Int)))], rfl, plan_s PA2' kk, ⟨[], sl_of (k3 _ _ (k2 _ _ upd_same)), .nil⟩, ⟨[V.ref w], sl_of upd_same, .cons (dP_mk (st_of (k3 _ _ upd_same))) .nil⟩, ⟨List.nodup_nil, by decide, (fun _ h => nomatch h)⟩, (by rw [List.append_nil]; exact PA2'.pa), (by rw [List.append_nil]; exact PA2'.ac), pr1, prT', (fun z hz => by simp only [List.mem_singleton] at hz; rw [hz]; show (0 + (i : Int)) < (0 + (i : Int) + 1 + (j : Int)); omega), fun G5 x5 as5 ts5 s5' hx5 pa5 pt5 PA5 => ?_⟩
          refine ⟨x5, n, as5, ts5, rfl, PA5, fun G6 l6 xs6 s6' hl6 hl6' ls6' _ _ => ?_⟩
          have e6 : partsL n ts5 = partsL n (ts ++ [((0 + (i : Int)), (0 + (i : Int) + 1 + (j : Int)))]) := partsL_congr fun p => by rw [pt5.mem_iff]; exact pmT.mem_iff
          rw [e6] at ls6'
          have s26 : Same G2 G6 := kk.trans (s5'.trans s6')
          have r6 : RepOk (dR (partsL n (ts ++ [((0 + (i : Int)), (0 + (i : Int) + 1 + (j : Int)))]))) := goodD_rep (rows_rep (parts_small n6) (Nat.le_trans parts_len n6)) (by decide) (by decide)
          refine ⟨_, rfl, l6, dR (partsL n (ts ++ [((0 + (i : Int)), (0 + (i : Int) + 1 + (j : Int)))])), rfl, ls_dR hl6' ls6', r6.sh, r6.nd, r6.dp, r6.sz, ?_⟩
          refine ⟨_, rfl, _, rfl, _, rfl, _, rfl, szle (by show 2 ≤ 100000; decide), fun w2 hw2 => ⟨szle (by show 1 ≤ 100000; decide), fun e2' he2 => ?_⟩⟩
          have k4 : Same G6 (upd G6 w2 (.tup [V.int (0 + (i : Int)), V.int (0 + (i : Int) + 1 + (j : Int))])) := same_new hw2
          have k5 : Same (upd G6 w2 (.tup [V.int (0 + (i : Int)), V.int (0 + (i : Int) + 1 + (j : Int))])) (upd (upd G6 w2 (.tup [V.int (0 + (i : Int)), V.int (0 + (i : Int) + 1 + (j : Int))])) e2' (.lst [V.ref w2])) := same_new he2
          have ylen : ys.length = ts.length := by rw [dps_len dys, List.length_map]
          refine ⟨m, e2', ys, [V.ref w2], rfl, rfl, k5 _ _ (k4 _ _ (s26 _ _ hm2)), upd_same, szle (by show ys.length + 1 ≤ 100000; omega), fun pc hpc => ?_⟩
          have hw2' := k5 _ _ (upd_same (H := G6) (a := w2) (o := .tup [V.int (0 + (i : Int)), V.int (0 + (i : Int) + 1 + (j : Int))]))
          have s2e := s26.trans (k4.trans k5)
          generalize upd (upd G6 w2 (.tup [V.int (0 + (i : Int)), V.int (0 + (i : Int) + 1 + (j : Int))])) e2' (.lst [V.ref w2]) = G7 at hpc hw2' s2e k5
          have k6 : Same G7 (upd G7 pc (.lst (ys ++ [V.ref w2]))) := same_new hpc
          refine ⟨n, pc, ts ++ [((0 + (i : Int)), (0 + (i : Int) + 1 + (j : Int)))], rfl, ⟨_, sl_of upd_same, by
            rw [List.map_append]
            exact dps_app (dps_s dm2 (s2e.trans k6)) (.cons (dP_mk (st_of (k6 _ _ hw2'))) .nil)⟩, n6, fewT, (fun p hp => ⟨mem_things.mpr ⟨(rgT p hp).1, (rgT p hp).2.1⟩, mem_things.mpr ⟨(rgT p hp).2.2.1, (rgT p hp).2.2.2.1⟩⟩), fun G8 l8 xs8 s8' hl8 hl8' ls8' => ?_⟩
          refine ⟨l8, dR (partsL n (ts ++ [((0 + (i : Int)), (0 + (i : Int) + 1 + (j : Int)))])), rfl, ls_dR hl8' ls8', r6.sh, r6.nd, r6.dp, r6.sz, rfl, false, str_ne rfl, iteF ?_⟩
          have s28 : Same G2 G8 := s2e.trans (k6.trans s8')
          have hl68 : G8 l6 = some (.lst xs6) := s8' _ _ (k6 _ _ (k5 _ _ (k4 _ _ hl6')))
          refine ⟨_, rfl, dd, _, rfl, .inl (sl_of (s28 _ _ hd2')), _, rfl, l6, _, rfl, .inl (sl_of hl68), _, _, rfl, rfl, szle (by show 2 ≤ 100000; decide), fun w3 hw3 => ?_⟩
          refine ⟨w3, ([0, 1] : List Int).map V.int, rfl, .inr (st_of upd_same), rfl, flat_ints _, _, notin_bl, ?_⟩
          have l6n := ls_len ls6'
          have one := parts_one (n := n) (ts := ts) (u := (0 + (i : Int))) (v := (0 + (i : Int) + 1 + (j : Int))) (mem_things.mpr ⟨by omega, by omega⟩) (mem_things.mpr ⟨by omega, by omega⟩)
          have key : decide (((dus.length : Nat) : Int) - ((xs6.length : Nat) : Int) ∈ ([0, 1] : List Int)) = true := by
            rw [decide_eq_true_eq]
            simp only [List.mem_cons, List.not_mem_nil, or_false]
            omega
          have key2 : ∀ z : Int, z = ((dus.length : Nat) : Int) - ((xs6.length : Nat) : Int) → decide (z ∈ ([0, 1] : List Int)) = true := fun z hz => by rw [hz]; exact key
          rw [key2 _ rfl]
          exact iteF ⟨_, _, _, rfl, sx2.trans (smx_of (s28.trans (same_new hw3))), pot_s p2 (s28.trans (same_new hw3))⟩
        · rintro σ G ⟨v8, v10, v11, rfl, sx, pG⟩
          exact ⟨_, _, _, _, rfl, sx, pG⟩
      · rintro σ G ⟨v8, v9, v10, v11, rfl, sx, pG⟩
        exact q G
theorem sc_law : FnScope ["_law_script"] ["_law_script"] (defScope sLaw) := ⟨rfl, rfl, rfl, by decide +kernel, rfl, by decide +kernel, by decide +kernel⟩
theorem ok_law {f f1 f2 C : Addr} {fd fd1 fd2 : FuncData} (F : Fun K "law" "law" sLaw f fd) (D1 : Df K mg "_law_pot" sPot ["_law_script", "_law_k"] f1 fd1) (D2 : Df K mg "_law_right" sRight ["_law_pot_here"] f2 fd2) (Z : Calls P w K mg base C) (B : Bl mg) :
    FnG P w K mg base 11 f fd ["_law_script"] (spLaw K) := by
  have G1 : FnOk P w K mg base CX0 1 f1 fd1 ["_law_script", "_law_k"] (spPot K) := ok_pot D1.F B
  have G2 : FnG P w K mg base 10 f2 fd2 ["_law_pot_here"] spRight := ok_right D2.F Z B
  refine okG F sc_law (fun vs H Q E h => ?_) (fun cdv A outer s H vs Q E hgd hr h => ?_)
  · obtain ⟨a, ns, rfl, _⟩ := h
    rfl
  · obtain ⟨a, ns, rfl, hS, q⟩ := h
    refine ⟨_, pss_one (ps_ret (pe_callG G2 hgd hr rfl D2.g D2.F.kp D2.b (pa_cons (pe_call G1 (hr.mono (by decide)) rfl D1.g D1.F.kp D1.b .nil pass0 (pa_cons (pv 0) (pa_cons pe_int pa_nil))) pa_nil))), ?_⟩
    exact ⟨_, rfl, a, ns, rfl, hS, fun H1 p s1 hp pt => ⟨p, rfl, pt, fun H2 => q H2⟩⟩
end
end Tk

namespace Tk
open PySem PySem.Spec PyProof.Rows L2
theorem kit_self {K : PySem.W.Frag} {C : Addr} : PySem.W.kitOne K (.ref C) (.ref C) = some true := by
  unfold PySem.W.kitOne
  rw [if_pos (by simp)]
theorem all_mk {P : Program} {w : World} {K : PySem.W.Frag} {h : Heap} {mg : Str → Option Value} {fa C pW f0 f1 f2 f3 f4 f5 f6 f7 f8 f9 f10 f11 f12 f13 f14 f15 f16 f17 f18 f19 f20 f21 f22 f23 f24 f25 f26 f27 f28 f29 : Addr} {rest : List Value} {tkM : Tok} (X : K.In h) (G : h.Ns mainGlobals mg) (hfa : mg "law" = some (.ref fa))
    {od0 an0 od1 an1 od2 an2 od3 an3 od4 an4 od5 an5 od6 an6 od7 an7 od8 an8 od9 an9 od10 an10 od11 an11 od12 an12 od13 an13 od14 an14 od15 an15 od16 an16 od17 an17 od18 an18 od19 an19 od20 an20 od21 an21 od22 an22 od23 an23 od24 an24 od25 an25 od26 an26 od27 an27 od28 an28 od29 an29 : Option Addr} {sl0 sl1 sl2 sl3 sl4 sl5 sl6 sl7 sl8 sl9 sl10 sl11 sl12 sl13 sl14 sl15 sl16 sl17 sl18 sl19 sl20 sl21 sl22 sl23 sl24 sl25 sl26 sl27 sl28 sl29 : Array (Option Value)}
    {oc0 kV0 dc0 pm0 cd0 ct0 oc1 kV1 dc1 pm1 cd1 ct1 oc2 kV2 dc2 pm2 cd2 ct2 oc3 kV3 dc3 pm3 cd3 ct3 oc4 kV4 dc4 pm4 cd4 ct4 oc5 kV5 dc5 pm5 cd5 ct5 oc6 kV6 dc6 pm6 cd6 ct6 oc7 kV7 dc7 pm7 cd7 ct7 oc8 kV8 dc8 pm8 cd8 ct8 oc9 kV9 dc9 pm9 cd9 ct9 oc10 kV10 dc10 pm10 cd10 ct10 oc11 kV11 dc11 pm11 cd11 ct11 oc12 kV12 dc12 pm12 cd12 ct12 oc13 kV13 dc13 pm13 cd13 ct13 oc14 kV14 dc14 pm14 cd14 ct14 oc15 kV15 dc15 pm15 cd15 ct15 oc16 kV16 dc16 pm16 cd16 ct16 oc17 kV17 dc17 pm17 cd17 ct17 oc18 kV18 dc18 pm18 cd18 ct18 oc19 kV19 dc19 pm19 cd19 ct19 oc20 kV20 dc20 pm20 cd20 ct20 oc21 kV21 dc21 pm21 cd21 ct21 oc22 kV22 dc22 pm22 cd22 ct22 oc23 kV23 dc23 pm23 cd23 ct23 oc24 kV24 dc24 pm24 cd24 ct24 oc25 kV25 dc25 pm25 cd25 ct25 oc26 kV26 dc26 pm26 cd26 ct26 oc27 kV27 dc27 pm27 cd27 ct27 oc28 kV28 dc28 pm28 cd28 ct28 oc29 kV29 dc29 pm29 cd29 ct29 : Value}
    (aC : PySem.W.nsIn K mainGlobals "Plan" = some (some (.ref C)))
    (a0 : PySem.W.nsIn K mainGlobals "is_integer" = some (some (.ref f0)))
    (l0 : K.lookup f0 = some ⟨oc0, od0, .func (PySem.W.fnOf "is_integer" "is_integer" (defArgs sIsInt) (defBody sIsInt) (defScope sIsInt) .none kV0 dc0 pm0 an0 cd0 ct0), sl0⟩)
    (c0 : PySem.W.codeIn K cd0 "is_integer" = true)
    (k0 : PySem.W.keepIn K (.ref f0) = true)
    (a1 : PySem.W.nsIn K mainGlobals "is_count" = some (some (.ref f1)))
    (l1 : K.lookup f1 = some ⟨oc1, od1, .func (PySem.W.fnOf "is_count" "is_count" (defArgs sIsCnt) (defBody sIsCnt) (defScope sIsCnt) .none kV1 dc1 pm1 an1 cd1 ct1), sl1⟩)
    (c1 : PySem.W.codeIn K cd1 "is_count" = true)
    (k1 : PySem.W.keepIn K (.ref f1) = true)
    (a2 : PySem.W.nsIn K mainGlobals "is_list" = some (some (.ref f2)))
    (l2 : K.lookup f2 = some ⟨oc2, od2, .func (PySem.W.fnOf "is_list" "is_list" (defArgs sIsLst) (defBody sIsLst) (defScope sIsLst) .none kV2 dc2 pm2 an2 cd2 ct2), sl2⟩)
    (c2 : PySem.W.codeIn K cd2 "is_list" = true)
    (k2 : PySem.W.keepIn K (.ref f2) = true)
    (a3 : PySem.W.nsIn K mainGlobals "is_thing" = some (some (.ref f3)))
    (l3 : K.lookup f3 = some ⟨oc3, od3, .func (PySem.W.fnOf "is_thing" "is_thing" (defArgs sIsThg) (defBody sIsThg) (defScope sIsThg) .none kV3 dc3 pm3 an3 cd3 ct3), sl3⟩)
    (c3 : PySem.W.codeIn K cd3 "is_thing" = true)
    (k3 : PySem.W.keepIn K (.ref f3) = true)
    (a4 : PySem.W.nsIn K mainGlobals "is_pair" = some (some (.ref f4)))
    (l4 : K.lookup f4 = some ⟨oc4, od4, .func (PySem.W.fnOf "is_pair" "is_pair" (defArgs sIsPair) (defBody sIsPair) (defScope sIsPair) .none kV4 dc4 pm4 an4 cd4 ct4), sl4⟩)
    (c4 : PySem.W.codeIn K cd4 "is_pair" = true)
    (k4 : PySem.W.keepIn K (.ref f4) = true)
    (a5 : PySem.W.nsIn K mainGlobals "are_pairs" = some (some (.ref f5)))
    (l5 : K.lookup f5 = some ⟨oc5, od5, .func (PySem.W.fnOf "are_pairs" "are_pairs" (defArgs sArePairs) (defBody sArePairs) (defScope sArePairs) .none kV5 dc5 pm5 an5 cd5 ct5), sl5⟩)
    (c5 : PySem.W.codeIn K cd5 "are_pairs" = true)
    (k5 : PySem.W.keepIn K (.ref f5) = true)
    (a6 : PySem.W.nsIn K mainGlobals "are_some" = some (some (.ref f6)))
    (l6 : K.lookup f6 = some ⟨oc6, od6, .func (PySem.W.fnOf "are_some" "are_some" (defArgs sAreSome) (defBody sAreSome) (defScope sAreSome) .none kV6 dc6 pm6 an6 cd6 ct6), sl6⟩)
    (c6 : PySem.W.codeIn K cd6 "are_some" = true)
    (k6 : PySem.W.keepIn K (.ref f6) = true)
    (a7 : PySem.W.nsIn K mainGlobals "are_arrows" = some (some (.ref f7)))
    (l7 : K.lookup f7 = some ⟨oc7, od7, .func (PySem.W.fnOf "are_arrows" "are_arrows" (defArgs sAreArr) (defBody sAreArr) (defScope sAreArr) .none kV7 dc7 pm7 an7 cd7 ct7), sl7⟩)
    (c7 : PySem.W.codeIn K cd7 "are_arrows" = true)
    (k7 : PySem.W.keepIn K (.ref f7) = true)
    (a8 : PySem.W.nsIn K mainGlobals "are_ties" = some (some (.ref f8)))
    (l8 : K.lookup f8 = some ⟨oc8, od8, .func (PySem.W.fnOf "are_ties" "are_ties" (defArgs sAreTies) (defBody sAreTies) (defScope sAreTies) .none kV8 dc8 pm8 an8 cd8 ct8), sl8⟩)
    (c8 : PySem.W.codeIn K cd8 "are_ties" = true)
    (k8 : PySem.W.keepIn K (.ref f8) = true)
    (a9 : PySem.W.nsIn K mainGlobals "order_of" = some (some (.ref f9)))
    (l9 : K.lookup f9 = some ⟨oc9, od9, .func (PySem.W.fnOf "order_of" "order_of" (defArgs sOrdOf) (defBody sOrdOf) (defScope sOrdOf) .none kV9 dc9 pm9 an9 cd9 ct9), sl9⟩)
    (c9 : PySem.W.codeIn K cd9 "order_of" = true)
    (k9 : PySem.W.keepIn K (.ref f9) = true)
    (a10 : PySem.W.nsIn K mainGlobals "reached" = some (some (.ref f10)))
    (l10 : K.lookup f10 = some ⟨oc10, od10, .func (PySem.W.fnOf "reached" "reached" (defArgs sReached) (defBody sReached) (defScope sReached) .none kV10 dc10 pm10 an10 cd10 ct10), sl10⟩)
    (c10 : PySem.W.codeIn K cd10 "reached" = true)
    (k10 : PySem.W.keepIn K (.ref f10) = true)
    (a11 : PySem.W.nsIn K mainGlobals "turned" = some (some (.ref f11)))
    (l11 : K.lookup f11 = some ⟨oc11, od11, .func (PySem.W.fnOf "turned" "turned" (defArgs sTurned) (defBody sTurned) (defScope sTurned) .none kV11 dc11 pm11 an11 cd11 ct11), sl11⟩)
    (c11 : PySem.W.codeIn K cd11 "turned" = true)
    (k11 : PySem.W.keepIn K (.ref f11) = true)
    (a12 : PySem.W.nsIn K mainGlobals "both_ways" = some (some (.ref f12)))
    (l12 : K.lookup f12 = some ⟨oc12, od12, .func (PySem.W.fnOf "both_ways" "both_ways" (defArgs sBothWays) (defBody sBothWays) (defScope sBothWays) .none kV12 dc12 pm12 an12 cd12 ct12), sl12⟩)
    (c12 : PySem.W.codeIn K cd12 "both_ways" = true)
    (k12 : PySem.W.keepIn K (.ref f12) = true)
    (a13 : PySem.W.nsIn K mainGlobals "is_size" = some (some (.ref f13)))
    (l13 : K.lookup f13 = some ⟨oc13, od13, .func (PySem.W.fnOf "is_size" "is_size" (defArgs sIsSize) (defBody sIsSize) (defScope sIsSize) .none kV13 dc13 pm13 an13 cd13 ct13), sl13⟩)
    (c13 : PySem.W.codeIn K cd13 "is_size" = true)
    (k13 : PySem.W.keepIn K (.ref f13) = true)
    (a14 : PySem.W.nsIn K mainGlobals "check_size" = some (some (.ref f14)))
    (l14 : K.lookup f14 = some ⟨oc14, od14, .func (PySem.W.fnOf "check_size" "check_size" (defArgs sChkSize) (defBody sChkSize) (defScope sChkSize) .none kV14 dc14 pm14 an14 cd14 ct14), sl14⟩)
    (c14 : PySem.W.codeIn K cd14 "check_size" = true)
    (k14 : PySem.W.keepIn K (.ref f14) = true)
    (a15 : PySem.W.nsIn K mainGlobals "check_plan" = some (some (.ref f15)))
    (l15 : K.lookup f15 = some ⟨oc15, od15, .func (PySem.W.fnOf "check_plan" "check_plan" (defArgs sChkPlan) (defBody sChkPlan) (defScope sChkPlan) .none kV15 dc15 pm15 an15 cd15 ct15), sl15⟩)
    (c15 : PySem.W.codeIn K cd15 "check_plan" = true)
    (k15 : PySem.W.keepIn K (.ref f15) = true)
    (a16 : PySem.W.nsIn K mainGlobals "tie_parts" = some (some (.ref f16)))
    (l16 : K.lookup f16 = some ⟨oc16, od16, .func (PySem.W.fnOf "tie_parts" "tie_parts" (defArgs sTieParts) (defBody sTieParts) (defScope sTieParts) .none kV16 dc16 pm16 an16 cd16 ct16), sl16⟩)
    (c16 : PySem.W.codeIn K cd16 "tie_parts" = true)
    (k16 : PySem.W.keepIn K (.ref f16) = true)
    (a17 : PySem.W.nsIn K mainGlobals "with_more" = some (some (.ref f17)))
    (l17 : K.lookup f17 = some ⟨oc17, od17, .func (PySem.W.fnOf "with_more" "with_more" (defArgs sWithMore) (defBody sWithMore) (defScope sWithMore) .none kV17 dc17 pm17 an17 cd17 ct17), sl17⟩)
    (c17 : PySem.W.codeIn K cd17 "with_more" = true)
    (k17 : PySem.W.keepIn K (.ref f17) = true)
    (a18 : PySem.W.nsIn K mainGlobals "without" = some (some (.ref f18)))
    (l18 : K.lookup f18 = some ⟨oc18, od18, .func (PySem.W.fnOf "without" "without" (defArgs sWithout) (defBody sWithout) (defScope sWithout) .none kV18 dc18 pm18 an18 cd18 ct18), sl18⟩)
    (c18 : PySem.W.codeIn K cd18 "without" = true)
    (k18 : PySem.W.keepIn K (.ref f18) = true)
    (a19 : PySem.W.nsIn K mainGlobals "_law_pot" = some (some (.ref f19)))
    (l19 : K.lookup f19 = some ⟨oc19, od19, .func (PySem.W.fnOf "_law_pot" "_law_pot" (defArgs sPot) (defBody sPot) (defScope sPot) .none kV19 dc19 pm19 an19 cd19 ct19), sl19⟩)
    (c19 : PySem.W.codeIn K cd19 "_law_pot" = true)
    (k19 : PySem.W.keepIn K (.ref f19) = true)
    (a20 : PySem.W.nsIn K mainGlobals "_law_draw" = some (some (.ref f20)))
    (l20 : K.lookup f20 = some ⟨oc20, od20, .func (PySem.W.fnOf "_law_draw" "_law_draw" (defArgs sDraw) (defBody sDraw) (defScope sDraw) .none kV20 dc20 pm20 an20 cd20 ct20), sl20⟩)
    (c20 : PySem.W.codeIn K cd20 "_law_draw" = true)
    (k20 : PySem.W.keepIn K (.ref f20) = true)
    (a21 : PySem.W.nsIn K mainGlobals "_law_shuffled" = some (some (.ref f21)))
    (l21 : K.lookup f21 = some ⟨oc21, od21, .func (PySem.W.fnOf "_law_shuffled" "_law_shuffled" (defArgs sShuf) (defBody sShuf) (defScope sShuf) .none kV21 dc21 pm21 an21 cd21 ct21), sl21⟩)
    (c21 : PySem.W.codeIn K cd21 "_law_shuffled" = true)
    (k21 : PySem.W.keepIn K (.ref f21) = true)
    (a22 : PySem.W.nsIn K mainGlobals "_law_plan" = some (some (.ref f22)))
    (l22 : K.lookup f22 = some ⟨oc22, od22, .func (PySem.W.fnOf "_law_plan" "_law_plan" (defArgs sPlan) (defBody sPlan) (defScope sPlan) .none kV22 dc22 pm22 an22 cd22 ct22), sl22⟩)
    (c22 : PySem.W.codeIn K cd22 "_law_plan" = true)
    (k22 : PySem.W.keepIn K (.ref f22) = true)
    (a23 : PySem.W.nsIn K mainGlobals "_law_parts" = some (some (.ref f23)))
    (l23 : K.lookup f23 = some ⟨oc23, od23, .func (PySem.W.fnOf "_law_parts" "_law_parts" (defArgs sParts) (defBody sParts) (defScope sParts) .none kV23 dc23 pm23 an23 cd23 ct23), sl23⟩)
    (c23 : PySem.W.codeIn K cd23 "_law_parts" = true)
    (k23 : PySem.W.keepIn K (.ref f23) = true)
    (a24 : PySem.W.nsIn K mainGlobals "_law_right" = some (some (.ref f24)))
    (l24 : K.lookup f24 = some ⟨oc24, od24, .func (PySem.W.fnOf "_law_right" "_law_right" (defArgs sRight) (defBody sRight) (defScope sRight) .none kV24 dc24 pm24 an24 cd24 ct24), sl24⟩)
    (c24 : PySem.W.codeIn K cd24 "_law_right" = true)
    (k24 : PySem.W.keepIn K (.ref f24) = true)
    (a25 : PySem.W.nsIn K mainGlobals "law" = some (some (.ref f25)))
    (l25 : K.lookup f25 = some ⟨oc25, od25, .func (PySem.W.fnOf "law" "law" (defArgs sLaw) (defBody sLaw) (defScope sLaw) .none kV25 dc25 pm25 an25 cd25 ct25), sl25⟩)
    (c25 : PySem.W.codeIn K cd25 "law" = true)
    (k25 : PySem.W.keepIn K (.ref f25) = true)
    (a26 : PySem.W.findIn K (.ref C) "__init__" = some (some (.ref f26)))
    (i26 : PySem.W.isFn K (.ref f26) = true)
    (l26 : K.lookup f26 = some ⟨oc26, od26, .func (PySem.W.fnOf "__init__" "Plan.__init__" (defArgs sInit) (defBody sInit) (defScope sInit) .none kV26 dc26 pm26 an26 cd26 ct26), sl26⟩)
    (c26 : PySem.W.codeIn K cd26 "Plan.__init__" = true)
    (k26 : PySem.W.keepIn K (.ref f26) = true)
    (a27 : PySem.W.findIn K (.ref C) "arrows" = some (some (.ref f27)))
    (i27 : PySem.W.isFn K (.ref f27) = true)
    (l27 : K.lookup f27 = some ⟨oc27, od27, .func (PySem.W.fnOf "arrows" "Plan.arrows" (defArgs sArrows) (defBody sArrows) (defScope sArrows) .none kV27 dc27 pm27 an27 cd27 ct27), sl27⟩)
    (c27 : PySem.W.codeIn K cd27 "Plan.arrows" = true)
    (k27 : PySem.W.keepIn K (.ref f27) = true)
    (a28 : PySem.W.findIn K (.ref C) "ties" = some (some (.ref f28)))
    (i28 : PySem.W.isFn K (.ref f28) = true)
    (l28 : K.lookup f28 = some ⟨oc28, od28, .func (PySem.W.fnOf "ties" "Plan.ties" (defArgs sTies) (defBody sTies) (defScope sTies) .none kV28 dc28 pm28 an28 cd28 ct28), sl28⟩)
    (c28 : PySem.W.codeIn K cd28 "Plan.ties" = true)
    (k28 : PySem.W.keepIn K (.ref f28) = true)
    (pa : PySem.W.findIn K (.ref C) "width" = some (some (.ref pW)))
    (pg : PySem.W.specialIn K (.ref pW) "__get__" = some (some (.builtin "property.__get__")))
    (pt : PySem.W.takesIn K (.ref pW) = some true)
    (pr : PySem.W.recIn K pW "property" = some (.ref f29 :: rest))
    (l29 : K.lookup f29 = some ⟨oc29, od29, .func (PySem.W.fnOf "width" "Plan.width" (defArgs sWidth) (defBody sWidth) (defScope sWidth) .none kV29 dc29 pm29 an29 cd29 ct29), sl29⟩)
    (c29 : PySem.W.codeIn K cd29 "Plan.width" = true)
    (k29 : PySem.W.keepIn K (.ref f29) = true)
    (q1 : PySem.W.plainGet K C Str.empty = true)
    (q2 : PySem.W.hasDictIn K C = true)
    (q3 : PySem.W.plainOver K C = true)
    (q4 : PySem.W.findIn K (.ref C) "__setattr__" = some (some (.builtin "object.__setattr__")))
    (q5 : PySem.W.makesIn K C = true)
    (q6 : PySem.W.keepIn K (.ref C) = true)
    (n1 : PySem.W.findIn K (.ref C) "_size" = some none)
    (n2 : PySem.W.findIn K (.ref C) "_arrows" = some none)
    (n3 : PySem.W.findIn K (.ref C) "_ties" = some none)
    (w1 : PySem.W.findIn K (.ref C) "__class__" = some (some (.builtin "object.__class__")))
    (w2 : PySem.W.specialIn K (.builtin "object.__class__") "__get__" = some (some (.builtin "getset_descriptor.__get__")))
    (w3 : PySem.W.takesIn K (.builtin "object.__class__") = some true)
    (w4 : PySem.W.mroIn K C (.type "object") = some true)
    (m1 : PySem.W.nsIn K mainGlobals "MOST_THINGS" = some (some (.int 6 tkM)))
    (z_isinstance : PySem.W.nsIn K mainGlobals "isinstance" = some none)
    (z_int : PySem.W.nsIn K mainGlobals "int" = some none)
    (z_bool : PySem.W.nsIn K mainGlobals "bool" = some none)
    (z_list : PySem.W.nsIn K mainGlobals "list" = some none)
    (z_tuple : PySem.W.nsIn K mainGlobals "tuple" = some none)
    (z_len : PySem.W.nsIn K mainGlobals "len" = some none)
    (z_all : PySem.W.nsIn K mainGlobals "all" = some none)
    (z_set : PySem.W.nsIn K mainGlobals "set" = some none)
    (z_range : PySem.W.nsIn K mainGlobals "range" = some none)
    (z_sorted : PySem.W.nsIn K mainGlobals "sorted" = some none)
    (z_sum : PySem.W.nsIn K mainGlobals "sum" = some none)
    (z_abs : PySem.W.nsIn K mainGlobals "abs" = some none)
    (z_max : PySem.W.nsIn K mainGlobals "max" = some none)
    (z_min : PySem.W.nsIn K mainGlobals "min" = some none)
    (z_divmod : PySem.W.nsIn K mainGlobals "divmod" = some none)
    (z_repr : PySem.W.nsIn K mainGlobals "repr" = some none)
    (z_enumerate : PySem.W.nsIn K mainGlobals "enumerate" = some none) :
    ∃ fd : FuncData, (∀ (s : Shared) (v : Value), BindsTo s fd ⟨[v], []⟩ [("_law_script", v)]) ∧ ∀ base : Heap, K.In base → base.Ns mainGlobals mg → FnG P w K mg base 11 fa fd ["_law_script"] (spLaw K) := by
  have e := hfa.symm.trans (PySem.W.mg_of X G a25)
  cases e
  have B : Bl mg := ⟨PySem.W.mg_none_of X G z_isinstance, PySem.W.mg_none_of X G z_int, PySem.W.mg_none_of X G z_bool, PySem.W.mg_none_of X G z_list, PySem.W.mg_none_of X G z_tuple, PySem.W.mg_none_of X G z_len, PySem.W.mg_none_of X G z_all, PySem.W.mg_none_of X G z_set, PySem.W.mg_none_of X G z_range, PySem.W.mg_none_of X G z_sorted, PySem.W.mg_none_of X G z_sum, PySem.W.mg_none_of X G z_abs, PySem.W.mg_none_of X G z_max, PySem.W.mg_none_of X G z_min, PySem.W.mg_none_of X G z_divmod, PySem.W.mg_none_of X G z_repr, PySem.W.mg_none_of X G z_enumerate⟩
  have F0 := fun_mk (st := sIsInt) l0 c0 k0
  have D0 : Df K mg "is_integer" sIsInt ["value"] f0 _ := ⟨F0, PySem.W.mg_of X G a0, F0.binds (ps := ["value"]) fun _ _ _ _ _ _ us hl => match us, hl with | [_], _ => rfl⟩
  have F1 := fun_mk (st := sIsCnt) l1 c1 k1
  have D1 : Df K mg "is_count" sIsCnt ["value"] f1 _ := ⟨F1, PySem.W.mg_of X G a1, F1.binds (ps := ["value"]) fun _ _ _ _ _ _ us hl => match us, hl with | [_], _ => rfl⟩
  have F2 := fun_mk (st := sIsLst) l2 c2 k2
  have D2 : Df K mg "is_list" sIsLst ["value"] f2 _ := ⟨F2, PySem.W.mg_of X G a2, F2.binds (ps := ["value"]) fun _ _ _ _ _ _ us hl => match us, hl with | [_], _ => rfl⟩
  have F3 := fun_mk (st := sIsThg) l3 c3 k3
  have D3 : Df K mg "is_thing" sIsThg ["size", "value"] f3 _ := ⟨F3, PySem.W.mg_of X G a3, F3.binds (ps := ["size", "value"]) fun _ _ _ _ _ _ us hl => match us, hl with | [_, _], _ => rfl⟩
  have F4 := fun_mk (st := sIsPair) l4 c4 k4
  have D4 : Df K mg "is_pair" sIsPair ["size", "value"] f4 _ := ⟨F4, PySem.W.mg_of X G a4, F4.binds (ps := ["size", "value"]) fun _ _ _ _ _ _ us hl => match us, hl with | [_, _], _ => rfl⟩
  have F5 := fun_mk (st := sArePairs) l5 c5 k5
  have D5 : Df K mg "are_pairs" sArePairs ["size", "value"] f5 _ := ⟨F5, PySem.W.mg_of X G a5, F5.binds (ps := ["size", "value"]) fun _ _ _ _ _ _ us hl => match us, hl with | [_, _], _ => rfl⟩
  have F6 := fun_mk (st := sAreSome) l6 c6 k6
  have D6 : Df K mg "are_some" sAreSome ["size", "value", "pairs"] f6 _ := ⟨F6, PySem.W.mg_of X G a6, F6.binds (ps := ["size", "value", "pairs"]) fun _ _ _ _ _ _ us hl => match us, hl with | [_, _, _], _ => rfl⟩
  have F7 := fun_mk (st := sAreArr) l7 c7 k7
  have D7 : Df K mg "are_arrows" sAreArr ["size", "value"] f7 _ := ⟨F7, PySem.W.mg_of X G a7, F7.binds (ps := ["size", "value"]) fun _ _ _ _ _ _ us hl => match us, hl with | [_, _], _ => rfl⟩
  have F8 := fun_mk (st := sAreTies) l8 c8 k8
  have D8 : Df K mg "are_ties" sAreTies ["size", "value"] f8 _ := ⟨F8, PySem.W.mg_of X G a8, F8.binds (ps := ["size", "value"]) fun _ _ _ _ _ _ us hl => match us, hl with | [_, _], _ => rfl⟩
  have F9 := fun_mk (st := sOrdOf) l9 c9 k9
  have D9 : Df K mg "order_of" sOrdOf ["size", "arrows"] f9 _ := ⟨F9, PySem.W.mg_of X G a9, F9.binds (ps := ["size", "arrows"]) fun _ _ _ _ _ _ us hl => match us, hl with | [_, _], _ => rfl⟩
  have F10 := fun_mk (st := sReached) l10 c10 k10
  have D10 : Df K mg "reached" sReached ["pairs", "start"] f10 _ := ⟨F10, PySem.W.mg_of X G a10, F10.binds (ps := ["pairs", "start"]) fun _ _ _ _ _ _ us hl => match us, hl with | [_, _], _ => rfl⟩
  have F11 := fun_mk (st := sTurned) l11 c11 k11
  have D11 : Df K mg "turned" sTurned ["pairs"] f11 _ := ⟨F11, PySem.W.mg_of X G a11, F11.binds (ps := ["pairs"]) fun _ _ _ _ _ _ us hl => match us, hl with | [_], _ => rfl⟩
  have F12 := fun_mk (st := sBothWays) l12 c12 k12
  have D12 : Df K mg "both_ways" sBothWays ["ties"] f12 _ := ⟨F12, PySem.W.mg_of X G a12, F12.binds (ps := ["ties"]) fun _ _ _ _ _ _ us hl => match us, hl with | [_], _ => rfl⟩
  have F13 := fun_mk (st := sIsSize) l13 c13 k13
  have D13 : Df K mg "is_size" sIsSize ["value"] f13 _ := ⟨F13, PySem.W.mg_of X G a13, F13.binds (ps := ["value"]) fun _ _ _ _ _ _ us hl => match us, hl with | [_], _ => rfl⟩
  have F14 := fun_mk (st := sChkSize) l14 c14 k14
  have D14 : Df K mg "check_size" sChkSize ["size"] f14 _ := ⟨F14, PySem.W.mg_of X G a14, F14.binds (ps := ["size"]) fun _ _ _ _ _ _ us hl => match us, hl with | [_], _ => rfl⟩
  have F15 := fun_mk (st := sChkPlan) l15 c15 k15
  have D15 : Df K mg "check_plan" sChkPlan ["plan"] f15 _ := ⟨F15, PySem.W.mg_of X G a15, F15.binds (ps := ["plan"]) fun _ _ _ _ _ _ us hl => match us, hl with | [_], _ => rfl⟩
  have F16 := fun_mk (st := sTieParts) l16 c16 k16
  have D16 : Df K mg "tie_parts" sTieParts ["plan"] f16 _ := ⟨F16, PySem.W.mg_of X G a16, F16.binds (ps := ["plan"]) fun _ _ _ _ _ _ us hl => match us, hl with | [_], _ => rfl⟩
  have F17 := fun_mk (st := sWithMore) l17 c17 k17
  have D17 : Df K mg "with_more" sWithMore ["plan", "arrows", "ties"] f17 _ := ⟨F17, PySem.W.mg_of X G a17, F17.binds (ps := ["plan", "arrows", "ties"]) fun _ _ _ _ _ _ us hl => match us, hl with | [_, _, _], _ => rfl⟩
  have F18 := fun_mk (st := sWithout) l18 c18 k18
  have D18 : Df K mg "without" sWithout ["plan", "arrows", "ties"] f18 _ := ⟨F18, PySem.W.mg_of X G a18, F18.binds (ps := ["plan", "arrows", "ties"]) fun _ _ _ _ _ _ us hl => match us, hl with | [_, _, _], _ => rfl⟩
  have F19 := fun_mk (st := sPot) l19 c19 k19
  have D19 : Df K mg "_law_pot" sPot ["_law_script", "_law_k"] f19 _ := ⟨F19, PySem.W.mg_of X G a19, F19.binds (ps := ["_law_script", "_law_k"]) fun _ _ _ _ _ _ us hl => match us, hl with | [_, _], _ => rfl⟩
  have F20 := fun_mk (st := sDraw) l20 c20 k20
  have D20 : Df K mg "_law_draw" sDraw ["_law_pot_here", "_law_many"] f20 _ := ⟨F20, PySem.W.mg_of X G a20, F20.binds (ps := ["_law_pot_here", "_law_many"]) fun _ _ _ _ _ _ us hl => match us, hl with | [_, _], _ => rfl⟩
  have F21 := fun_mk (st := sShuf) l21 c21 k21
  have D21 : Df K mg "_law_shuffled" sShuf ["_law_pot_here", "_law_some"] f21 _ := ⟨F21, PySem.W.mg_of X G a21, F21.binds (ps := ["_law_pot_here", "_law_some"]) fun _ _ _ _ _ _ us hl => match us, hl with | [_, _], _ => rfl⟩
  have F22 := fun_mk (st := sPlan) l22 c22 k22
  have D22 : Df K mg "_law_plan" sPlan ["_law_pot_here", "_law_most"] f22 _ := ⟨F22, PySem.W.mg_of X G a22, F22.binds (ps := ["_law_pot_here", "_law_most"]) fun _ _ _ _ _ _ us hl => match us, hl with | [_, _], _ => rfl⟩
  have F23 := fun_mk (st := sParts) l23 c23 k23
  have D23 : Df K mg "_law_parts" sParts ["_law_size", "_law_ties"] f23 _ := ⟨F23, PySem.W.mg_of X G a23, F23.binds (ps := ["_law_size", "_law_ties"]) fun _ _ _ _ _ _ us hl => match us, hl with | [_, _], _ => rfl⟩
  have F24 := fun_mk (st := sRight) l24 c24 k24
  have D24 : Df K mg "_law_right" sRight ["_law_pot_here"] f24 _ := ⟨F24, PySem.W.mg_of X G a24, F24.binds (ps := ["_law_pot_here"]) fun _ _ _ _ _ _ us hl => match us, hl with | [_], _ => rfl⟩
  have F25 := fun_mk (st := sLaw) l25 c25 k25
  have F26 := fun_mk (st := sInit) l26 c26 k26
  have b26 := F26.binds (ps := ["self", "size", "arrows", "ties"]) fun _ _ _ _ _ _ us hl => match us, hl with | [_, _, _, _], _ => rfl
  have F27 := fun_mk (st := sArrows) l27 c27 k27
  have b27 := F27.binds (ps := ["self"]) fun _ _ _ _ _ _ us hl => match us, hl with | [_], _ => rfl
  have F28 := fun_mk (st := sTies) l28 c28 k28
  have b28 := F28.binds (ps := ["self"]) fun _ _ _ _ _ _ us hl => match us, hl with | [_], _ => rfl
  have F29 := fun_mk (st := sWidth) l29 c29 k29
  have b29 := F29.binds (ps := ["self"]) fun _ _ _ _ _ _ us hl => match us, hl with | [_], _ => rfl
  have T : PlC K mg C := ⟨⟨q1, q2, q3, q4⟩, n1, n2, n3, PySem.W.mg_of X G aC⟩
  have I : C8.InsC K C := ⟨T.cl, w1, w2, w3, w4, kit_self⟩
  have M : PlM K mg C pW f29 f27 f28 _ _ _ := ⟨T, I, ⟨pa, pg, pt, ⟨_, pr⟩⟩, F29, b29, ⟨a27, i27, k27⟩, F27, b27, ⟨a28, i28, k28⟩, F28, b28⟩
  refine ⟨PySem.W.fnOf "law" "law" (defArgs sLaw) (defBody sLaw) (defScope sLaw) .none kV25 dc25 pm25 an25 cd25 ct25, fun s v => .of_eq rfl, fun base _ _ => ?_⟩
  have G5 : FnOk P w K mg base CX0 5 f5 _ ["size", "value"] (spArePairs K) := ok_arePairs D5.F D0 D1 D3 D4 D2 B
  have GS : FnOk P w K mg base CX0 3 f13 _ ["value"] spIsSize := ok_isSize D13.F D0 D1 (PySem.W.mg_of X G m1) B
  have GC : FnOk P w K mg base CX0 4 f14 _ ["size"] spChkSize := ok_chkSize D14.F D13 GS
  have GA : FnOk P w K mg base CX0 6 f7 _ ["size", "value"] (spAreArr K) := ok_areArr D7.F D5 G5 D9 B
  have GT : FnOk P w K mg base CX0 6 f8 _ ["size", "value"] (spAreTies K) := ok_areTies D8.F D5 G5 B
  have GSo : FnOk P w K mg base CX0 6 f6 _ ["size", "value", "pairs"] (spAreSome K) := ok_areSome D6.F D5 G5 B
  have GI := ok_init (P := P) (w := w) (base := base) F26 T D14 GC D7 GA D8 GT B
  have MI : Mk K C f26 := ⟨q5, a26, i26, q6⟩
  have Z : Calls P w K mg base C :=
    { plan := ⟨_, _, D22, ok_plan D22.F D20 D21 B⟩,
       init := ⟨_, _, MI, T.mgC, b26, GI⟩,
       parts := ⟨_, _, D23, ok_parts D23.F B⟩,
       tp := ⟨_, _, D16, ok_tieParts D16.F M D15 D10 D12 D11 B, fun s ws h => match ws, h with | [_], _ => .of_eq rfl⟩,
       wm := ⟨_, _, D17, ok_withMore D17.F M D15 D5 G5 D7 GA D8 GT MI b26 GI B⟩,
       wo := ⟨_, _, D18, ok_without D18.F M D15 D6 GSo MI b26 GI B⟩,
       draw := ⟨_, _, D20, ok_draw D20.F B⟩ }
  exact ok_law F25 D19 D24 Z B
theorem walk {l : PySem.W.OpenLaw} {q : Program} {loose : List Str} {XP : (Str → Option Value) → Heap → Prop} {YP : World → Heap → Prop} {d : DefRec} {K : Params → PySem.W.Frag} (hn : l.most = some 63) (hdf : d.params.defaults = [])
    (hY : ∀ (w : World) (h : Heap), YP w h → (K w.params).In h)
    (F : ∀ (w : World) (mg : Str → Option Value) (fa : Addr) (h : Heap), (K w.params).In h → h.Ns mainGlobals mg → mg d.name = some (.ref fa) →
      ∃ fd : FuncData, (∀ (s : Shared) (u : Value), BindsTo s fd ⟨[u], []⟩ [("_law_script", u)]) ∧ ∀ base : Heap, (K w.params).In base → base.Ns mainGlobals mg → FnG l.prog w (K w.params) mg base 11 fa fd ["_law_script"] (spLaw (K w.params))) :
    PySem.W.WalkO q loose XP YP l.row.toRowW d [] (fun f vs => PySem.call f vs) :=
  walkG (n := 63) (k := 11) (x := "_law_script") (sp := fun w => spLaw (K w.params)) hn (by decide) hdf ⟨rfl, by decide, by decide⟩ hY F (fun _ _ a ns _ _ _ hS => ⟨a, ns, rfl, hS, fun _ => rfl⟩)
end Tk
open PySem PySem.W PyProof.Rows
set_option maxRecDepth 100000 in
set_option maxHeartbeats 0 in
theorem PySem.Challenge.cw_toldpushes_k24_whole_parts_by_ties_holds : PySem.Challenge.rw_toldpushes_k24_whole_parts_by_ties.Holds := by
  w_on; o_law; k_head; (case hw => w_witness2)
  k_fill
  refine Tk.walk (l := PySem.Challenge.rw_toldpushes_k24_whole_parts_by_ties) rfl rfl (fun w h Y => PySem.W.kIn_of Y) ?F
  case F =>
    intro w mg fa h KX G hmg
    refine' Tk.all_mk KX G hmg ?aC ?a0 ?l0 ?c0 ?k0 ?a1 ?l1 ?c1 ?k1 ?a2 ?l2 ?c2 ?k2 ?a3 ?l3 ?c3 ?k3 ?a4 ?l4 ?c4 ?k4 ?a5 ?l5 ?c5 ?k5 ?a6 ?l6 ?c6 ?k6 ?a7 ?l7 ?c7 ?k7 ?a8 ?l8 ?c8 ?k8 ?a9 ?l9 ?c9 ?k9 ?a10 ?l10 ?c10 ?k10 ?a11 ?l11 ?c11 ?k11 ?a12 ?l12 ?c12 ?k12 ?a13 ?l13 ?c13 ?k13 ?a14 ?l14 ?c14 ?k14 ?a15 ?l15 ?c15 ?k15 ?a16 ?l16 ?c16 ?k16 ?a17 ?l17 ?c17 ?k17 ?a18 ?l18 ?c18 ?k18 ?a19 ?l19 ?c19 ?k19 ?a20 ?l20 ?c20 ?k20 ?a21 ?l21 ?c21 ?k21 ?a22 ?l22 ?c22 ?k22 ?a23 ?l23 ?c23 ?k23 ?a24 ?l24 ?c24 ?k24 ?a25 ?l25 ?c25 ?k25 ?a26 ?i26 ?l26 ?c26 ?k26 ?a27 ?i27 ?l27 ?c27 ?k27 ?a28 ?i28 ?l28 ?c28 ?k28 ?pa ?pg ?pt ?pr ?l29 ?c29 ?k29 ?q1 ?q2 ?q3 ?q4 ?q5 ?q6 ?n1 ?n2 ?n3 ?w1 ?w2 ?w3 ?w4 ?m1 ?z_isinstance ?z_int ?z_bool ?z_list ?z_tuple ?z_len ?z_all ?z_set ?z_range ?z_sorted ?z_sum ?z_abs ?z_max ?z_min ?z_divmod ?z_repr ?z_enumerate
    (case aC => k_is)
    (case a0 => k_is)
    (case l0 => k_is)
    (case c0 => k_is)
    (case k0 => k_is)
    (case a1 => k_is)
    (case l1 => k_is)
    (case c1 => k_is)
    (case k1 => k_is)
    (case a2 => k_is)
    (case l2 => k_is)
    (case c2 => k_is)
    (case k2 => k_is)
    (case a3 => k_is)
    (case l3 => k_is)
    (case c3 => k_is)
    (case k3 => k_is)
    (case a4 => k_is)
    (case l4 => k_is)
    (case c4 => k_is)
    (case k4 => k_is)
    (case a5 => k_is)
    (case l5 => k_is)
    (case c5 => k_is)
    (case k5 => k_is)
    (case a6 => k_is)
    (case l6 => k_is)
    (case c6 => k_is)
    (case k6 => k_is)
    (case a7 => k_is)
    (case l7 => k_is)
    (case c7 => k_is)
    (case k7 => k_is)
    (case a8 => k_is)
    (case l8 => k_is)
    (case c8 => k_is)
    (case k8 => k_is)
    (case a9 => k_is)
    (case l9 => k_is)
    (case c9 => k_is)
    (case k9 => k_is)
    (case a10 => k_is)
    (case l10 => k_is)
    (case c10 => k_is)
    (case k10 => k_is)
    (case a11 => k_is)
    (case l11 => k_is)
    (case c11 => k_is)
    (case k11 => k_is)
    (case a12 => k_is)
    (case l12 => k_is)
    (case c12 => k_is)
    (case k12 => k_is)
    (case a13 => k_is)
    (case l13 => k_is)
    (case c13 => k_is)
    (case k13 => k_is)
    (case a14 => k_is)
    (case l14 => k_is)
    (case c14 => k_is)
    (case k14 => k_is)
    (case a15 => k_is)
    (case l15 => k_is)
    (case c15 => k_is)
    (case k15 => k_is)
    (case a16 => k_is)
    (case l16 => k_is)
    (case c16 => k_is)
    (case k16 => k_is)
    (case a17 => k_is)
    (case l17 => k_is)
    (case c17 => k_is)
    (case k17 => k_is)
    (case a18 => k_is)
    (case l18 => k_is)
    (case c18 => k_is)
    (case k18 => k_is)
    (case a19 => k_is)
    (case l19 => k_is)
    (case c19 => k_is)
    (case k19 => k_is)
    (case a20 => k_is)
    (case l20 => k_is)
    (case c20 => k_is)
    (case k20 => k_is)
    (case a21 => k_is)
    (case l21 => k_is)
    (case c21 => k_is)
    (case k21 => k_is)
    (case a22 => k_is)
    (case l22 => k_is)
    (case c22 => k_is)
    (case k22 => k_is)
    (case a23 => k_is)
    (case l23 => k_is)
    (case c23 => k_is)
    (case k23 => k_is)
    (case a24 => k_is)
    (case l24 => k_is)
    (case c24 => k_is)
    (case k24 => k_is)
    (case a25 => k_is)
    (case l25 => k_is)
    (case c25 => k_is)
    (case k25 => k_is)
    (case a26 => k_is)
    (case i26 => k_is)
    (case l26 => k_is)
    (case c26 => k_is)
    (case k26 => k_is)
    (case a27 => k_is)
    (case i27 => k_is)
    (case l27 => k_is)
    (case c27 => k_is)
    (case k27 => k_is)
    (case a28 => k_is)
    (case i28 => k_is)
    (case l28 => k_is)
    (case c28 => k_is)
    (case k28 => k_is)
    (case pa => k_is)
    (case pg => k_is)
    (case pt => k_is)
    (case pr => k_is)
    (case l29 => k_is)
    (case c29 => k_is)
    (case k29 => k_is)
    (case q1 => k_is)
    (case q2 => k_is)
    (case q3 => k_is)
    (case q4 => k_is)
    (case q5 => k_is)
    (case q6 => k_is)
    (case n1 => k_is)
    (case n2 => k_is)
    (case n3 => k_is)
    (case w1 => k_is)
    (case w2 => k_is)
    (case w3 => k_is)
    (case w4 => k_is)
    (case m1 => k_is)
    (case z_isinstance => k_is)
    (case z_int => k_is)
    (case z_bool => k_is)
    (case z_list => k_is)
    (case z_tuple => k_is)
    (case z_len => k_is)
    (case z_all => k_is)
    (case z_set => k_is)
    (case z_range => k_is)
    (case z_sorted => k_is)
    (case z_sum => k_is)
    (case z_abs => k_is)
    (case z_max => k_is)
    (case z_min => k_is)
    (case z_divmod => k_is)
    (case z_repr => k_is)
    (case z_enumerate => k_is)
