import PyProof.Rows.All
import Wide.All
import OpenK.AllK
import Wide.FinOn
import HandS.ForMost
import HandS.EndBits
import HandS.TupSets
import HandS.Deep
import HandS.Defaults
import HandS.Property
import HandS.IsInst
import HandS.Style
import HandS.Wide
import HandS.WideBits
import HandS.Flow
import PyProof.ReprRoads
import HandS.SetFor
import HandS.SortInts
import HandS.Zip
import HandS.Conv
import HandS.SortRule
import HandS.Codes
import HandS.Star
import HandS.Walk
import HandS.Iter
import KE.SortData
import HandS.Comp
import HandS.DictComp
import PyProof.ReprLen
import OpenK.KMore
import PyProof.CallFns
import KE.SortKeyHeap
import HandS.Lambda
import HandS.EndTab
import HandS.GenList
import HandS.SortKw
import PyProof.InstNe
import HandS.Base
import HandS.Call
import HandS.OwnEq
import OpenK.KOps
import OpenK.KMeth
import HandS.FStr
import PySem.Challenge.RW_toldpushes_k72_whole_lists_of_full_plans
set_option Elab.async false
set_option linter.all false
set_option maxRecDepth 100000
set_option maxHeartbeats 8000000
/-! plain mathematics: lists of pairs, orders, reaching -/
namespace Tk
theorem nodup_le {α : Type} [DecidableEq α] : ∀ {l m : List α}, l.Nodup → (∀ x ∈ l, x ∈ m) → l.length ≤ m.length
  | [], _, _, _ => Nat.zero_le _
  | x :: l, m, hn, hs => by
    have hx : x ∈ m := hs x (List.mem_cons_self ..)
    have hn' := List.nodup_cons.mp hn
    have h := nodup_le (l := l) (m := m.erase x) hn'.2 (fun y hy => by
      have hne : y ≠ x := fun e => hn'.1 (e ▸ hy)
      exact (List.mem_erase_of_ne hne).mpr (hs y (List.mem_cons_of_mem _ hy)))
    have hl := List.length_erase_of_mem hx
    have hp : 0 < m.length := List.length_pos_of_mem hx
    simp only [List.length_cons]
    omega
theorem nodup_eq {α : Type} [DecidableEq α] {l m : List α} (hl : l.Nodup) (hm : m.Nodup) (h : ∀ x, x ∈ l ↔ x ∈ m) : l.length = m.length :=
  Nat.le_antisymm (nodup_le hl fun x hx => (h x).mp hx) (nodup_le hm fun x hx => (h x).mpr hx)
/-- the things of a plan of this size -/
def things (n : Nat) : List Int := (List.range n).map Int.ofNat
theorem mem_things {n : Nat} {x : Int} : x ∈ things n ↔ 0 ≤ x ∧ x < n := by
  unfold things
  rw [List.mem_map]
  constructor
  · rintro ⟨k, hk, rfl⟩
    have := List.mem_range.mp hk
    exact ⟨by simp, by simpa using this⟩
  · rintro ⟨h0, h1⟩
    exact ⟨x.toNat, List.mem_range.mpr (by omega), by simp; omega⟩
theorem things_nodup (n : Nat) : (things n).Nodup := by
  unfold things
  show List.Pairwise _ _
  rw [List.pairwise_map]
  exact List.Pairwise.imp (fun h e => h (Int.ofNat.inj e)) (List.nodup_range (n := n))
theorem things_len (n : Nat) : (things n).length = n := by simp [things]

/-- along the list each arrow goes from an earlier to a later place -/
structure Topo (n : Nat) (ps : List (Int × Int)) (o : List Int) : Prop where
  nd : o.Nodup
  mem : ∀ x, x ∈ o ↔ x ∈ things n
  at_ : ∀ p ∈ ps, ∀ i j : Nat, o[i]? = some p.1 → o[j]? = some p.2 → i < j
/-- some numbering rises along the arrows -/
def Acy (ps : List (Int × Int)) : Prop := ∃ r : Int → Nat, ∀ p ∈ ps, r p.1 < r p.2
/-- an order on its way: o told, l left -/
structure OInv (n : Nat) (ps : List (Int × Int)) (o l : List Int) : Prop where
  no : o.Nodup
  nl : l.Nodup
  dj : ∀ x ∈ o, x ∉ l
  al : ∀ x, x ∈ things n ↔ x ∈ o ∨ x ∈ l
  st : ∀ p ∈ ps, p.2 ∈ o → p.1 ∈ o
  at_ : ∀ p ∈ ps, ∀ i j : Nat, o[i]? = some p.1 → o[j]? = some p.2 → i < j
theorem oinv_0 (n : Nat) (ps : List (Int × Int)) : OInv n ps [] (things n) :=
  ⟨List.nodup_nil, things_nodup n, (fun _ h => nomatch h), (fun x => by simp), (fun _ _ h => nomatch h), (fun _ _ i j h => by simp at h)⟩
theorem oinv_end {n : Nat} {ps : List (Int × Int)} {o : List Int} (h : OInv n ps o []) : Topo n ps o :=
  ⟨h.no, fun x => by rw [h.al x]; simp, h.at_⟩
/-- some thing left that nothing left pushes -/
theorem has_free {l : List Int} {ps : List (Int × Int)} (ha : Acy ps) (hl : l ≠ []) : ∃ x ∈ l, ∀ p ∈ ps, p.1 ∈ l → p.2 ≠ x := by
  obtain ⟨r, hr⟩ := ha
  have : ∀ (k : Nat) (x : Int), x ∈ l → r x ≤ k → ∃ y ∈ l, ∀ p ∈ ps, p.1 ∈ l → p.2 ≠ y := by
    intro k
    induction k with
    | zero =>
      intro x hx h0
      refine ⟨x, hx, fun p hp _ e => ?_⟩
      have := hr p hp
      rw [e] at this
      omega
    | succ k ih =>
      intro x hx h0
      by_cases c : ∃ p ∈ ps, p.1 ∈ l ∧ p.2 = x
      · obtain ⟨p, hp, h1, h2⟩ := c
        have := hr p hp
        rw [h2] at this
        exact ih p.1 h1 (by omega)
      · exact ⟨x, hx, fun p hp h1 h2 => c ⟨p, hp, h1, h2⟩⟩
  cases l with
  | nil => exact absurd rfl hl
  | cons x l => exact this (r x) x (List.mem_cons_self ..) (Nat.le_refl _)
/-- the ends of the arrows from what is left -/
def pushedL (ps : List (Int × Int)) (l : List Int) : List Int := (ps.filter fun p => decide (p.1 ∈ l)).map (·.2)
def freeL (ps : List (Int × Int)) (l : List Int) : List Int := l.filter fun x => !decide (x ∈ pushedL ps l)
theorem mem_pushedL {ps : List (Int × Int)} {l : List Int} {x : Int} : x ∈ pushedL ps l ↔ ∃ p ∈ ps, p.1 ∈ l ∧ p.2 = x := by
  unfold pushedL
  simp only [List.mem_map, List.mem_filter, decide_eq_true_eq]
  constructor
  · rintro ⟨p, ⟨h1, h2⟩, h3⟩; exact ⟨p, h1, h2, h3⟩
  · rintro ⟨p, h1, h2, h3⟩; exact ⟨p, ⟨h1, h2⟩, h3⟩
theorem mem_freeL {ps : List (Int × Int)} {l : List Int} {x : Int} : x ∈ freeL ps l ↔ x ∈ l ∧ ∀ p ∈ ps, p.1 ∈ l → p.2 ≠ x := by
  unfold freeL
  simp only [List.mem_filter, Bool.not_eq_true', decide_eq_false_iff_not, mem_pushedL]
  constructor
  · rintro ⟨h1, h2⟩; exact ⟨h1, fun p hp h3 h4 => h2 ⟨p, hp, h3, h4⟩⟩
  · rintro ⟨h1, h2⟩; exact ⟨h1, fun ⟨p, hp, h3, h4⟩ => h2 p hp h3 h4⟩
theorem freeL_ne {ps : List (Int × Int)} {l : List Int} (ha : Acy ps) (hl : l ≠ []) : freeL ps l ≠ [] := by
  obtain ⟨x, h1, h2⟩ := has_free ha hl
  intro e
  have : x ∈ freeL ps l := mem_freeL.mpr ⟨h1, h2⟩
  rw [e] at this
  exact nomatch this
theorem oinv_step {n : Nat} {ps : List (Int × Int)} {o l : List Int} {x : Int} (h : OInv n ps o l) (hr : ∀ p ∈ ps, p.1 ∈ things n) (hx : x ∈ freeL ps l) : OInv n ps (o ++ [x]) (l.erase x) := by
  obtain ⟨h1, h2⟩ := mem_freeL.mp hx
  have xo : x ∉ o := fun z => h.dj x z h1
  have starts : ∀ p ∈ ps, p.2 = x → p.1 ∈ o := fun p hp e => by
    rcases (h.al p.1).mp (hr p hp) with z | z
    · exact z
    · exact absurd e (h2 p hp z)
  refine ⟨?_, h.nl.erase x, ?_, ?_, ?_, ?_⟩
  · rw [List.nodup_append]
    refine ⟨h.no, by simp, ?_⟩
    intro a ha b hb e
    simp at hb
    subst hb
    subst e
    exact xo ha
  · intro y hy z
    rcases List.mem_append.mp hy with q | q
    · exact h.dj y q (List.mem_of_mem_erase z)
    · simp at q
      subst q
      exact (List.Nodup.not_mem_erase h.nl) z
  · intro y
    rw [h.al y]
    constructor
    · rintro (q | q)
      · exact .inl (List.mem_append_left _ q)
      · by_cases e : y = x
        · exact .inl (List.mem_append_right _ (by simp [e]))
        · exact .inr ((List.mem_erase_of_ne e).mpr q)
    · rintro (q | q)
      · rcases List.mem_append.mp q with q | q
        · exact .inl q
        · simp at q
          exact .inr (q ▸ h1)
      · exact .inr (List.mem_of_mem_erase q)
  · intro p hp q
    rcases List.mem_append.mp q with q | q
    · exact List.mem_append_left _ (h.st p hp q)
    · simp at q
      exact List.mem_append_left _ (starts p hp q)
  · intro p hp i j hi hj
    by_cases jl : j < o.length
    · rw [List.getElem?_append_left jl] at hj
      have hs : p.1 ∈ o := h.st p hp (List.mem_of_getElem? hj)
      by_cases il : i < o.length
      · rw [List.getElem?_append_left il] at hi
        exact h.at_ p hp i j hi hj
      · rw [List.getElem?_append_right (by omega)] at hi
        have : i - o.length = 0 := by
          cases e : i - o.length with
          | zero => rfl
          | succ k => rw [e] at hi; simp at hi
        rw [this] at hi
        simp at hi
        exact absurd (hi ▸ hs) xo
    · rw [List.getElem?_append_right (by omega)] at hj
      have j0 : j - o.length = 0 := by
        cases e : j - o.length with
        | zero => rfl
        | succ k => rw [e] at hj; simp at hj
      rw [j0] at hj
      simp at hj
      have hs := starts p hp hj.symm
      by_cases il : i < o.length
      · omega
      · rw [List.getElem?_append_right (by omega)] at hi
        have : i - o.length = 0 := by
          cases e : i - o.length with
          | zero => rfl
          | succ k => rw [e] at hi; simp at hi
        rw [this] at hi
        simp at hi
        exact absurd (hi ▸ hs) xo
theorem topo_len {n : Nat} {ps : List (Int × Int)} {o : List Int} (h : Topo n ps o) : o.length = n := by
  rw [nodup_eq h.nd (things_nodup n) h.mem, things_len]
end Tk

namespace Tk
/-- along the pairs one comes from a to b -/
inductive Reach (ps : List (Int × Int)) (a : Int) : Int → Prop
  | refl : Reach ps a a
  | tail {b c : Int} : Reach ps a b → (b, c) ∈ ps → Reach ps a c
theorem Reach.trans {ps : List (Int × Int)} {a b c : Int} (h : Reach ps a b) (g : Reach ps b c) : Reach ps a c := by
  induction g with
  | refl => exact h
  | tail _ hp ih => exact .tail ih hp
theorem Reach.head {ps : List (Int × Int)} {a b c : Int} (h : (a, b) ∈ ps) (g : Reach ps b c) : Reach ps a c := Reach.trans (.tail .refl h) g
theorem Reach.sub {ps qs : List (Int × Int)} {a b : Int} (h : Reach ps a b) (s : ∀ p ∈ ps, p ∈ qs) : Reach qs a b := by
  induction h with
  | refl => exact .refl
  | tail _ hp ih => exact .tail ih (s _ hp)
def swp (p : Int × Int) : Int × Int := (p.2, p.1)
theorem Reach.swap {ps : List (Int × Int)} {a b : Int} (h : Reach ps a b) : Reach (ps.map swp) b a := by
  induction h with
  | refl => exact .refl
  | @tail b c _ hp ih =>
    have : (c, b) ∈ ps.map swp := List.mem_map.mpr ⟨(b, c), hp, rfl⟩
    exact Reach.head this ih
theorem swp_swp (ps : List (Int × Int)) : (ps.map swp).map swp = ps := by
  rw [List.map_map]
  have : swp ∘ swp = id := by funext p; rfl
  rw [this, List.map_id]
theorem reach_swap {ps : List (Int × Int)} {a b : Int} : Reach (ps.map swp) a b ↔ Reach ps b a :=
  ⟨fun h => by have := h.swap; rw [swp_swp] at this; exact this, Reach.swap⟩
/-- a search on its way -/
structure RInv (n : Nat) (ps : List (Int × Int)) (st : Int) (fo wa : List Int) : Prop where
  nd : fo.Nodup
  th : ∀ x ∈ fo, x ∈ things n
  ss : st ∈ fo
  re : ∀ x ∈ fo, Reach ps st x
  wf : ∀ x ∈ wa, x ∈ fo
  cl : ∀ x ∈ fo, x ∉ wa → ∀ p ∈ ps, p.1 = x → p.2 ∈ fo
def freshL (ps : List (Int × Int)) (fo : List Int) (x : Int) : List Int := (ps.filter fun p => decide (p.1 = x) && !decide (p.2 ∈ fo)).map (·.2)
theorem mem_freshL {ps : List (Int × Int)} {fo : List Int} {x y : Int} : y ∈ freshL ps fo x ↔ (x, y) ∈ ps ∧ y ∉ fo := by
  unfold freshL
  simp only [List.mem_map, List.mem_filter, Bool.and_eq_true, decide_eq_true_eq, Bool.not_eq_true', decide_eq_false_iff_not]
  constructor
  · rintro ⟨⟨a, b⟩, ⟨h1, h2, h3⟩, rfl⟩
    simp at h2
    subst h2
    exact ⟨h1, h3⟩
  · rintro ⟨h1, h2⟩
    exact ⟨(x, y), ⟨h1, rfl, h2⟩, rfl⟩
theorem freshL_nodup {ps : List (Int × Int)} (hn : ps.Nodup) (fo : List Int) (x : Int) : (freshL ps fo x).Nodup := by
  unfold freshL
  show List.Pairwise _ _
  rw [List.pairwise_map]
  have h : (ps.filter fun p => decide (p.1 = x) && !decide (p.2 ∈ fo)).Nodup := hn.filter _
  refine List.Pairwise.imp_of_mem (fun {a b} ha hb hne e => hne ?_) h
  have h1 := (List.mem_filter.mp ha).2
  have h2 := (List.mem_filter.mp hb).2
  simp at h1 h2
  exact Prod.ext (h1.1.trans h2.1.symm) e
theorem rinv_0 {n : Nat} {ps : List (Int × Int)} {st : Int} (h : st ∈ things n) : RInv n ps st [st] [st] :=
  ⟨by simp, (fun x hx => by simp at hx; exact hx ▸ h), by simp, (fun x hx => by simp at hx; rw [hx]; exact .refl), (fun x hx => hx), (fun x hx hw => absurd hx hw)⟩
theorem rinv_step {n : Nat} {ps : List (Int × Int)} {st x : Int} {fo wa : List Int} (h : RInv n ps st fo (wa ++ [x])) (hn : ps.Nodup) (hr : ∀ p ∈ ps, p.2 ∈ things n) :
    RInv n ps st (fo ++ freshL ps fo x) (wa ++ freshL ps fo x) := by
  have hx : x ∈ fo := h.wf x (by simp)
  refine ⟨?_, ?_, ?_, ?_, ?_, ?_⟩
  · rw [List.nodup_append]
    refine ⟨h.nd, freshL_nodup hn fo x, ?_⟩
    intro a ha b hb e
    subst e
    exact (mem_freshL.mp hb).2 ha
  · intro y hy
    rcases List.mem_append.mp hy with q | q
    · exact h.th y q
    · exact hr _ (mem_freshL.mp q).1
  · exact List.mem_append_left _ h.ss
  · intro y hy
    rcases List.mem_append.mp hy with q | q
    · exact h.re y q
    · exact .tail (h.re x hx) (mem_freshL.mp q).1
  · intro y hy
    rcases List.mem_append.mp hy with q | q
    · exact List.mem_append_left _ (h.wf y (List.mem_append_left _ q))
    · exact List.mem_append_right _ q
  · intro y hy hw p hp e
    have hw1 : y ∉ wa := fun q => hw (List.mem_append_left _ q)
    have hw2 : y ∉ freshL ps fo x := fun q => hw (List.mem_append_right _ q)
    have hy' : y ∈ fo := by
      rcases List.mem_append.mp hy with q | q
      · exact q
      · exact absurd q hw2
    by_cases c : y = x
    · by_cases d : p.2 ∈ fo
      · exact List.mem_append_left _ d
      · refine List.mem_append_right _ (mem_freshL.mpr ⟨?_, d⟩)
        have : (x, p.2) = p := Prod.ext (by show x = p.1; rw [e, c]) rfl
        rw [this]; exact hp
    · refine List.mem_append_left _ (h.cl y hy' (fun q => ?_) p hp e)
      rcases List.mem_append.mp q with q | q
      · exact hw1 q
      · simp at q
        exact c q
theorem rinv_end {n : Nat} {ps : List (Int × Int)} {st : Int} {fo : List Int} (h : RInv n ps st fo []) (y : Int) : y ∈ fo ↔ Reach ps st y := by
  refine ⟨h.re y, fun r => ?_⟩
  induction r with
  | refl => exact h.ss
  | tail _ hp ih => exact h.cl _ ih (by simp) _ hp rfl
theorem rinv_len {n : Nat} {ps : List (Int × Int)} {st : Int} {fo wa : List Int} (h : RInv n ps st fo wa) : fo.length ≤ n := by
  have := nodup_le h.nd (m := things n) (fun x hx => h.th x hx)
  rw [things_len] at this
  exact this
/-- two rising lists with the same members -/
theorem rise_eq : ∀ {l m : List Int}, l.Pairwise (· < ·) → m.Pairwise (· < ·) → (∀ x, x ∈ l ↔ x ∈ m) → l = m
  | [], [], _, _, _ => rfl
  | [], y :: m, _, _, h => absurd ((h y).mpr (List.mem_cons_self ..)) (by simp)
  | x :: l, [], _, _, h => absurd ((h x).mp (List.mem_cons_self ..)) (by simp)
  | x :: l, y :: m, hl, hm, h => by
    have hl' := List.pairwise_cons.mp hl
    have hm' := List.pairwise_cons.mp hm
    have e : x = y := by
      have h1 := (h x).mp (List.mem_cons_self ..)
      have h2 := (h y).mpr (List.mem_cons_self ..)
      rcases List.mem_cons.mp h1 with q | q
      · exact q
      · rcases List.mem_cons.mp h2 with r | r
        · exact r.symm
        · have a := hm'.1 x q
          have b := hl'.1 y r
          omega
    subst e
    refine congrArg (x :: ·) (rise_eq hl'.2 hm'.2 fun z => ?_)
    constructor
    · intro hz
      rcases List.mem_cons.mp ((h z).mp (List.mem_cons_of_mem _ hz)) with q | q
      · have := hl'.1 z hz
        omega
      · exact q
    · intro hz
      rcases List.mem_cons.mp ((h z).mpr (List.mem_cons_of_mem _ hz)) with q | q
      · have := hm'.1 z hz
        omega
      · exact q
theorem things_rise (n : Nat) : (things n).Pairwise (· < ·) := by
  unfold things
  rw [List.pairwise_map]
  exact List.Pairwise.imp (fun h => by simpa using h) (List.pairwise_lt_range (n := n))
theorem le_nodup_lt {l : List Int} (h : l.Pairwise (· ≤ ·)) (n : l.Nodup) : l.Pairwise (· < ·) := by
  have : l.Pairwise (fun a b => a ≤ b ∧ a ≠ b) := List.Pairwise.and h n
  exact this.imp fun h => by omega
/-- earlier in the order -/
theorem topo_reach {n : Nat} {ps : List (Int × Int)} {o : List Int} (h : Topo n ps o) (hr : ∀ p ∈ ps, p.1 ∈ things n ∧ p.2 ∈ things n) {a b : Int} (r : Reach ps a b) (ha : a ∈ things n) :
    b ∈ things n ∧ (a ≠ b → ∀ i j : Nat, o[i]? = some a → o[j]? = some b → i < j) := by
  induction r with
  | refl => exact ⟨ha, fun q => absurd rfl q⟩
  | @tail b c _ hp ih =>
    refine ⟨(hr _ hp).2, fun _ i j hi hj => ?_⟩
    obtain ⟨k, hk⟩ := List.getElem?_of_mem ((h.mem b).mpr ih.1)
    have kj := h.at_ _ hp k j hk hj
    by_cases e : a = b
    · subst e
      have ik : i = k := by
        have hi' := List.getElem?_eq_some_iff.mp hi
        have hk' := List.getElem?_eq_some_iff.mp hk
        obtain ⟨hi1, hi2⟩ := hi'
        obtain ⟨hk1, hk2⟩ := hk'
        exact (List.getElem_inj h.nd).mp (hi2.trans hk2.symm)
      omega
    · have := ih.2 e i k hi hk
      omega
theorem acy_irr {ps : List (Int × Int)} (h : Acy ps) {a b : Int} (r1 : Reach ps a b) (r2 : Reach ps b a) : a = b := by
  obtain ⟨r, hr⟩ := h
  have le : ∀ {x y : Int}, Reach ps x y → x = y ∨ r x < r y := by
    intro x y q
    induction q with
    | refl => exact .inl rfl
    | tail _ hp ih =>
      have := hr _ hp
      simp at this
      rcases ih with e | l
      · right; rw [e]; exact this
      · right; omega
  rcases le r1 with e | l1
  · exact e
  · rcases le r2 with e | l2
    · exact e.symm
    · omega
end Tk

/-! plain mathematics of lots -/
namespace Tk
def turnL (ps : List (Int × Int)) : List (Int × Int) := ps.map swp
def both (ps : List (Int × Int)) : List (Int × Int) := ps ++ turnL ps
def withinL (ps : List (Int × Int)) (lot : List Int) : List (Int × Int) := ps.filter fun p => decide (p.1 ∈ lot) && decide (p.2 ∈ lot)
theorem mem_turnL {ps : List (Int × Int)} {x y : Int} : (x, y) ∈ turnL ps ↔ (y, x) ∈ ps := by
  unfold turnL
  rw [List.mem_map]
  constructor
  · rintro ⟨⟨a, b⟩, h, e⟩
    have e1 : b = x := congrArg Prod.fst e
    have e2 : a = y := congrArg Prod.snd e
    rw [← e1, ← e2]; exact h
  · intro h
    exact ⟨(y, x), h, rfl⟩
theorem mem_both {ps : List (Int × Int)} {x y : Int} : (x, y) ∈ both ps ↔ (x, y) ∈ ps ∨ (y, x) ∈ ps := by
  unfold both
  rw [List.mem_append, mem_turnL]
theorem mem_withinL {ps : List (Int × Int)} {lot : List Int} {x y : Int} : (x, y) ∈ withinL ps lot ↔ (x, y) ∈ ps ∧ x ∈ lot ∧ y ∈ lot := by
  unfold withinL
  simp
theorem both_sym {ps : List (Int × Int)} {a b : Int} (h : Reach (both ps) a b) : Reach (both ps) b a := by
  induction h with
  | refl => exact .refl
  | tail _ hp ih => exact Reach.head (mem_both.mpr ((mem_both.mp hp).symm)) ih
/-- who leads to whom within a lot, turned about -/
def upIn (as : List (Int × Int)) (lot : List Int) : List (Int × Int) := turnL (withinL as lot)
theorem mem_upIn {as : List (Int × Int)} {lot : List Int} {x y : Int} : (x, y) ∈ upIn as lot ↔ (y, x) ∈ as ∧ y ∈ lot ∧ x ∈ lot := by
  unfold upIn
  rw [mem_turnL, mem_withinL]
theorem reach_in {ps : List (Int × Int)} {lot : List Int} {a b : Int} (h : Reach ps a b) (ha : a ∈ lot) (s : ∀ p ∈ ps, p.2 ∈ lot) : b ∈ lot := by
  cases h with
  | refl => exact ha
  | tail _ hp => exact s _ hp
theorem up_in {as : List (Int × Int)} {lot : List Int} {a b : Int} (h : Reach (upIn as lot) a b) (ha : a ∈ lot) : b ∈ lot :=
  reach_in h ha fun ⟨x, y⟩ hp => (mem_upIn.mp hp).2.1
/-- all of the lot lead to x within it -/
def IsHead (as : List (Int × Int)) (lot : List Int) (x : Int) : Prop := ∀ y ∈ lot, Reach (upIn as lot) x y
noncomputable def headB (as : List (Int × Int)) (lot : List Int) (x : Int) : Bool := @decide (IsHead as lot x) (Classical.propDecidable _)
theorem headB_iff {as : List (Int × Int)} {lot : List Int} {x : Int} : headB as lot x = true ↔ IsHead as lot x := by
  unfold headB
  exact @decide_eq_true_iff _ (Classical.propDecidable _)
noncomputable def headsL (as : List (Int × Int)) (lot : List Int) : List Int := lot.filter (headB as lot)
/-- a search from x that ended has as many as the lot just if all of the lot are met -/
theorem met_all {ps : List (Int × Int)} {lot fo : List Int} {x : Int} (nl : lot.Nodup) (nf : fo.Nodup) (hf : ∀ y, y ∈ fo ↔ Reach ps x y) (inn : ∀ y, Reach ps x y → y ∈ lot) : fo.length = lot.length ↔ ∀ y ∈ lot, Reach ps x y := by
  constructor
  · intro e y hy
    refine (hf y).mp (Classical.byContradiction fun c => ?_)
    have := nodup_le (l := y :: fo) (m := lot) (List.nodup_cons.mpr ⟨c, nf⟩) (fun z hz => by
      rcases List.mem_cons.mp hz with q | q
      · exact q ▸ hy
      · exact inn z ((hf z).mp q))
    rw [List.length_cons] at this
    omega
  · intro h
    exact nodup_eq nf nl fun y => ⟨fun hy => inn y ((hf y).mp hy), fun hy => (hf y).mpr (h y hy)⟩
theorem le_lt {l : List Int} (h : l.Pairwise (· ≤ ·)) (n : l.Nodup) : l.Pairwise (· < ·) := by
  induction l with
  | nil => exact .nil
  | cons x l ih =>
    have h1 := List.pairwise_cons.mp h
    have n1 := List.nodup_cons.mp n
    refine List.pairwise_cons.mpr ⟨fun y hy => ?_, ih h1.2 n1.2⟩
    have a := h1.1 y hy
    have b : x ≠ y := fun e => n1.1 (e ▸ hy)
    omega
theorem lt_nd {l : List Int} (h : l.Pairwise (· < ·)) : l.Nodup := List.Pairwise.imp (fun {a b} c e => by omega) h
/-- sorted, it is the lot just if all of the lot are met -/
theorem met_sorted {ps : List (Int × Int)} {lot fo ns : List Int} {x : Int} (rl : lot.Pairwise (· < ·)) (nf : fo.Nodup) (hf : ∀ y, y ∈ fo ↔ Reach ps x y) (inn : ∀ y, Reach ps x y → y ∈ lot) (pm : ns.Perm fo) (so : ns.Pairwise (· ≤ ·)) : ns = lot ↔ ∀ y ∈ lot, Reach ps x y := by
  constructor
  · rintro rfl y hy
    exact (hf y).mp (pm.mem_iff.mp hy)
  · intro h
    refine rise_eq (le_lt so (pm.nodup_iff.mpr nf)) rl fun y => ?_
    rw [pm.mem_iff, hf]
    exact ⟨inn y, h y⟩
theorem reach_iff {ps qs : List (Int × Int)} {lot : List Int} {a b : Int} (ha : a ∈ lot) (sp : ∀ x y, x ∈ lot → ((x, y) ∈ ps ↔ (x, y) ∈ qs)) (inn : ∀ p ∈ qs, p.2 ∈ lot) : Reach ps a b ↔ Reach qs a b := by
  constructor
  · intro h
    induction h with
    | refl => exact .refl
    | tail _ hp ih => exact .tail ih ((sp _ _ (reach_in ih ha inn)).mp hp)
  · intro h
    induction h with
    | refl => exact .refl
    | tail g hp ih => exact .tail ih ((sp _ _ (reach_in g ha inn)).mpr hp)
/-- the law's pairs: from each to what leads to it and lies in the lot -/
def upLaw (as : List (Int × Int)) (lot : List Int) : List (Int × Int) := turnL (as.filter fun p => decide (p.1 ∈ lot))
theorem mem_upLaw {as : List (Int × Int)} {lot : List Int} {x y : Int} : (x, y) ∈ upLaw as lot ↔ (y, x) ∈ as ∧ y ∈ lot := by
  unfold upLaw
  rw [mem_turnL]
  simp
theorem up_law {as : List (Int × Int)} {lot : List Int} {a b : Int} (ha : a ∈ lot) : Reach (upLaw as lot) a b ↔ Reach (upIn as lot) a b :=
  reach_iff ha (fun x y hx => by rw [mem_upLaw, mem_upIn]; exact ⟨fun h => ⟨h.1, h.2, hx⟩, fun h => ⟨h.1, h.2.1⟩⟩) fun ⟨x, y⟩ hp => (mem_upIn.mp hp).2.1
def tieIn (ts : List (Int × Int)) (lot : List Int) : List (Int × Int) := both (withinL ts lot)
theorem mem_tieIn {ts : List (Int × Int)} {lot : List Int} {x y : Int} : (x, y) ∈ tieIn ts lot ↔ ((x, y) ∈ ts ∨ (y, x) ∈ ts) ∧ x ∈ lot ∧ y ∈ lot := by
  unfold tieIn
  rw [mem_both, mem_withinL, mem_withinL]
  constructor
  · rintro (h | h)
    · exact ⟨.inl h.1, h.2⟩
    · exact ⟨.inr h.1, h.2.2, h.2.1⟩
  · rintro ⟨h | h, hx, hy⟩
    · exact .inl ⟨h, hx, hy⟩
    · exact .inr ⟨h, hy, hx⟩
theorem tie_in {ts : List (Int × Int)} {lot : List Int} {a b : Int} (h : Reach (tieIn ts lot) a b) (ha : a ∈ lot) : b ∈ lot := reach_in h ha fun ⟨x, y⟩ hp => (mem_tieIn.mp hp).2.2
def tieLaw (ts : List (Int × Int)) (lot : List Int) : List (Int × Int) := (both ts).filter fun p => decide (p.2 ∈ lot)
theorem mem_tieLaw {ts : List (Int × Int)} {lot : List Int} {x y : Int} : (x, y) ∈ tieLaw ts lot ↔ ((x, y) ∈ ts ∨ (y, x) ∈ ts) ∧ y ∈ lot := by
  unfold tieLaw
  rw [List.mem_filter, mem_both]
  simp
theorem tie_law {ts : List (Int × Int)} {lot : List Int} {a b : Int} (ha : a ∈ lot) : Reach (tieLaw ts lot) a b ↔ Reach (tieIn ts lot) a b :=
  reach_iff ha (fun x y hx => by rw [mem_tieLaw, mem_tieIn]; exact ⟨fun h => ⟨h.1, hx, h.2⟩, fun h => ⟨h.1, h.2.2⟩⟩) fun ⟨x, y⟩ hp => (mem_tieIn.mp hp).2.2
def HangsP (ts : List (Int × Int)) : List Int → Prop
  | [] => True
  | x :: l => ∀ y ∈ x :: l, Reach (tieIn ts (x :: l)) x y
noncomputable def hangB (ts : List (Int × Int)) (lot : List Int) : Bool := @decide (HangsP ts lot) (Classical.propDecidable _)
theorem hangB_iff {ts : List (Int × Int)} {lot : List Int} : hangB ts lot = true ↔ HangsP ts lot := by
  unfold hangB
  exact @decide_eq_true_iff _ (Classical.propDecidable _)
/-- two heads of one lot are one -/
theorem up_rank {as : List (Int × Int)} {lot : List Int} {r : Int → Nat} (hr : ∀ p ∈ as, r p.1 < r p.2) {a b : Int} (h : Reach (upIn as lot) a b) : a = b ∨ r b < r a := by
  induction h with
  | refl => exact .inl rfl
  | tail _ hp ih =>
    have := hr _ (mem_upIn.mp hp).1
    rcases ih with e | e
    · subst e; exact .inr this
    · exact .inr (Nat.lt_trans this e)
theorem head_one {as : List (Int × Int)} {lot : List Int} (ac : Acy as) {x y : Int} (hx : x ∈ lot) (hy : y ∈ lot) (h1 : IsHead as lot x) (h2 : IsHead as lot y) : x = y := by
  obtain ⟨r, hr⟩ := ac
  rcases up_rank hr (h1 y hy) with e | e
  · exact e
  · rcases up_rank hr (h2 x hx) with e2 | e2
    · exact e2.symm
    · omega
theorem filter_one {l : List Int} {f : Int → Bool} (nd : l.Nodup) (h : ∀ x ∈ l, ∀ y ∈ l, f x = true → f y = true → x = y) : (l.filter f).length ≤ 1 := by
  have n := nd.filter f
  cases e : l.filter f with
  | nil => simp
  | cons a t =>
    cases t with
    | nil => simp
    | cons b t =>
      rw [e] at n
      have ha : a ∈ l.filter f := by rw [e]; simp
      have hb : b ∈ l.filter f := by rw [e]; simp
      have := h a (List.mem_filter.mp ha).1 b (List.mem_filter.mp hb).1 (List.mem_filter.mp ha).2 (List.mem_filter.mp hb).2
      exact absurd this (by have := (List.nodup_cons.mp n).1; simp at this; exact this.1)
theorem heads_one {as : List (Int × Int)} {lot : List Int} (ac : Acy as) (nd : lot.Nodup) : (headsL as lot).length ≤ 1 :=
  filter_one nd fun _ hx _ hy h1 h2 => head_one ac hx hy (headB_iff.mp h1) (headB_iff.mp h2)
/-- the first of a list for which f holds -/
def firstOf (f : Int → Bool) (l : List Int) : Option Int := (l.filter f).head?
/-! searches with a place behind which all is done -/
structure LInv (n : Nat) (ps : List (Int × Int)) (st : Int) (fo : List Int) (k : Nat) : Prop where
  nd : fo.Nodup
  th : ∀ x ∈ fo, x ∈ things n
  ss : st ∈ fo
  re : ∀ x ∈ fo, Reach ps st x
  cl : ∀ (i : Nat) (x : Int), i < k → fo[i]? = some x → ∀ p ∈ ps, p.1 = x → p.2 ∈ fo
  kl : k ≤ fo.length
theorem linv_0 {n : Nat} {ps : List (Int × Int)} {st : Int} (h : st ∈ things n) : LInv n ps st [st] 0 :=
  ⟨by simp, (fun x hx => by simp at hx; exact hx ▸ h), by simp, (fun x hx => by simp at hx; rw [hx]; exact .refl), (fun i x hi => by omega), by simp⟩
theorem linv_len {n : Nat} {ps : List (Int × Int)} {st : Int} {fo : List Int} {k : Nat} (h : LInv n ps st fo k) : fo.length ≤ n := by
  have := nodup_le h.nd (m := things n) (fun x hx => h.th x hx)
  rw [things_len] at this
  exact this
theorem linv_more {n : Nat} {ps : List (Int × Int)} {st x : Int} {fo fr : List Int} {k : Nat} (h : LInv n ps st fo k) (hx : fo[k]? = some x) (nd : fr.Nodup) (hr : ∀ p ∈ ps, p.2 ∈ things n) (hf : ∀ y, y ∈ fr ↔ (x, y) ∈ ps ∧ y ∉ fo) : LInv n ps st (fo ++ fr) (k + 1) := by
  have xm : x ∈ fo := List.mem_of_getElem? hx
  have kl : k < fo.length := (List.getElem?_eq_some_iff.mp hx).1
  refine ⟨?_, ?_, List.mem_append_left _ h.ss, ?_, ?_, ?_⟩
  · rw [List.nodup_append]
    exact ⟨h.nd, nd, fun a ha b hb e => ((hf b).mp hb).2 (e ▸ ha)⟩
  · intro y hy
    rcases List.mem_append.mp hy with q | q
    · exact h.th y q
    · exact hr _ ((hf y).mp q).1
  · intro y hy
    rcases List.mem_append.mp hy with q | q
    · exact h.re y q
    · exact .tail (h.re x xm) ((hf y).mp q).1
  · intro i y hi hy p hp e
    rw [List.getElem?_append_left (by omega)] at hy
    by_cases c : i = k
    · subst c
      rw [hx] at hy
      have exy : x = y := Option.some.inj hy
      by_cases d : p.2 ∈ fo
      · exact List.mem_append_left _ d
      · refine List.mem_append_right _ ((hf p.2).mpr ⟨?_, d⟩)
        have : (x, p.2) = p := Prod.ext (by show x = p.1; rw [e, exy]) rfl
        rw [this]; exact hp
    · exact List.mem_append_left _ (h.cl i y (by omega) hy p hp e)
  · rw [List.length_append]; omega
theorem linv_end {n : Nat} {ps : List (Int × Int)} {st : Int} {fo : List Int} {k : Nat} (h : LInv n ps st fo k) (hk : ¬ k < fo.length) (y : Int) : y ∈ fo ↔ Reach ps st y := by
  refine ⟨h.re y, fun r => ?_⟩
  induction r with
  | refl => exact h.ss
  | tail _ hp ih =>
    obtain ⟨i, hi⟩ := List.getElem?_of_mem ih
    have : i < fo.length := (List.getElem?_eq_some_iff.mp hi).1
    exact h.cl i _ (by omega) hi _ hp rfl
/-- the same, one by one: what is put while the ends of x are gone through -/
structure HInv (n : Nat) (ps : List (Int × Int)) (st x : Int) (fo0 fo : List Int) (dn : List (Int × Int)) : Prop where
  pre : fo0 <+: fo
  nd : fo.Nodup
  th : ∀ y ∈ fo, y ∈ things n
  re : ∀ y ∈ fo, Reach ps st y
  cl : ∀ p ∈ dn, p.1 = x → p.2 ∈ fo
theorem hinv_0 {n : Nat} {ps : List (Int × Int)} {st x : Int} {fo : List Int} {k : Nat} (h : LInv n ps st fo k) : HInv n ps st x fo fo [] := ⟨List.prefix_refl _, h.nd, h.th, h.re, fun _ hp => nomatch hp⟩
theorem hinv_put {n : Nat} {ps : List (Int × Int)} {st x y : Int} {fo0 fo : List Int} {dn : List (Int × Int)} (h : HInv n ps st x fo0 fo dn) (hx : Reach ps st x) (hp : (x, y) ∈ ps) (hy : y ∈ things n) (nf : y ∉ fo) : HInv n ps st x fo0 (fo ++ [y]) (dn ++ [(x, y)]) := by
  refine ⟨h.pre.trans (List.prefix_append _ _), ?_, ?_, ?_, ?_⟩
  · rw [List.nodup_append]
    exact ⟨h.nd, by simp, fun a ha b hb e => nf (by rw [← List.mem_singleton.mp hb, ← e]; exact ha)⟩
  · intro z hz
    rcases List.mem_append.mp hz with q | q
    · exact h.th z q
    · rw [List.mem_singleton.mp q]; exact hy
  · intro z hz
    rcases List.mem_append.mp hz with q | q
    · exact h.re z q
    · rw [List.mem_singleton.mp q]; exact .tail hx hp
  · intro p hp' e
    rcases List.mem_append.mp hp' with q | q
    · exact List.mem_append_left _ (h.cl p q e)
    · rw [List.mem_singleton.mp q]; simp
theorem hinv_no {n : Nat} {ps : List (Int × Int)} {st x : Int} {fo0 fo : List Int} {dn : List (Int × Int)} (h : HInv n ps st x fo0 fo dn) {p : Int × Int} (c : p.1 = x → p.2 ∈ fo) : HInv n ps st x fo0 fo (dn ++ [p]) :=
  ⟨h.pre, h.nd, h.th, h.re, fun q hq e => by
    rcases List.mem_append.mp hq with z | z
    · exact h.cl q z e
    · rw [List.mem_singleton.mp z] at e ⊢; exact c e⟩
theorem pre_at {fo0 fo : List Int} (h : fo0 <+: fo) {i : Nat} {x : Int} (e : fo0[i]? = some x) : fo[i]? = some x := by
  obtain ⟨t, rfl⟩ := h
  rw [List.getElem?_append_left (List.getElem?_eq_some_iff.mp e).1]
  exact e
theorem hinv_end {n : Nat} {ps : List (Int × Int)} {st x : Int} {fo0 fo : List Int} {dn : List (Int × Int)} {k : Nat} (h0 : LInv n ps st fo0 k) (hx : fo0[k]? = some x) (h : HInv n ps st x fo0 fo dn) (full : ∀ p ∈ ps, p.1 = x → p ∈ dn) : LInv n ps st fo (k + 1) := by
  have kl : k < fo0.length := (List.getElem?_eq_some_iff.mp hx).1
  refine ⟨h.nd, h.th, h.pre.subset h0.ss, h.re, ?_, Nat.le_trans kl h.pre.length_le⟩
  intro i y hi hy p hp e
  by_cases c : i = k
  · subst c
    rw [pre_at h.pre hx] at hy
    have exy : x = y := Option.some.inj hy
    exact h.cl p (full p hp (by rw [e, exy])) (by rw [e, exy])
  · have hi0 : i < fo0.length := by omega
    have e0 : fo0[i]? = some fo0[i] := List.getElem?_eq_getElem hi0
    rw [pre_at h.pre e0] at hy
    exact h.pre.subset (h0.cl i y (by omega) (by rw [e0]; exact hy) p hp e)
/-! all lots -/
def Lot (n : Nat) (l : List Int) : Prop := l.Pairwise (· < ·) ∧ ∀ x ∈ l, x ∈ things n
def allLots : Nat → List (List Int)
  | 0 => [[]]
  | k + 1 => allLots k ++ (allLots k).map (· ++ [Int.ofNat k])
theorem allLots_len : ∀ n, (allLots n).length = 2 ^ n
  | 0 => rfl
  | k + 1 => by
    unfold allLots
    rw [List.length_append, List.length_map, allLots_len k, Nat.pow_succ]
    omega
theorem lot_up {k : Nat} {l : List Int} (h : Lot k l) : Lot (k + 1) l := ⟨h.1, fun x hx => by
  have := mem_things.mp (h.2 x hx)
  exact mem_things.mpr ⟨this.1, by omega⟩⟩
theorem lot_put {k : Nat} {l : List Int} (h : Lot k l) : Lot (k + 1) (l ++ [Int.ofNat k]) := by
  refine ⟨List.pairwise_append.mpr ⟨h.1, by simp, fun a ha b hb => ?_⟩, fun x hx => ?_⟩
  · rw [List.mem_singleton.mp hb]
    exact (mem_things.mp (h.2 a ha)).2
  · rcases List.mem_append.mp hx with q | q
    · exact (lot_up h).2 x q
    · rw [List.mem_singleton.mp q]
      exact mem_things.mpr ⟨Int.ofNat_nonneg k, by show (k : Int) < ((k + 1 : Nat) : Int); omega⟩
theorem allLots_lot : ∀ {n : Nat} {l : List Int}, l ∈ allLots n → Lot n l
  | 0, l, h => by
    unfold allLots at h
    rw [List.mem_singleton.mp h]
    exact ⟨.nil, fun _ hx => nomatch hx⟩
  | k + 1, l, h => by
    unfold allLots at h
    rcases List.mem_append.mp h with q | q
    · exact lot_up (allLots_lot q)
    · obtain ⟨m, hm, rfl⟩ := List.mem_map.mp q
      exact lot_put (allLots_lot hm)
theorem lot_allLots : ∀ {n : Nat} {l : List Int}, Lot n l → l ∈ allLots n
  | 0, l, h => by
    cases l with
    | nil => exact List.mem_singleton.mpr rfl
    | cons x l =>
      have := mem_things.mp (h.2 x (List.mem_cons_self ..))
      omega
  | k + 1, l, h => by
    unfold allLots
    rcases List.eq_nil_or_concat l with rfl | ⟨m, x, rfl⟩
    · exact List.mem_append_left _ (lot_allLots ⟨.nil, fun _ hx => nomatch hx⟩)
    · rw [List.concat_eq_append] at h ⊢
      obtain ⟨a, b, c⟩ := List.pairwise_append.mp h.1
      have hx := mem_things.mp (h.2 x (by simp))
      have hm : ∀ y ∈ m, y ∈ things k := fun y hy => by
        have h1 := mem_things.mp (h.2 y (List.mem_append_left _ hy))
        have h2 := c y hy x (by simp)
        exact mem_things.mpr ⟨h1.1, by omega⟩
      by_cases e : x = Int.ofNat k
      · refine List.mem_append_right _ (List.mem_map.mpr ⟨m, lot_allLots ⟨a, hm⟩, by rw [e]⟩)
      · refine List.mem_append_left _ (lot_allLots ⟨h.1, fun y hy => ?_⟩)
        rcases List.mem_append.mp hy with q | q
        · exact hm y q
        · rw [List.mem_singleton.mp q]
          have e' : ¬ x = (k : Int) := e
          exact mem_things.mpr ⟨hx.1, by omega⟩
theorem mem_allLots {n : Nat} {l : List Int} : l ∈ allLots n ↔ Lot n l := ⟨allLots_lot, lot_allLots⟩
theorem lot_len {n : Nat} {l : List Int} (h : Lot n l) : l.length ≤ n := by
  have := nodup_le (lt_nd h.1) (m := things n) h.2
  rw [things_len] at this
  exact this
end Tk

/-! plain mathematics of greatest lots -/
namespace Tk
theorem reach_mono {ps qs : List (Int × Int)} {a b : Int} (s : ∀ p ∈ ps, p ∈ qs) (h : Reach ps a b) : Reach qs a b := by
  induction h with
  | refl => exact .refl
  | tail _ hp ih => exact .tail ih (s _ hp)
theorem things_lt (n : Nat) : (things n).Pairwise (· < ·) := by
  unfold things
  rw [List.pairwise_map]
  exact List.Pairwise.imp (fun {a b} h => by show (a : Int) < (b : Int); omega) List.pairwise_lt_range
theorem up_mono {as : List (Int × Int)} {l m : List Int} (s : ∀ y ∈ l, y ∈ m) {a b : Int} (h : Reach (upIn as l) a b) : Reach (upIn as m) a b :=
  reach_mono (fun ⟨x, y⟩ hp => by rw [mem_upIn] at hp ⊢; exact ⟨hp.1, s _ hp.2.1, s _ hp.2.2⟩) h
theorem tie_mono {ts : List (Int × Int)} {l m : List Int} (s : ∀ y ∈ l, y ∈ m) {a b : Int} (h : Reach (tieIn ts l) a b) : Reach (tieIn ts m) a b :=
  reach_mono (fun ⟨x, y⟩ hp => by rw [mem_tieIn] at hp ⊢; exact ⟨hp.1, s _ hp.2.1, s _ hp.2.2⟩) h
theorem tie_sym {ts : List (Int × Int)} {l : List Int} {a b : Int} (h : Reach (tieIn ts l) a b) : Reach (tieIn ts l) b a := both_sym h
theorem reach_trans {ps : List (Int × Int)} {a b c : Int} (h : Reach ps a b) (g : Reach ps b c) : Reach ps a c := by
  induction g with
  | refl => exact h
  | tail _ hp ih => exact .tail ih hp
/-- a lot with the head x that hangs together -/
structure Good (n : Nat) (as ts : List (Int × Int)) (x : Int) (l : List Int) : Prop where
  lot : Lot n l
  mem : x ∈ l
  up : IsHead as l x
  tie : ∀ y ∈ l, Reach (tieIn ts l) x y
theorem hang_iff {ts : List (Int × Int)} {l : List Int} {x : Int} (hx : x ∈ l) : hangB ts l = true ↔ ∀ y ∈ l, Reach (tieIn ts l) x y := by
  rw [hangB_iff]
  cases l with
  | nil => cases hx
  | cons z l =>
    constructor
    · exact fun h y hy => reach_trans (tie_sym (h x hx)) (h y hy)
    · exact fun h y hy => reach_trans (tie_sym (h z (List.mem_cons_self ..))) (h y hy)
noncomputable def inGl (n : Nat) (as ts : List (Int × Int)) (x y : Int) : Bool := @decide (∃ l, Good n as ts x l ∧ y ∈ l) (Classical.propDecidable _)
noncomputable def gl (n : Nat) (as ts : List (Int × Int)) (x : Int) : List Int := (things n).filter (inGl n as ts x)
theorem mem_gl {n : Nat} {as ts : List (Int × Int)} {x y : Int} : y ∈ gl n as ts x ↔ ∃ l, Good n as ts x l ∧ y ∈ l := by
  unfold gl
  rw [List.mem_filter]
  unfold inGl
  rw [@decide_eq_true_iff _ (Classical.propDecidable _)]
  exact ⟨fun h => h.2, fun h => ⟨let ⟨l, g, hy⟩ := h; g.lot.2 y hy, h⟩⟩
theorem gl_lot {n : Nat} {as ts : List (Int × Int)} {x : Int} : Lot n (gl n as ts x) := ⟨(things_lt n).sublist List.filter_sublist, fun _ hy => (List.mem_filter.mp hy).1⟩
theorem good_one {n : Nat} {as ts : List (Int × Int)} {x : Int} (hx : x ∈ things n) : Good n as ts x [x] :=
  ⟨⟨by simp, fun y hy => by rw [List.mem_singleton.mp hy]; exact hx⟩, by simp, fun y hy => by rw [List.mem_singleton.mp hy]; exact .refl, fun y hy => by rw [List.mem_singleton.mp hy]; exact .refl⟩
theorem good_sub {n : Nat} {as ts : List (Int × Int)} {x : Int} {l : List Int} (h : Good n as ts x l) : ∀ y ∈ l, y ∈ gl n as ts x := fun y hy => mem_gl.mpr ⟨l, h, hy⟩
theorem gl_good {n : Nat} {as ts : List (Int × Int)} {x : Int} (hx : x ∈ things n) : Good n as ts x (gl n as ts x) := by
  refine ⟨gl_lot, mem_gl.mpr ⟨[x], good_one hx, by simp⟩, fun y hy => ?_, fun y hy => ?_⟩
  · obtain ⟨l, g, hl⟩ := mem_gl.mp hy
    exact up_mono (good_sub g) (g.up y hl)
  · obtain ⟨l, g, hl⟩ := mem_gl.mp hy
    exact tie_mono (good_sub g) (g.tie y hl)
theorem gl_eq {n : Nat} {as ts : List (Int × Int)} {x : Int} {l : List Int} (h : Good n as ts x l) (all : ∀ m, Good n as ts x m → ∀ y ∈ m, y ∈ l) : l = gl n as ts x :=
  rise_eq h.lot.1 gl_lot.1 fun y => ⟨good_sub h y, fun hy => let ⟨m, g, hm⟩ := mem_gl.mp hy; all m g y hm⟩
/-- two lots of one head make one -/
theorem good_both {n : Nat} {as ts : List (Int × Int)} {x : Int} {l m k : List Int} (h : Good n as ts x l) (g : Good n as ts x m) (rk : k.Pairwise (· < ·)) (e : ∀ y, y ∈ k ↔ y ∈ l ∨ y ∈ m) : Good n as ts x k := by
  refine ⟨⟨rk, fun y hy => ?_⟩, (e x).mpr (.inl h.mem), fun y hy => ?_, fun y hy => ?_⟩
  · exact ((e y).mp hy).elim (h.lot.2 y) (g.lot.2 y)
  · rcases (e y).mp hy with z | z
    · exact up_mono (fun w hw => (e w).mpr (.inl hw)) (h.up y z)
    · exact up_mono (fun w hw => (e w).mpr (.inr hw)) (g.up y z)
  · rcases (e y).mp hy with z | z
    · exact tie_mono (fun w hw => (e w).mpr (.inl hw)) (h.tie y z)
    · exact tie_mono (fun w hw => (e w).mpr (.inr hw)) (g.tie y z)
/-- one step of leaving out -/
def StepG (as ts : List (Int × Int)) (x : Int) (l fo m : List Int) : Prop := (∀ y, y ∈ fo ↔ Reach (withinL (turnL as) l) x y) ∧ ∀ y, y ∈ m ↔ Reach (withinL (both ts) fo) x y
theorem wt_up {as : List (Int × Int)} {l : List Int} {a b : Int} : Reach (withinL (turnL as) l) a b ↔ Reach (upIn as l) a b := by
  constructor
  · exact reach_mono fun ⟨x, y⟩ hp => by
      rw [mem_withinL, mem_turnL] at hp
      rw [mem_upIn]
      exact ⟨hp.1, hp.2.2, hp.2.1⟩
  · exact reach_mono fun ⟨x, y⟩ hp => by
      rw [mem_withinL, mem_turnL]
      rw [mem_upIn] at hp
      exact ⟨hp.1, hp.2.2, hp.2.1⟩
theorem wb_tie {ts : List (Int × Int)} {l : List Int} {a b : Int} : Reach (withinL (both ts) l) a b ↔ Reach (tieIn ts l) a b := by
  constructor
  · exact reach_mono fun ⟨x, y⟩ hp => by
      rw [mem_withinL, mem_both] at hp
      rw [mem_tieIn]
      exact hp
  · exact reach_mono fun ⟨x, y⟩ hp => by
      rw [mem_withinL, mem_both]
      rw [mem_tieIn] at hp
      exact hp
section
variable {n : Nat} {as ts : List (Int × Int)} {x : Int} {l fo m : List Int}
theorem step_sub (h : StepG as ts x l fo m) (hx : x ∈ l) : (∀ y ∈ fo, y ∈ l) ∧ (∀ y ∈ m, y ∈ fo) ∧ x ∈ m :=
  ⟨fun y hy => up_in (wt_up.mp ((h.1 y).mp hy)) hx, fun y hy => tie_in (wb_tie.mp ((h.2 y).mp hy)) ((h.1 x).mpr .refl), (h.2 x).mpr .refl⟩
theorem step_keep (h : StepG as ts x l fo m) {k : List Int} (g : Good n as ts x k) (s : ∀ y ∈ k, y ∈ l) : ∀ y ∈ k, y ∈ m := by
  have s1 : ∀ y ∈ k, y ∈ fo := fun y hy => (h.1 y).mpr (wt_up.mpr (up_mono s (g.up y hy)))
  exact fun y hy => (h.2 y).mpr (wb_tie.mpr (tie_mono s1 (g.tie y hy)))
theorem step_fix (h : StepG as ts x l fo l) (lot : Lot n l) (hx : x ∈ l) : Good n as ts x l := by
  obtain ⟨s1, s2, _⟩ := step_sub h hx
  refine ⟨lot, hx, fun y hy => wt_up.mp ((h.1 y).mp (s2 y hy)), fun y hy => ?_⟩
  exact tie_mono s1 (wb_tie.mp ((h.2 y).mp hy))
end
/-- a lot that is barred -/
structure Bar (n : Nat) (as ts : List (Int × Int)) (l : List Int) : Prop where
  lot : Lot n l
  two : 1 < l.length
  hang : hangB ts l = true
  head : headsL as l ≠ []
theorem bar_good {n : Nat} {as ts : List (Int × Int)} {l : List Int} (h : Bar n as ts l) : ∃ x, Good n as ts x l := by
  cases e : headsL as l with
  | nil => exact absurd e h.head
  | cons x t =>
    have hx : x ∈ headsL as l := by rw [e]; exact List.mem_cons_self ..
    obtain ⟨h1, h2⟩ := List.mem_filter.mp hx
    exact ⟨x, h.lot, h1, headB_iff.mp h2, (hang_iff h1).mp h.hang⟩
theorem good_bar {n : Nat} {as ts : List (Int × Int)} {x : Int} {l : List Int} (h : Good n as ts x l) (two : 1 < l.length) : Bar n as ts l := by
  refine ⟨h.lot, two, (hang_iff h.mem).mpr h.tie, fun e => ?_⟩
  have : x ∈ headsL as l := List.mem_filter.mpr ⟨h.mem, headB_iff.mpr h.up⟩
  rw [e] at this
  cases this
/-- plain: all greatest lots are of one thing -/
def PlainP (n : Nat) (as ts : List (Int × Int)) : Prop := ∀ x ∈ things n, (gl n as ts x).length ≤ 1
noncomputable def plainB (n : Nat) (as ts : List (Int × Int)) : Bool := @decide (PlainP n as ts) (Classical.propDecidable _)
theorem plainB_iff {n : Nat} {as ts : List (Int × Int)} : plainB n as ts = true ↔ PlainP n as ts := by
  unfold plainB
  exact @decide_eq_true_iff _ (Classical.propDecidable _)
theorem plain_bars {n : Nat} {as ts : List (Int × Int)} : PlainP n as ts ↔ ∀ l, ¬ Bar n as ts l := by
  constructor
  · intro h l b
    obtain ⟨x, g⟩ := bar_good b
    have := nodup_le (lt_nd g.lot.1) (m := gl n as ts x) (good_sub g)
    have := h x (g.lot.2 x g.mem)
    have := b.two
    omega
  · intro h x hx
    refine Nat.not_lt.mp fun c => h _ (good_bar (gl_good hx) c)
end Tk

/-! plain mathematics: growing lists along pairs till nothing is put, within a lot -/
namespace Tk
def grow1 (lot f : List Int) (p : Int × Int) : List Int := if p.2 ∈ f ∧ p.1 ∈ lot ∧ p.1 ∉ f then f ++ [p.1] else f
def growL (lot : List Int) (bs : List (Int × Int)) (f : List Int) : List Int := bs.foldl (grow1 lot) f
structure GInv (bs : List (Int × Int)) (lot : List Int) (x : Int) (f : List Int) : Prop where
  nd : f.Nodup
  mem : x ∈ f
  sub : ∀ y ∈ f, y ∈ lot
  re : ∀ y ∈ f, Reach (upIn bs lot) x y
section
variable {bs bs' : List (Int × Int)} {lot f : List Int} {x : Int}
theorem ginv_0 (hx : x ∈ lot) : GInv bs lot x [x] := ⟨by simp, by simp, fun y hy => by rw [List.mem_singleton.mp hy]; exact hx, fun y hy => by rw [List.mem_singleton.mp hy]; exact .refl⟩
theorem ginv_1 (h : GInv bs lot x f) {p : Int × Int} (hp : p ∈ bs) : GInv bs lot x (grow1 lot f p) := by
  unfold grow1
  by_cases c : p.2 ∈ f ∧ p.1 ∈ lot ∧ p.1 ∉ f
  · rw [if_pos c]
    refine ⟨List.nodup_append.mpr ⟨h.nd, by simp, fun a ha b hb e => ?_⟩, List.mem_append_left _ h.mem, fun y hy => ?_, fun y hy => ?_⟩
    · rw [List.mem_singleton.mp hb] at e
      rw [e] at ha
      exact c.2.2 ha
    · rcases List.mem_append.mp hy with k | k
      · exact h.sub y k
      · rw [List.mem_singleton.mp k]; exact c.2.1
    · rcases List.mem_append.mp hy with k | k
      · exact h.re y k
      · rw [List.mem_singleton.mp k]
        exact .tail (h.re _ c.1) (mem_upIn.mpr ⟨hp, c.2.1, h.sub _ c.1⟩)
  · rw [if_neg c]; exact h
theorem ginv_pass (h : GInv bs lot x f) : ∀ (cs : List (Int × Int)), (∀ p ∈ cs, p ∈ bs) → GInv bs lot x (growL lot cs f) := by
  intro cs
  induction cs generalizing f with
  | nil => intro _; exact h
  | cons p cs ih => intro s; exact ih (ginv_1 h (s p (List.mem_cons_self ..))) fun q hq => s q (List.mem_cons_of_mem _ hq)
theorem grow1_len {p : Int × Int} : f.length ≤ (grow1 lot f p).length := by
  unfold grow1
  split
  · simp
  · exact Nat.le_refl _
theorem grow_len : ∀ (cs : List (Int × Int)) (f : List Int), f.length ≤ (growL lot cs f).length
  | [], _ => Nat.le_refl _
  | p :: cs, f => Nat.le_trans grow1_len (grow_len cs (grow1 lot f p))
theorem grow_fix : ∀ (cs : List (Int × Int)) (f : List Int), (growL lot cs f).length = f.length → growL lot cs f = f ∧ ∀ p ∈ cs, p.2 ∈ f → p.1 ∈ lot → p.1 ∈ f
  | [], _, _ => ⟨rfl, fun _ h => nomatch h⟩
  | p :: cs, f, e => by
    have l1 := grow1_len (lot := lot) (f := f) (p := p)
    have l2 := grow_len (lot := lot) cs (grow1 lot f p)
    have e' : (growL lot cs (grow1 lot f p)).length = f.length := e
    have e1 : (grow1 lot f p).length = f.length := by omega
    have no : ¬ (p.2 ∈ f ∧ p.1 ∈ lot ∧ p.1 ∉ f) := fun c => by
      unfold grow1 at e1
      rw [if_pos c] at e1
      simp at e1
    have e2 : grow1 lot f p = f := by unfold grow1; rw [if_neg no]
    rw [e2] at e'
    obtain ⟨h1, h2⟩ := grow_fix cs f e'
    refine ⟨?_, fun q hq => ?_⟩
    · show growL lot cs (grow1 lot f p) = f
      rw [e2]; exact h1
    · rcases List.mem_cons.mp hq with rfl | hq
      · exact fun a b => Classical.byContradiction fun c => no ⟨a, b, c⟩
      · exact h2 q hq
theorem grow_end (h : GInv bs lot x f) (cl : ∀ p ∈ bs, p.2 ∈ f → p.1 ∈ lot → p.1 ∈ f) (y : Int) : y ∈ f ↔ Reach (upIn bs lot) x y := by
  constructor
  · exact h.re y
  · intro r
    induction r with
    | refl => exact h.mem
    | tail _ hb ih =>
      obtain ⟨h1, h2, _⟩ := mem_upIn.mp hb
      exact cl _ h1 ih h2
theorem grow_snoc {cs : List (Int × Int)} {p : Int × Int} : growL lot (cs ++ [p]) f = grow1 lot (growL lot cs f) p := by
  unfold growL
  rw [List.foldl_append]
  rfl
end
/-- both ways of each tie -/
def bsT (ts : List (Int × Int)) : List (Int × Int) := ts.flatMap fun p => [(p.2, p.1), p]
theorem mem_bsT {ts : List (Int × Int)} {a b : Int} : (a, b) ∈ bsT ts ↔ (a, b) ∈ ts ∨ (b, a) ∈ ts := by
  unfold bsT
  rw [List.mem_flatMap]
  constructor
  · rintro ⟨⟨u, v⟩, hp, h⟩
    rcases List.mem_cons.mp h with e | h
    · obtain ⟨e1, e2⟩ := Prod.mk.inj e
      rw [e1, e2]; exact .inr hp
    · rw [List.mem_singleton.mp h]; exact .inl hp
  · rintro (h | h)
    · exact ⟨(a, b), h, by simp⟩
    · exact ⟨(b, a), h, by simp⟩
theorem up_bsT {ts : List (Int × Int)} {lot : List Int} {a b : Int} : Reach (upIn (bsT ts) lot) a b ↔ Reach (tieIn ts lot) a b := by
  constructor
  · exact reach_mono fun ⟨x, y⟩ hp => by
      rw [mem_upIn, mem_bsT] at hp
      rw [mem_tieIn]
      exact ⟨hp.1.symm, hp.2.2, hp.2.1⟩
  · exact reach_mono fun ⟨x, y⟩ hp => by
      rw [mem_upIn, mem_bsT]
      rw [mem_tieIn] at hp
      exact ⟨hp.1.symm, hp.2.2, hp.2.1⟩
theorem bsT_snoc {ts : List (Int × Int)} {p : Int × Int} {lot f : List Int} : growL lot (bsT (ts ++ [p])) f = grow1 lot (grow1 lot (growL lot (bsT ts) f) (p.2, p.1)) p := by
  unfold bsT
  rw [List.flatMap_append]
  show growL lot (ts.flatMap _ ++ [(p.2, p.1), p]) f = _
  unfold growL
  rw [List.foldl_append]
  rfl
/-- one step of the law's own greatest lot, on lots in any sequence -/
structure OStep (as ts : List (Int × Int)) (x : Int) (l fo m : List Int) : Prop where
  h1 : ∀ y, y ∈ fo ↔ Reach (upIn as l) x y
  h2 : ∀ y, y ∈ m ↔ Reach (tieIn ts fo) x y
section
variable {n : Nat} {as ts : List (Int × Int)} {x : Int} {l fo m : List Int}
theorem ostep_sub (h : OStep as ts x l fo m) (hx : x ∈ l) : (∀ y ∈ fo, y ∈ l) ∧ (∀ y ∈ m, y ∈ fo) ∧ x ∈ fo ∧ x ∈ m :=
  ⟨fun y hy => up_in ((h.h1 y).mp hy) hx, fun y hy => tie_in ((h.h2 y).mp hy) ((h.h1 x).mpr .refl), (h.h1 x).mpr .refl, (h.h2 x).mpr .refl⟩
theorem ostep_keep (h : OStep as ts x l fo m) {k : List Int} (g : Good n as ts x k) (s : ∀ y ∈ k, y ∈ l) : ∀ y ∈ k, y ∈ m := by
  have s1 : ∀ y ∈ k, y ∈ fo := fun y hy => (h.h1 y).mpr (up_mono s (g.up y hy))
  exact fun y hy => (h.h2 y).mpr (tie_mono s1 (g.tie y hy))
theorem ostep_fix (h : OStep as ts x l fo m) (e : ∀ y ∈ l, y ∈ m) {ns : List Int} (lot : Lot n ns) (en : ∀ y, y ∈ ns ↔ y ∈ m) (hx : x ∈ l) : Good n as ts x ns := by
  obtain ⟨s1, s2, _, s4⟩ := ostep_sub h hx
  have lm : ∀ y ∈ l, y ∈ ns := fun y hy => (en y).mpr (e y hy)
  refine ⟨lot, (en x).mpr s4, fun y hy => ?_, fun y hy => ?_⟩
  · exact up_mono lm ((h.h1 y).mp (s2 y ((en y).mp hy)))
  · exact tie_mono (fun z hz => lm z (s1 z hz)) ((h.h2 y).mp ((en y).mp hy))
end
/-- two lists of as many, one within the other -/
theorem nd_all {l m : List Int} (nd : m.Nodup) (s : ∀ y ∈ m, y ∈ l) (ndl : l.Nodup) (e : m.length = l.length) : ∀ y ∈ l, y ∈ m := fun y hy => Classical.byContradiction fun no => by
  have := nodup_le (l := y :: m) (m := l) (List.nodup_cons.mpr ⟨no, nd⟩) fun z hz => by
    rcases List.mem_cons.mp hz with k | k
    · exact k ▸ hy
    · exact s z k
  rw [List.length_cons] at this
  omega
end Tk

namespace Tk
open PySem PySem.Spec PyProof.Rows L2

/-! ## promises of defs that want to know that no repr is running -/
structure FnG (P : Program) (w : World) (K : PySem.W.Frag) (mg : Str → Option Value) (base : Heap) (k : Nat) (f : Addr) (fd : FuncData) (ps : List Str) (sp : Sp) : Prop where
  len : ∀ vs H Q E, sp vs H Q E → vs.length = ps.length
  run : ∀ (A : Around) (outer : List Env) (s : Shared) (H : Hp) (args : Args) (us : List Value) (vs : List V) (Q : VK) (E : XK),
    A.guards = some [] → Room k A → Env0 P w K mg base A outer s H → BindsTo s fd args (ps.zip us) → Vals vs us → sp vs H Q E →
    codeAny (model P w) A (.call (.ref f) args) (CR CX0 outer P w H s Q E) s

theorem deeper_guards (A : Around) (env : Env) : (A.deeper env).guards = A.guards := rfl

section
variable {P : Program} {w : World} {K : PySem.W.Frag} {mg : Str → Option Value} {base : Heap}
/-- a def by its body, the body being told that no repr runs -/
theorem okG {nm qual : Str} {st : Stmt} {f : Addr} {fd : FuncData} {N ps : List Str} {k : Nat} {sp : Sp} (F : Fun K nm qual st f fd) (S : FnScope N ps (defScope st)) (len : ∀ vs H Q E, sp vs H Q E → vs.length = ps.length)
    (body : ∀ (cdv : Value) (A : Around) (outer : List Env) (s : Shared) (H : Hp) (vs : List V) (Q : VK) (E : XK), A.guards = some [] →
      Room k (A.deeper (envOfC qual (defScope st) s.heap.objs.size f cdv)) → sp vs H Q E →
      ∃ t, PSs (cxOf CX0 P w K mg base N qual (defScope st) f cdv A outer s H E).nox (defBody st) t ∧ t { nx := fun _ H' => Q .non H', rt := Q } (start N vs) H) :
    FnG P w K mg base (k + 1) f fd ps sp := by
  obtain ⟨oc, od, kV, doc, pm, an, cdv, ct, osl, rfl, lk, hcd⟩ := F.ex
  constructor
  · exact len
  intro A outer s H args us vs Q E hgd room en bnd vals hsp
  have nvs := len _ _ _ _ hsp
  have inK : K.In s.heap := en.mod.kin.keeps (fun b o z => (en.bs b o z).1)
  have noLim : s.heap.NoLimit := en.mod.nolimit.keeps (fun b o z => (en.bs b o z).1)
  have places : ∀ y ∈ ps.zip us, (defScope st).names.lookup y.1 = some .local ∨ ((defScope st).names.lookup y.1 = some .cell ∧ ((cellsFrom (s.heap.objs.size + 1) (defScope st).names []).lookup y.1).isSome = true) := by
    rintro ⟨n, v⟩ hy
    cases S.par n (List.of_mem_zip hy).1 with
    | inl l => exact Or.inl l
    | inr c => exact Or.inr ⟨c, PySem.W.cellsFrom_some _ _ _ (Or.inl c)⟩
  apply codeAny_call_function room.depth (inK _ _ lk) rfl S.co S.gen rfl (PySem.W.codeRec_of inK hcd)
  apply bnd
  apply wpAny_newFunctionEnv_cells S.kind places
  intro ev hev st1 ic
  subst hev
  refine ⟨noLim.keeps ic.toInCall.keep, ?_⟩
  apply codeAny_func
  obtain ⟨t, ht0, hq⟩ := body cdv A outer s H vs Q E hgd (room.deeper _) hsp
  have ht := ht0.nox
  have inv0 : Inv (cxOf CX0 P w K mg base N qual (defScope st) f cdv A outer s H E) [] (start N vs) H st1 := inv_start S room.hd en nvs vals ic
  have done : ∀ {σ' : L2.St} {H' : Hp} {v : V} {u : Value} {s' : Shared}, Inv (cxOf CX0 P w K mg base N qual (defScope st) f cdv A outer s H E) [] σ' H' s' → RelV v u → Q v H' → CE outer P w H s Q u s' := by
    intro σ' H' v u s' J rv q
    exact ⟨v, H', J.os, J.bare, J.base, J.hok, rv, q⟩
  refine wpAny_mono (ht.run [] st1 (start N vs) H _ inv0 hq) ?_ (fun e s' z => z)
  intro fl s' z
  cases fl with
  | next => obtain ⟨σ', H', J, q⟩ := z; exact done (v := V.non) (u := Value.none) J rfl q
  | ret u => obtain ⟨v, σ', H', J, rv, q⟩ := z; exact done J rv q
  | brk => obtain ⟨a1, a2, a3, q⟩ := z; exact q.elim
  | cont => obtain ⟨a1, a2, a3, q⟩ := z; exact q.elim
end

section
variable {X : Cx} {k : Nat} {f : Addr} {fd : FuncData} {ps : List Str} {sp : Sp} {x : Str} {p pos : Pos} {e : Expr} {es : List Expr} {t : TA}
theorem pe_callG (F : FnG X.prog X.w X.K X.mg X.base k f fd ps sp) (hgd : X.A.guards = some []) (hr : Room k X.A) (hg : Gl X x) (hm : X.mg x = some (.ref f)) (hk : PySem.W.keepIn X.K (.ref f) = true) (hb : Binds X.K fd ps [])
    (ha : PA X (e :: es) t) (hdb : (x == ("__debug__" : Str)) = false := by decide) (he : starEach (e :: es) X.env = (false, eval e X.env) :: starEach es X.env := by rfl) (hpl : (backTo pos (starEach es X.env)).any (·.1) = false := by rfl) :
    PE X (.Call (.Name x p) (e :: es) [] pos) (tCall sp [] E0 t) := by
  constructor
  intro pins s σ H Q I h
  apply wpAny_Call_Name_kw
  apply ld_glob I hg hm _ hdb
  refine PySem.W.callWith_K (h₀ := X.base) I.ok.mod.kin hk (thn (ha.run pos pins s σ H _ I h) ?_) he hpl
  rintro us s1 ⟨vs, H1, I1, rv, q⟩
  refine ⟨I1.kIn, ?_⟩
  rw [List.append_nil] at q
  have ln : us.length = ps.length := by rw [← rv.length]; exact F.len _ _ _ _ q
  have bd := hb s1 us I1.kIn (by rw [List.append_nil]; exact ln)
  rw [List.append_nil] at bd
  apply wpAny_call
  refine codeAny_mono (F.run X.A X.stack s1 H1 ⟨us, []⟩ us vs Q E0 hgd hr I1.env0 bd rv q) ?_
  intro r s' hq
  cases r with
  | error er => exact hq.elim
  | ok fl =>
    cases fl with
    | ret u => exact I1.after hq
    | next => exact hq.elim
    | brk => exact hq.elim
    | cont => exact hq.elim

/-- repr of data of any depth -/
def rRepD (K : PySem.W.Frag) : List V → Hp → VK → Prop := fun xs H Q => ∃ (a : Addr) (d : PyData), xs = [.ref a] ∧ Dp K H (.ref a) d ∧ d.showable = true ∧ d.hasDict = false ∧ d.depth ≤ 50 ∧ d.shown.length ≤ sizeLine ∧ Q (.str d.shown) H
theorem call_reprD (hgd : X.A.guards = some []) (hu : X.A.units + 64 < cLine) : CallR X (.builtin "repr") (rRepD X.K) := by
  intro pins s σ H xs us Q I r h
  obtain ⟨a, d, rfl, hd, hs, hn, hdp, hz, q⟩ := h
  obtain rfl : us = [Value.ref a] := Vals.ref1 r
  obtain ⟨as, rd⟩ := Dp.reads I d (.ref a) (.ref a) hd rfl
  refine repr_of_reads' (h₀ := s.heap) rd hs (PyData.noDict_hsm hn) hgd (by omega) (fun b o z => z) (fun h' u tk keep => ?_) hz
  have J : Inv X pins σ H { s with heap := h' } := I.kept keep
  exact ⟨.str d.shown, H, J.tok _, ⟨u, rfl⟩, q⟩
end

/-! ## the end: the law's def as the outermost call, no repr around it -/
theorem law_callG {P : Program} {w : World} {K : PySem.W.Frag} {mg mb : Str → Option Value} {k : Nat} {fa a : Addr} {fd : FuncData} {x : Str} {sp : Sp} {s1 : Shared} {vs : List Value} {ns : List Int}
    (inK : K.In s1.heap) (gn : s1.heap.Ns mainGlobals mg) (bn : s1.heap.Ns builtinsNs mb) (bb : ∀ y : Str, y ≠ "__name__" → mb y = bootBuiltins y) (noLim : s1.heap.NoLimit) (noGen : s1.gens = #[])
    (obj : s1.heap.get? a = some { cls := .type "list", data := .seq vs.toArray }) (hints : IntsAre vs ns) (short : ns.length ≤ sizeLine) (room : Room k callerA)
    (F : ∀ base : Heap, K.In base → base.Ns mainGlobals mg → FnG P w K mg base k fa fd [x] sp) (bind : ∀ (s : Shared) (u : Value), BindsTo s fd ⟨[u], []⟩ [(x, u)])
    (keeps : ∀ H : Hp, Only H → SqL K H a (ns.map V.int) → sp [.ref a] H (fun v _ => v = .bl true) fun _ _ _ => False) :
    codeAny (model P w) callerA (.call (.ref fa) ⟨[.ref a], []⟩) (fun r s' => r = .ok (.ret (.bool true)) ∧ OldK s1.heap s'.heap ∧ s'.os = s1.os ∧ AllBare s'.gens) s1 := by
  have rel := vals_ints hints
  have many := hints.length
  have main : ∀ H : Hp, Only H → SqL K H a (ns.map V.int) → HOk P w H s1.heap → (∀ b, H b ≠ none → b = a) → (H a ≠ none → K.lookup a = none) →
      codeAny (model P w) callerA (.call (.ref fa) ⟨[.ref a], []⟩) (fun r s' => r = .ok (.ret (.bool true)) ∧ OldK s1.heap s'.heap ∧ s'.os = s1.os ∧ AllBare s'.gens) s1 := by
    intro H only isl hok just noK
    have ofB : ∀ {b : Addr} {o : Obj}, s1.heap.get? b = some o → H b = none → (hidT s1.heap H).get? b = some o := fun z n => hidT_get z n
    have notA : ∀ {b : Addr} {o : Obj} {es : Array DictEntry} {ep : Nat}, s1.heap.get? b = some o → o.data = .dict es ep → H b = none := by
      intro b o es ep z d
      cases hb : H b with
      | none => rfl
      | some u =>
        obtain rfl : b = a := just b (by rw [hb]; simp)
        rw [obj] at z
        cases z
        exact absurd (show Data.seq vs.toArray _ = Data.dict es ep from d) (by intro y; cases y)
    have nsB : ∀ {b : Addr} {m : Str → Option Value}, s1.heap.Ns b m → (hidT s1.heap H).Ns b m := by
      rintro b m ⟨o, es, ep, z, d, r⟩
      exact ⟨o, es, ep, ofB z (notA z d), d, r⟩
    have inKb : K.In (hidT s1.heap H) := by
      intro b o z
      refine ofB (inK b o z) ?_
      cases hb : H b with
      | none => rfl
      | some u =>
        obtain rfl : b = a := just b (by rw [hb]; simp)
        rw [noK (by rw [hb]; simp)] at z
        cases z
    have md : Mod K mg (hidT s1.heap H) := by
      obtain ⟨mc, l1, l2⟩ := noLim
      exact ⟨inKb, nsB gn, ⟨mb, nsB bn, bb⟩, ⟨mc, nsB l1, l2⟩⟩
    have en : Env0 P w K mg (hidT s1.heap H) callerA [] s1 H := by
      refine ⟨rfl, md, fun b o z => of_hidT z, Nat.le_of_eq (hidT_size _ _), trivial, ?_, hok, .of_eq noGen⟩
      intro b hb
      exact absurd (show b ∈ ([] : List Addr) from hb) (by simp)
    refine codeAny_mono ((F _ inKb (nsB gn)).run callerA [] s1 H ⟨[.ref a], []⟩ [.ref a] [.ref a] _ _ rfl room en (bind s1 (.ref a)) (.cons rfl .nil) (keeps H only isl)) ?_
    intro r s' hr
    cases r with
    | error er => exact hr.elim
    | ok fl =>
      cases fl with
      | next => exact hr.elim
      | brk => exact hr.elim
      | cont => exact hr.elim
      | ret u =>
        obtain ⟨v, H', os, bare, un, hok', rv, q⟩ := hr
        obtain rfl : v = .bl true := q
        obtain rfl : u = Value.bool true := rv
        refine ⟨rfl, OldK.of_keep ?_, os, bare⟩
        intro b o z
        cases hb : H b with
        | none => exact un.keep b o z hb (fun y => absurd (show b ∈ ([] : List Addr) from y) (by simp)) (by simp)
        | some u =>
          rcases only b with n | ⟨ob, xs, y⟩
          · rw [hb] at n; cases n
          · obtain ⟨e1, _⟩ := hok b _ y
            obtain ⟨e2, _⟩ := hok' b _ (un.frzs b ob _ y)
            rw [z] at e1
            cases e1
            exact e2
  cases hk : K.lookup a with
  | some o =>
    have z := inK a o hk
    rw [obj] at z
    cases z
    exact main (fun _ => none) (fun _ => .inl rfl) (.inr ⟨_, vs.toArray, _, hk, rfl, rfl, rfl, by rw [List.size_toArray, many]; exact short, by simpa using rel⟩) (fun b u y => nomatch (show (none : Option HO) = some u from y)) (fun b y => absurd rfl y) (fun y => absurd rfl y)
  | none =>
    refine main (fun b => if b = a then some (.frz { cls := .type "list", data := .seq vs.toArray } (.lst (ns.map V.int))) else none) ?_ (.inl (.inr ⟨{ cls := .type "list", data := .seq vs.toArray }, if_pos rfl⟩)) ?_ ?_ (fun _ => hk)
    · intro b
      by_cases q : b = a
      · exact Or.inr ⟨_, _, if_pos q⟩
      · exact Or.inl (if_neg q)
    · intro b u y
      by_cases q : b = a
      · subst q
        have y1 := (if_pos rfl).symm.trans y
        cases y1
        exact ⟨obj, by rw [List.length_map]; exact short, vs, _, rel, obj⟩
      · have y1 := (if_neg q).symm.trans y
        cases y1
    · intro b y
      by_cases q : b = a
      · exact q
      · exact absurd (if_neg q) y

theorem walkG {l : PySem.W.OpenLaw} {n k : Nat} {q : Program} {loose : List Str} {XP : (Str → Option Value) → Heap → Prop} {YP : World → Heap → Prop} {d : DefRec} {K : Params → PySem.W.Frag} {sp : World → Sp} {x : Str}
    (hn : l.most = some n) (hn2 : n ≤ sizeLine) (hdf : d.params.defaults = []) (room : Room k callerA) (inK : ∀ (w : World) (h : Heap), YP w h → (K w.params).In h)
    (F : ∀ (w : World) (mg : Str → Option Value) (fa : Addr) (h : Heap), (K w.params).In h → h.Ns mainGlobals mg → mg d.name = some (.ref fa) →
      ∃ fd : FuncData, (∀ (s : Shared) (u : Value), BindsTo s fd ⟨[u], []⟩ [(x, u)]) ∧ ∀ base : Heap, (K w.params).In base → base.Ns mainGlobals mg → FnG l.prog w (K w.params) mg base k fa fd [x] (sp w))
    (keeps : ∀ (w : World) (H : Hp) (a : Addr) (ns : List Int), ns.length ≤ n → (∀ z ∈ ns, Builtin.Int.intBits z ≤ 1048576) → Only H → SqL (K w.params) H a (ns.map V.int) → sp w [.ref a] H (fun v _ => v = .bl true) fun _ _ _ => False) :
    PySem.W.WalkO q loose XP YP l.row.toRowW d [] (fun f vs => PySem.call f vs) := by
  refine Att.attach_callB hn hdf ?_
  intro w s0 s1 mg mb fa o pm cd doc a vs ns G Y ho hd hcd hmg hobj hints hlen hbits hg
  obtain ⟨fd, hb, hF⟩ := F w mg fa _ (inK w _ Y) G.T.g hmg
  exact law_callG (inK w _ Y) G.T.g G.T.b G.T.builtins G.T.nolimit hg hobj hints (Nat.le_trans hlen hn2) room hF hb (fun H hO hS => keeps w H a ns hlen hbits hO hS)
end Tk

namespace Tk
open PySem PySem.Spec PyProof.Rows L2

theorem same_rd {H H' : Hp} {a : Addr} {u : HO} (e : Same H H') (h : Rd H a u) : Rd H' a u := by
  rcases h with h | ⟨o, h⟩
  · exact Or.inl (e a _ h)
  · exact Or.inr ⟨o, e a _ h⟩
theorem same_l {K : PySem.W.Frag} {H H' : Hp} {a : Addr} {xs : List V} (e : Same H H') (h : SqL K H a xs) : SqL K H' a xs := by
  rcases h with h | h
  · exact Or.inl (same_rd e h)
  · exact Or.inr h
theorem same_t {K : PySem.W.Frag} {H H' : Hp} {a : Addr} {xs : List V} (e : Same H H') (h : SqT K H a xs) : SqT K H' a xs := by
  rcases h with h | h
  · exact Or.inl (same_rd e h)
  · exact Or.inr h
theorem same_new {H : Hp} {p : Addr} {o : HO} (h : H p = none) : Same H (upd H p o) := by
  intro a u e
  rw [upd_ne (ne_of_none e h)]
  exact e
/-- what is new in a later heap may change -/
theorem same_mut {H H' : Hp} {p : Addr} {o : HO} (e : Same H H') (h : H p = none) : Same H (upd H' p o) := by
  intro a u ha
  rw [upd_ne (ne_of_none ha h)]
  exact e a u ha
theorem sl_of {K : PySem.W.Frag} {H : Hp} {a : Addr} {xs : List V} (h : H a = some (.lst xs)) : SqL K H a xs := Or.inl (Or.inl h)
theorem st_of {K : PySem.W.Frag} {H : Hp} {a : Addr} {xs : List V} (h : H a = some (.tup xs)) : SqT K H a xs := Or.inl (Or.inl h)
theorem szle {n : Nat} (h : n ≤ 100000) : n ≤ sizeLine := Nat.le_trans h (by decide)
theorem szlt {n : Nat} (h : n < 100000) : n < sizeLine := Nat.lt_of_lt_of_le h (by decide)

mutual
theorem dp_same {K : PySem.W.Frag} {H H' : Hp} (e : Same H H') : ∀ (d : PyData) (v : V), Dp K H v d → Dp K H' v d
  | .none, _, h => by cases h; exact .non
  | .bool b, _, h => by cases h; exact .bl b
  | .int i, _, h => by cases h; exact .int i
  | .str x, _, h => by cases h; exact .str x
  | .list ds, _, h => by
    cases h with
    | lst h1 h2 => exact .lst (same_l e h1) (dps_same e ds _ h2)
  | .tuple ds, _, h => by
    cases h with
    | tup h1 h2 => exact .tup (same_t e h1) (dps_same e ds _ h2)
  | .dict _, _, h => by cases h
theorem dps_same {K : PySem.W.Frag} {H H' : Hp} (e : Same H H') : ∀ (ds : List PyData) (vs : List V), DpAll K H vs ds → DpAll K H' vs ds
  | [], _, h => by cases h; exact .nil
  | d :: ds, _, h => by
    cases h with
    | cons h1 h2 => exact .cons (dp_same e d _ h1) (dps_same e ds _ h2)
end
theorem dp_s {K : PySem.W.Frag} {H H' : Hp} {d : PyData} {v : V} (h : Dp K H v d) (e : Same H H') : Dp K H' v d := dp_same e d v h
theorem dps_s {K : PySem.W.Frag} {H H' : Hp} {ds : List PyData} {vs : List V} (h : DpAll K H vs ds) (e : Same H H') : DpAll K H' vs ds := dps_same e ds vs h
theorem dps_len {K : PySem.W.Frag} {H : Hp} : ∀ {ds : List PyData} {vs : List V}, DpAll K H vs ds → vs.length = ds.length
  | [], _, h => by cases h; rfl
  | d :: ds, _, h => by
    cases h with
    | cons h1 h2 => simp [dps_len h2]
theorem dps_at {K : PySem.W.Frag} {H : Hp} : ∀ {ds : List PyData} {vs : List V}, DpAll K H vs ds → ∀ (i : Nat) (x : V), vs[i]? = some x → ∃ d, ds[i]? = some d ∧ Dp K H x d
  | [], _, h, i, x, hx => by cases h; simp at hx
  | d :: ds, _, h, i, x, hx => by
    cases h with
    | cons h1 h2 =>
      cases i with
      | zero => simp at hx; subst hx; exact ⟨d, by simp, h1⟩
      | succ i => simp at hx; simpa using dps_at h2 i x hx
theorem dps_app {K : PySem.W.Frag} {H : Hp} : ∀ {ds es : List PyData} {vs ws : List V}, DpAll K H vs ds → DpAll K H ws es → DpAll K H (vs ++ ws) (ds ++ es)
  | [], _, _, _, h, h' => by cases h; exact h'
  | d :: ds, _, _, _, h, h' => by
    cases h with
    | cons h1 h2 => exact .cons h1 (dps_app h2 h')
theorem dps_ints {K : PySem.W.Frag} {H : Hp} : ∀ (ns : List Int), DpAll K H (ns.map V.int) (ns.map PyData.int)
  | [] => .nil
  | n :: ns => .cons (.int n) (dps_ints ns)
theorem ints_dps {K : PySem.W.Frag} {H : Hp} : ∀ {ns : List Int} {vs : List V}, DpAll K H vs (ns.map PyData.int) → vs = ns.map V.int
  | [], _, h => by cases h; rfl
  | n :: ns, _, h => by
    cases h with
    | cons h1 h2 => cases h1; rw [ints_dps h2]; rfl
theorem dps_bls {K : PySem.W.Frag} {H : Hp} : ∀ (bs : List Bool), DpAll K H (bs.map V.bl) (bs.map PyData.bool)
  | [] => .nil
  | n :: ns => .cons (.bl n) (dps_bls ns)

/-- a pair of ints, as data -/
def dP (p : Int × Int) : PyData := .tuple [.int p.1, .int p.2]
/-- v is a list of pairs -/
abbrev PL (K : PySem.W.Frag) (H : Hp) (a : Addr) (ps : List (Int × Int)) : Prop := ∃ xs, SqL K H a xs ∧ DpAll K H xs (ps.map dP)
/-- v is a list of ints -/
abbrev IL (K : PySem.W.Frag) (H : Hp) (a : Addr) (ns : List Int) : Prop := SqL K H a (ns.map V.int)
theorem pl_s {K : PySem.W.Frag} {H H' : Hp} {a : Addr} {ps : List (Int × Int)} (h : PL K H a ps) (e : Same H H') : PL K H' a ps :=
  let ⟨xs, h1, h2⟩ := h; ⟨xs, same_l e h1, dps_s h2 e⟩
theorem dP_inv {K : PySem.W.Frag} {H : Hp} {v : V} {p : Int × Int} (h : Dp K H v (dP p)) : ∃ t, v = .ref t ∧ SqT K H t [.int p.1, .int p.2] := by
  unfold dP at h
  cases h with
  | @tup a xs _ h1 h2 =>
    cases h2 with
    | cons a1 a2 =>
      cases a1
      cases a2 with
      | cons b1 b2 =>
        cases b1
        cases b2
        exact ⟨a, rfl, h1⟩
theorem dP_mk {K : PySem.W.Frag} {H : Hp} {t : Addr} {i j : Int} (h : SqT K H t [.int i, .int j]) : Dp K H (.ref t) (dP (i, j)) := .tup h (.cons (.int i) (.cons (.int j) .nil))
theorem pl_at {K : PySem.W.Frag} {H : Hp} {xs : List V} {ps : List (Int × Int)} (h : DpAll K H xs (ps.map dP)) {i : Nat} {x : V} (hx : xs[i]? = some x) :
    ∃ p t, ps[i]? = some p ∧ x = .ref t ∧ SqT K H t [.int p.1, .int p.2] := by
  obtain ⟨d, hd, hp⟩ := dps_at h i x hx
  rw [List.getElem?_map] at hd
  cases e : ps[i]? with
  | none => rw [e] at hd; cases hd
  | some p =>
    rw [e] at hd
    cases hd
    obtain ⟨t, rfl, ht⟩ := dP_inv hp
    exact ⟨p, t, rfl, rfl, ht⟩
theorem int_at {ns : List Int} {i : Nat} {x : V} (h : (ns.map V.int)[i]? = some x) : ∃ n, ns[i]? = some n ∧ x = .int n := by
  rw [List.getElem?_map] at h
  cases e : ns[i]? with
  | none => rw [e] at h; cases h
  | some n => rw [e] at h; cases h; exact ⟨n, rfl, rfl⟩
theorem lt_of_at {α : Type} {l : List α} {i : Nat} {x : α} (h : l[i]? = some x) : i < l.length := (List.getElem?_eq_some_iff.mp h).1
theorem take_at {α : Type} {l : List α} {i : Nat} {x : α} (h : l[i]? = some x) : l.take (i + 1) = l.take i ++ [x] := by
  rw [List.take_add_one, h]; rfl

/-- a comprehension's list behind one more item -/
theorem lc_put {H1 H4 : Hp} {D : Addr} {acc : List V} {y : V} {Pv : Hp → Prop} (h : H4 D = some (.lst acc)) (hl : acc.length < 100000) (q : Pv (upd H4 D (.lst (acc ++ [y])))) :
    ∃ acc', H4 D = some (.lst acc') ∧ acc'.length < sizeLine ∧ Pv (upd H4 D (.lst (acc' ++ [y]))) := ⟨acc, h, szlt hl, q⟩

theorem tyx_t {K : PySem.W.Frag} {H : Hp} {a : Addr} {xs : List V} (h : SqT K H a xs) : TyX K H (.ref a) (.type "tuple") := by
  rcases h with (h | ⟨o, h⟩) | ⟨o, its, n, h1, h2, _⟩
  · exact .base (.tup h)
  · exact .fTuple h
  · exact .kTuple h1 h2
theorem tyx_l {K : PySem.W.Frag} {H : Hp} {a : Addr} {xs : List V} (h : SqL K H a xs) : TyX K H (.ref a) (.type "list") := by
  rcases h with (h | ⟨o, h⟩) | ⟨o, its, n, h1, h2, _⟩
  · exact .base (.lst h)
  · exact .base (.frz h)
  · exact .kList h1 h2
theorem kit_lt {K : PySem.W.Frag} : PySem.W.kitAny K (.type "list") [.type "list", .type "tuple"] = some true := by
  refine kitAny_cons (b := true) (kit_ty (by decide +kernel)) (fun z => nomatch z) (fun _ => rfl)
/-- what stands of a comprehension over a heap H1 whose list D holds acc -/
def LcP (H1 : Hp) (D : Addr) (out : Nat → List V) (i : Nat) (H : Hp) : Prop := Same H1 H ∧ H D = some (.lst (out i))
theorem lcp_0 {H1 : Hp} {D : Addr} {out : Nat → List V} (hD : H1 D = none) (h0 : out 0 = []) : LcP H1 D out 0 (upd H1 D (.lst [])) := ⟨same_new hD, by rw [upd_same, h0]⟩
/-- one more item -/
theorem lcp_put {H1 H4 : Hp} {D : Addr} {out : Nat → List V} {i : Nat} {y : V} (hD : H1 D = none) (h : LcP H1 D out i H4) (ho : out (i + 1) = out i ++ [y]) (hl : (out i).length < 100000) :
    ∃ acc, H4 D = some (.lst acc) ∧ acc.length < sizeLine ∧ LcP H1 D out (i + 1) (upd H4 D (.lst (acc ++ [y]))) :=
  ⟨out i, h.2, szlt hl, same_mut h.1 hD, by rw [upd_same, ho]⟩
theorem lcp_no {H1 H4 : Hp} {D : Addr} {out : Nat → List V} {i : Nat} (h : LcP H1 D out i H4) (ho : out (i + 1) = out i) : LcP H1 D out (i + 1) H4 := ⟨h.1, by rw [h.2, ho]⟩
theorem lcp_s {H1 H2 H4 : Hp} {D : Addr} {out : Nat → List V} {i : Nat} (h : LcP H1 D out i H2) (e : Same H2 H4) : LcP H1 D out i H4 := ⟨h.1.trans e, e _ _ h.2⟩

section
variable {X : Cx}
/-- len of a set of tuples -/
theorem call_lenSetT : CallR X (.builtin "len") (fun xs H Q => ∃ a L, xs = [.ref a] ∧ H a = some (SetTO X.prog X.w a L) ∧ (∀ p ∈ L, SqT X.K H p.1 (p.2.map V.int)) ∧ ((L.map (·.2)).Nodup → Q (.int L.length) H)) := by
  intro pins s σ H xs us Q I r h
  obtain ⟨a, L, rfl, ha, ht, q⟩ := h
  rw [Vals.ref1 r]
  have R0 : SetT0 X.prog X.w s.heap a L := (I.hok a _ ha).1
  obtain ⟨es, ep, t, R⟩ := R0.full fun p hp => I.isT (ht p hp)
  obtain ⟨o, ho, hex, hd⟩ := R.ob
  have hs := R.size
  have hf := R.few
  refine call_len_set ho hex hd R.fits (by omega) ⟨.int L.length, H, (I.tok _), ⟨_, by rw [hs]⟩, q R.nd⟩

variable {k n : Nat} {f : Addr} {fd : FuncData} {ps ks : List Str} {sp : Sp} {x : Str} {p pos : Pos} {kws : List Keyword} {tk : TA} {g : List Value → List Value → List Value} {gV : List V → List V → List V} {CX : CXT} {E : XK}
end
end Tk

namespace Tk
open PySem PySem.Spec PyProof.Rows L2
/-! ## lists and tuples alike -/
abbrev SqA (K : PySem.W.Frag) (H : Hp) (a : Addr) (xs : List V) : Prop := SqL K H a xs ∨ SqT K H a xs
theorem same_a {K : PySem.W.Frag} {H H' : Hp} {a : Addr} {xs : List V} (e : Same H H') (h : SqA K H a xs) : SqA K H' a xs := h.elim (fun h => .inl (same_l e h)) (fun h => .inr (same_t e h))
/-- a sequence of pairs -/
abbrev PA2 (K : PySem.W.Frag) (H : Hp) (a : Addr) (ps : List (Int × Int)) : Prop := ∃ xs, SqA K H a xs ∧ DpAll K H xs (ps.map dP)
theorem pa2_s {K : PySem.W.Frag} {H H' : Hp} {a : Addr} {ps : List (Int × Int)} (h : PA2 K H a ps) (e : Same H H') : PA2 K H' a ps :=
  let ⟨xs, h1, h2⟩ := h; ⟨xs, same_a e h1, dps_s h2 e⟩
theorem pl_pa2 {K : PySem.W.Frag} {H : Hp} {a : Addr} {ps : List (Int × Int)} (h : PL K H a ps) : PA2 K H a ps := let ⟨xs, h1, h2⟩ := h; ⟨xs, .inl h1, h2⟩
/-- it walks the sequence at a -/
def IsSq (K : PySem.W.Frag) (H : Hp) (a : Addr) (xs : List V) (it : It) : Prop := (it = Itl K a ∧ SqL K H a xs) ∨ (it = Itt K a ∧ SqT K H a xs)
def iSq (K : PySem.W.Frag) (tl : TE) : TI := fun σ H R => tl σ H fun x H1 => ∃ a xs, x = .ref a ∧ SqA K H1 a xs ∧ ∀ it, IsSq K H1 a xs it → R it H1
section
variable {X : Cx} {tg : Expr}
theorem pi_sq {l : Expr} {tl : TE} (hl : PE X l tl) : PI X tg l (iSq X.K tl) := by
  constructor
  intro pins s σ H R I h
  refine thn (hl.run pins s σ H _ I h) ?_
  rintro v s1 ⟨x, H1, J, rv, a, xs, rfl, hc, q⟩
  cases rv
  have own : ∀ b ∈ [s1.heap.objs.size], FpOk X pins H1 b := fun b hb => by
    rw [List.mem_singleton.mp hb]
    exact J.fpOk (Nat.le_refl _) (J.hok.fresh (Nat.le_refl _))
  rcases hc with hq | hq
  · obtain ⟨its, _, pl, _⟩ := J.list hq
    exact wpAny_pyIter_list pl.isList ⟨_, _, _, _, _, rfl, J.kept (t' := s1.toks) (fun b o e => Heap.get?_push_of_some _ e), turn_list a _, ⟨_, Heap.get?_push_size _ rfl, rfl, rfl⟩, own, q _ (.inl ⟨rfl, hq⟩)⟩
  · obtain ⟨its, _, pt, _⟩ := J.tuple hq
    exact wpAny_pyIter_tuple (show s1.heap.IsTuple a its.toArray from pt) ⟨_, _, _, _, _, rfl, J.kept (t' := s1.toks) (fun b o e => Heap.get?_push_of_some _ e), turn_tuple a _, ⟨_, Heap.get?_push_size _ rfl, rfl, rfl⟩, own, q _ (.inr ⟨rfl, hq⟩)⟩
/-- either of two rules for a call -/
theorem cr_or {f : Value} {r1 r2 : List V → Hp → VK → Prop} (c1 : CallR X f r1) (c2 : CallR X f r2) : CallR X f (fun xs H Q => r1 xs H Q ∨ r2 xs H Q) :=
  fun pins s σ H xs us Q I r h => h.elim (c1 pins s σ H xs us Q I r) (c2 pins s σ H xs us Q I r)
end
theorem lc_sq {K : PySem.W.Frag} {a : Addr} {xs : List V} {it : It} {H0 : Hp} {g : TG} {tt : TT} {te : TE} {vs : List Nat} {σ : L2.St} {H1 : Hp} {D : Addr} {Qd : Hp → Prop} (hit : IsSq K H0 a xs it) (Pv : Nat → Hp → Prop) (h0 : Pv 0 (upd H1 D (.lst [])))
    (hl : ∀ i H, i ≤ xs.length → Pv i H → Same H0 H)
    (hs : ∀ i x H, xs[i]? = some x → Pv i H → g x (wipe σ vs) H fun σ2 H2 => wipe σ2 vs = wipe σ vs ∧ tt σ2 H2 fun b H3 =>
      if b = true then te σ2 H3 fun y H4 => ∃ acc, H4 D = some (.lst acc) ∧ acc.length < sizeLine ∧ Pv (i + 1) (upd H4 D (.lst (acc ++ [y]))) else Pv (i + 1) H3)
    (hd : ∀ H, Pv xs.length H → Qd H) :
    ∃ W : Nat → Nat → Hp → Prop, (∃ m, W 0 m (upd H1 D (.lst []))) ∧ ∀ i m H, W i m H →
      (it.stop i H ∧ Qd H) ∨ (it.go i H ∧ ∃ Nx : Hp → Prop, (∀ H', Nx H' → ∃ m', m' < m ∧ W (i + 1) m' H') ∧ ∀ x H', it.yld i H x H' → g x (wipe σ vs) H' fun σ2 H2 => wipe σ2 vs = wipe σ vs ∧ tt σ2 H2 fun b H3 =>
        if b = true then te σ2 H3 fun y H4 => ∃ acc, H4 D = some (.lst acc) ∧ acc.length < sizeLine ∧ Nx (upd H4 D (.lst (acc ++ [y]))) else Nx H3) := by
  rcases hit with ⟨rfl, h⟩ | ⟨rfl, h⟩
  · exact lc_list Pv h0 (fun i H hi p => same_l (hl i H hi p) h) hs hd
  · exact lc_tup Pv h0 (fun i H hi p => same_t (hl i H hi p) h) hs hd
theorem for_sq {K : PySem.W.Frag} {a : Addr} {xs : List V} {it : It} {H0 : Hp} {g : TG} {tb : TS} {D : Ends} {σ : L2.St} {H : Hp} (hit : IsSq K H0 a xs it) (Pv : Nat → L2.St → Hp → Prop) (h0 : Pv 0 σ H) (hl : ∀ i σ H, i ≤ xs.length → Pv i σ H → Same H0 H)
    (hs : ∀ i x σ H, xs[i]? = some x → Pv i σ H → g x σ H fun σ2 H2 => tb { nx := Pv (i + 1), rt := D.rt, bk := D.nx, ct := Pv (i + 1) } σ2 H2) (hd : ∀ σ H, Pv xs.length σ H → D.nx σ H) :
    ∃ W : Nat → Nat → L2.St → Hp → Prop, (∃ m, W 0 m σ H) ∧ ∀ i m σ H, W i m σ H →
      (it.stop i H ∧ D.nx σ H) ∨ (it.go i H ∧ ∃ N : L2.St → Hp → Prop, (∀ σ' H', N σ' H' → ∃ m', m' < m ∧ W (i + 1) m' σ' H') ∧ ∀ x H', it.yld i H x H' → g x σ H' fun σ2 H2 => tb { nx := N, rt := D.rt, bk := D.nx, ct := N } σ2 H2) := by
  rcases hit with ⟨rfl, h⟩ | ⟨rfl, h⟩
  · exact for_list Pv h0 (fun i σ H hi p => same_l (hl i σ H hi p) h) hs hd
  · exact for_tup Pv h0 (fun i σ H hi p => same_t (hl i σ H hi p) h) hs hd
end Tk
/-! ## how many unlike ints -/
namespace Tk
theorem dup_erase {α : Type} [DecidableEq α] : ∀ {l : List α}, ¬ l.Nodup → ∃ x ∈ l, ∀ y ∈ l, y ∈ l.erase x
  | [], h => absurd List.nodup_nil h
  | a :: l, h => by
    by_cases c : a ∈ l
    · refine ⟨a, List.mem_cons_self .., fun y hy => ?_⟩
      rw [List.erase_cons_head]
      rcases List.mem_cons.mp hy with e | e
      · exact e ▸ c
      · exact e
    · have hl : ¬ l.Nodup := fun n => h (List.nodup_cons.mpr ⟨c, n⟩)
      obtain ⟨x, hx, hy⟩ := dup_erase hl
      have ne : ¬ a = x := fun e => c (e ▸ hx)
      refine ⟨x, List.mem_cons_of_mem _ hx, fun y m => ?_⟩
      rw [List.erase_cons_tail (by simpa using ne)]
      rcases List.mem_cons.mp m with e | e
      · exact e ▸ List.mem_cons_self ..
      · exact List.mem_cons_of_mem _ (hy y e)
end Tk

namespace Tk
open PySem PySem.Spec PyProof.Rows L2
/-! ## set(t), t a tuple of tuples of ints -/
def oSet (w : World) : Obj := { cls := .type "set", dict := none, data := .set #[] 0 (.fresh 0 0 (!w.params.followText "set-order")) }
section
variable {P : Program} {w : World} {A : Around} {E : Value → Shared → Prop} {s : Shared}
theorem two_new {h : Heap} {l : Addr} (z : l < h.objs.size) (o : Obj) : l ≠ (h.push o).objs.size ∧ h.objs.size ∉ [(h.push o).objs.size, l] := by
  rw [Heap.size_push]
  refine ⟨Nat.ne_of_lt (Nat.lt_succ_of_lt z), ?_⟩
  simp only [List.mem_cons, List.not_mem_nil, or_false]
  rintro (e | e)
  · exact absurd e (Nat.ne_of_lt (Nat.lt_succ_self _))
  · exact absurd e.symm (Nat.ne_of_lt z)
set_option maxHeartbeats 8000000 in
theorem wp_setTT {l : Addr} {us : Array Value} {ks : List (Addr × List Int)} {Q : Value → Shared → Prop} (calm : A.handled = none) (ht : s.heap.IsTuple l us) (eu : us.toList = ks.map fun p => Value.ref p.1)
    (each : ∀ p ∈ ks, IsT P w s.heap p.2 p.1) (few : ks.length < 64) (room : A.units + 3 < cLine)
    (fin : ∀ (h' : Heap) (tk : Nat) L es ep t, SetTR P w h' s.heap.objs.size L es ep t → Got ks ks.length L → (∀ b o, s.heap.get? b = some o → h'.get? b = some o) → Q (.ref s.heap.objs.size) { s with heap := h', toks := tk }) :
    wpAny (model P w) A (call (.type "set") [.ref l]) Q E s := by
  have many : us.size = ks.length := by
    rw [← Array.length_toList, eu, List.length_map]
  obtain ⟨m1, m2, mro1⟩ := F.called_set.mro
  have made1 := F.called_set.made
  have sub1 := F.called_set.sub
  apply wpAny_call
  apply codeAny_of_tree
  show wpAny (model P w) _ (callAny (.type "set") _) _ E s
  apply wpAny_pure
  refine ⟨Code.quiet_builtin _ (by decide +kernel), ?_⟩
  apply codeAny_builtin F.entry_type_call
  rw [Around.under_plain (weight_type_call_type "set" [Value.ref l] []) (by rfl)]
  have no1 := F.called_set.notType
  have can1 := F.called_set.canCreate
  have tc1 := F.typeCall_set_1 (Value.ref l)
  repeat any_goals (first | assumption | wp_step)
  refine codeAny_mono (code_set_led1 (Value.ref l) (E := E) (Q₁ := fun x z => x = Value.ref s.heap.objs.size ∧ z = { s with heap := s.heap.push (oSet w) }) ⟨rfl, rfl⟩) ?_
  intro res z hz
  cases res with
  | error e => exact hz
  | ok fl =>
  cases fl with
  | next => exact hz.elim
  | brk => exact hz.elim
  | cont => exact hz.elim
  | ret x =>
  obtain ⟨rfl, rfl⟩ := hz
  have atS : (s.heap.push (oSet w)).get? s.heap.objs.size = some (oSet w) := Heap.get?_push_size _ rfl
  have isS : Shared.TypeIs { s with heap := s.heap.push (oSet w) } (Value.ref s.heap.objs.size) "set" := ⟨_, atS, rfl⟩
  have look1 := F.called_set.init.lookup
  have bind1 := F.called_set.init.bind (Value.ref s.heap.objs.size)
  repeat any_goals (first | assumption | wp_step)
  refine codeAny_mono (codeAny_call_builtin (R := wants (fun r z => r = Value.none ∧ ∃ h' tk L es ep t, z = { s with heap := h', toks := tk } ∧ SetTR P w h' s.heap.objs.size L es ep t ∧ Got ks ks.length L ∧
      (∀ b o, s.heap.get? b = some o → h'.get? b = some o)) E) F.called_set.init.plain F.entry_set_init (check_set_init_1 isS ?_)) ?_
  · obtain ⟨⟨oc, od, odat, osl⟩, atL, ec, nl, ed⟩ := ht
    simp only at ec ed
    subst ec ed
    have atL1 : (s.heap.push (oSet w)).get? l = some { cls := .type "tuple", dict := od, data := .seq us nl, slots := osl } := Heap.get?_push_of_some _ atL
    have y1 := F.sub_tuple_set
    have y2 := F.sub_tuple_frozenset
    have y3 : (Value.type "tuple" == Value.type "dict") = false := by decide
    have isT1 : (s.heap.push (oSet w)).IsTuple l us := ⟨_, atL1, rfl, nl, rfl⟩
    unfold Builtin.«set.__init__» noKeywords Builtin.Frozenset.updateFrom
    generalize hIt : pyIter = IT
    wp_walk
    subst hIt
    apply wpAny_pyIter_tuple isT1
    apply wpAny_bind
    apply wpAny_runValue
    obtain ⟨ne1, ne2⟩ := two_new (Heap.lt_size atL) (oSet w)
    have free : ∀ b, s.heap.objs.size ≤ b → s.heap.get? b = none := by
      intro b hb
      cases q : s.heap.get? b with
      | none => rfl
      | some o => exact absurd (Heap.lt_size q) (Nat.not_lt.mpr hb)
    have item : ∀ (i : Nat) (v : Value), us[i]? = some v → ∃ p, ks[i]? = some p ∧ v = Value.ref p.1 := by
      intro i v hv
      rw [← Array.getElem?_toList, eu, List.getElem?_map] at hv
      cases hq : ks[i]? with
      | none => rw [hq] at hv; cases hv
      | some p => rw [hq] at hv; exact ⟨p, rfl, (Option.some.inj hv).symm⟩
    have at2 : ((s.heap.push (oSet w)).push { cls := .type "tuple_iterator", data := .fields #[.ref l, .int 0 0] }).get? s.heap.objs.size = some (oSet w) := Heap.get?_push_of_some _ atS
    refine set_update_tups ((Walks.tuple (by simp [calm]) _ l ne1 us).toS) s.heap.objs.size ne2 ks many few item s.heap each (free _ (Nat.le_refl _)) ?_ room (us.size - 0) 0 _ (by omega) (Nat.zero_le _)
      ⟨⟨_, Heap.get?_push_size _ rfl, rfl, rfl⟩, isT1.push _⟩ (fun b o e => Heap.get?_push_of_some _ (Heap.get?_push_of_some _ e)) ⟨[], #[], 0, _, setTR_fresh at2, Got.zero ks⟩ ?_
    · intro b hb
      refine free b ?_
      rw [List.mem_singleton.mp hb, Heap.size_push]
      omega
    · rintro ⟨h', g', d', tk', os'⟩ L es ep t mv R1 got kp
      obtain rfl : g' = s.gens := mv.gens
      obtain rfl : d' = s.drawn := mv.drawn
      obtain rfl : os' = s.os := mv.os
      show wpAny _ _ _ _ _ _
      apply wpAny_pure
      show wpAny _ _ (ret Value.none) _ _ _
      rw [many] at got
      exact wpAny_pure ⟨rfl, h', tk', L, es, ep, t, rfl, R1, got, kp⟩
  · intro r2 z2 hz2
    cases r2 with
    | error e => exact hz2
    | ok f2 =>
    cases f2 with
    | next => exact hz2.elim
    | brk => exact hz2.elim
    | cont => exact hz2.elim
    | ret v =>
    obtain ⟨rfl, h', tk, L, es, ep, t, rfl, R1, got, kp⟩ := hz2
    repeat any_goals (first | assumption | wp_step)
    exact fin _ _ _ _ _ _ R1 got kp
end
section
variable {X : Cx}
def rSetTT (K : PySem.W.Frag) (P : Program) (w : World) : List V → Hp → VK → Prop := fun xs H Q => ∃ (l : Addr) (ks : List (Addr × List Int)), xs = [V.ref l] ∧ SqT K H l (ks.map fun p => V.ref p.1) ∧ (∀ p ∈ ks, SqT K H p.1 (p.2.map V.int)) ∧ ks.length < 64 ∧
  ∀ a L, H a = none → (∀ p ∈ L, p ∈ ks) → (∀ p ∈ ks, p.2 ∈ L.map (·.2)) → Q (.ref a) (upd H a (SetTO P w a L))
theorem cr_setTT (hc : X.calm = true) (hu : X.A.units + 64 < cLine) : CallR X (.type "set") (rSetTT X.K X.prog X.w) := by
  rintro pins s σ H xs us Q I r ⟨l, ks, rfl, hl, hk, hf, q⟩
  rw [Vals.ref1 r]
  obtain ⟨its, rv, pt, _⟩ := I.tuple hl
  refine wp_setTT (P := X.prog) (w := X.w) (I.ok.hd hc) (show s.heap.IsTuple l its.toArray from pt) (by simpa using refs_of_vals rv) (fun p hp => I.isT (hk p hp)) hf (by omega) ?_
  intro h' tk L es ep t R g k
  refine ⟨.ref s.heap.objs.size, _, I.laid (t' := tk) k (Nat.le_refl _) (setTO_new R.t0), rfl, q _ L (I.hok.fresh (Nat.le_refl _)) (fun p hp => List.mem_of_mem_take (g.sub p hp)) fun p hp => g.all p ?_⟩
  rw [List.take_length]
  exact hp
/-! ## set(xs) of ints, and how many -/
def SetN (a : Addr) (n : Nat) : HO := .ext fun h => ∃ o es ep t, h.get? a = some o ∧ o.ExactSet ∧ o.data = .set es ep t ∧ t.fits es.size = true ∧ es.size = n ∧ n < 1000
theorem setN_new {w : World} {P : Program} {H : Hp} {h : Heap} {a : Addr} {n : Nat} {o : Obj} {es : Array (Int × Value)} {ep : Nat} {t : SetTable} (ho : h.get? a = some o) (hx : o.ExactSet) (hd : o.data = .set es ep t) (hf : t.fits es.size = true) (hn : es.size = n) (n1 : n < 1000) : ObjOk P w H h a (SetN a n) :=
  ⟨⟨o, es, ep, t, ho, hx, hd, hf, hn, n1⟩, ⟨o, ho⟩, fun h1 h2 ⟨o, es, ep, t, ho, r⟩ k => ⟨o, es, ep, t, k o ho, r⟩⟩
theorem firstMet_nd (f : Nat → Int) : ∀ i, (firstMet f i).Nodup
  | 0 => by rw [firstMet_zero]; exact List.nodup_nil
  | i + 1 => by
    rw [firstMet_succ]
    unfold step_dedup
    split
    · exact firstMet_nd f i
    · next c =>
      rw [List.nodup_append]
      refine ⟨firstMet_nd f i, by simp, fun a ha b hb e => c ?_⟩
      rw [List.mem_singleton.mp hb] at e
      exact List.any_eq_true.mpr ⟨a, ha, by rw [e]; exact beq_self_eq_true _⟩
theorem firstMet_mem (ns : List Int) (k : Int) : k ∈ firstMet (fun i => ns.getD i 0) ns.length ↔ k ∈ ns := by
  have a := firstMet_any (fun i => ns.getD i 0) ns.length k
  have e : (List.range ns.length).map (fun i => ns.getD i 0) = ns := by
    refine List.ext_getElem? fun i => ?_
    rw [List.getElem?_map]
    by_cases c : i < ns.length
    · rw [List.getElem?_range c]
      simp [List.getD_eq_getElem?_getD, List.getElem?_eq_getElem c]
    · rw [List.getElem?_eq_none (by simpa using c), List.getElem?_eq_none (by simpa using c)]; rfl
  rw [e] at a
  have b : ∀ l : List Int, l.any (· == k) = true ↔ k ∈ l := fun l => by simp
  rw [← b, a, b]
def rSetIA (K : PySem.W.Frag) : List V → Hp → VK → Prop := fun xs H Q => ∃ (l : Addr) (ns : List Int), xs = [V.ref l] ∧ SqA K H l (ns.map V.int) ∧ ns.length < 64 ∧
  ∀ (p : Addr) (L : List Int), H p = none → L.Nodup → (∀ k, k ∈ L ↔ k ∈ ns) → Q (.ref p) (upd H p (SetN p L.length))
theorem cr_setIA (hc : X.calm = true) : CallR X (.type "set") (rSetIA X.K) := by
  rintro pins s σ H xs us Q I r ⟨l, ns, rfl, hl, hf, q⟩
  rw [Vals.ref1 r]
  rcases hl with hl | hl
  · obtain ⟨its, rv, pl, hz⟩ := I.list hl
    have el : its.toArray.size = ns.length := by rw [List.size_toArray, ← rv.length, List.length_map]
    refine call_set_list (I.ok.hd hc) pl.isList (ns := ns) (by simpa using rv.ints) (by unfold scanBound; omega) ?_
    intro h' tk R k
    rw [el] at R
    have nd := firstMet_nd (fun i => ns.getD i 0) ns.length
    have mm := firstMet_mem ns
    have le := firstMet_length_le (fun i => ns.getD i 0) ns.length
    generalize firstMet (fun i => ns.getD i 0) ns.length = L at R nd mm le
    obtain ⟨o, es, ep, t, ho, hx, hd, _, _, _, hft, hn⟩ := R
    exact ⟨.ref s.heap.objs.size, _, I.laid (t' := tk) (fun b o e => k b o (Heap.lt_size e) e) (Nat.le_refl _) (setN_new ho hx hd hft hn (by omega)), rfl, q _ L (I.hok.fresh (Nat.le_refl _)) nd mm⟩
  · obtain ⟨its, rv, pt, _⟩ := I.tuple hl
    refine call_set_tupI ns (I.ok.hd hc) (show s.heap.IsTuple l its.toArray from pt) (by simpa using rv.ints) (by unfold scanBound; omega) ?_
    rintro h' tk c ⟨o, es, ep, t, ho, hx, hd, _, nd, mm, _, hft, hn, _⟩ lc k
    have q' := q _ (es.toList.map keyOf) (I.hok.fresh (Nat.le_refl _)) nd (fun z => by rw [← mm z]; simp)
    rw [List.length_map, Array.length_toList, hn] at q'
    exact ⟨.ref s.heap.objs.size, _, I.laid (t' := tk) k (Nat.le_refl _) (setN_new ho hx hd hft hn (by omega)), rfl, q'⟩
theorem cr_lenN : CallR X (.builtin "len") (fun xs H Q => ∃ (a : Addr) (n : Nat), xs = [V.ref a] ∧ H a = some (SetN a n) ∧ Q (.int n) H) := by
  rintro pins s σ H xs us Q I r ⟨a, n, rfl, ha, q⟩
  rw [Vals.ref1 r]
  obtain ⟨o, es, ep, t, ho, hx, hd, hf, hn, n1⟩ := (I.hok a _ ha).1
  exact call_len_set ho hx hd hf (by omega) ⟨.int n, H, I.tok _, ⟨_, by rw [hn]⟩, q⟩
/-! ## sorted(xs), xs a list or tuple of ints -/
theorem collect_tup {prog : Program} {w : World} {A : Around} {E : Value → Shared → Prop} {s : Shared} {l : Addr} {vs : List Value} {Q : List Value → Shared → Prop} (ht : s.heap.IsTuple l vs.toArray) (hz : vs.length ≤ sizeLine)
    (fin : Q vs { s with heap := (s.heap.push (seqObj "list" #[] 0)).update s.heap.objs.size (Obj.mapSeq (· ++ vs.toArray)) }) : wpAny (model prog w) A (collect (.ref l)) Q E s := by
  obtain ⟨o, at1, cl1, n, d1⟩ := id ht
  have at2 : (s.heap.push (seqObj "list" #[] 0)).get? l = some o := Heap.get?_push_of_some _ at1
  have new2 : (s.heap.push (seqObj "list" #[] 0)).get? s.heap.objs.size = some (seqObj "list" #[] 0) := Heap.get?_push_size _ rfl
  unfold collect
  apply wpAny_bind; apply wpAny_runValue; apply codeAny_builtin entry_proto_collect'
  show wpAny (model prog w) _ (do again (.builtin "list.__iadd__" ⟨[← newList [], .ref l], []⟩)) _ _ s
  refine wpAny_bind (wpAny_newList ?_); apply wpAny_pure
  refine ⟨Code.quiet_builtin _ (by decide +kernel), ?_⟩
  apply codeAny_builtin entry_list_iadd'
  show wpAny (model prog w) _ (Builtin.List.listExtendWith (.ref s.heap.objs.size) (.ref l) (.ref s.heap.objs.size)) _ _ { s with heap := s.heap.push (seqObj "list" #[] 0) }
  unfold Builtin.List.listExtendWith
  apply wpAny_bind
  refine wpAny_typeOf (v := Value.ref l) (T := "tuple") ⟨o, at2, cl1⟩ ?_
  rw [if_pos (by
    have e : (Value.type "tuple" == Value.type "tuple") = true := by rfl
    rw [e]; simp)]
  apply wpAny_bind; apply listItems_at at2 d1
  apply wpAny_bind; apply listItems_at (xs := #[]) (n := 0) new2 rfl
  rw [if_neg (by simp)]
  apply wpAny_bind
  refine listUpdate_at (xs := #[]) (n := 0) new2 rfl ?_ (Nat.zero_le _) (by simp; omega)
  apply wpAny_pure
  show wpAny (model prog w) A (load s.heap.objs.size >>= _) Q E { s with heap := (s.heap.push (seqObj "list" #[] 0)).update s.heap.objs.size (Obj.mapSeq (· ++ vs.toArray)) }
  apply wpAny_bind
  refine wpAny_load (get?_update_seq new2 _) ?_
  have e3 : ((#[] : Array Value) ++ vs.toArray).toList = vs := by simp
  show wpAny (model prog w) A (pure ((#[] : Array Value) ++ vs.toArray).toList) Q E _
  rw [e3]
  exact wpAny_pure fin
end
end Tk
namespace Tk
open PySem PySem.Spec PyProof.Rows L2
section
variable {prog : Program} {w : World} {A : Around} {E : Value → Shared → Prop} {s : Shared}
theorem sorted_tup {l : Addr} {vs : List Value} {ltv : Value → Value → Bool} {Q : Value → Shared → Prop} (O : SrtO.Swo ltv) (ht : s.heap.IsTuple l vs.toArray) (hz : vs.length ≤ sizeLine)
    (able : 2 ≤ vs.length → ∀ (h1 : Heap) (a : Addr), h1.get? a = some (seqObj "list" vs.toArray 0) → (∀ b o, s.heap.get? b = some o → b ≠ a ∧ h1.get? b = some o) → SrtO.SortableO prog w A.in1.in1 { s with heap := h1 } a vs ltv)
    (fin : ∀ out : List Value, SrtO.Srtd ltv out → SrtO.Stb ltv out vs → Q (.ref (s.heap.objs.size + 1)) { s with heap := sortedAll s.heap vs out.toArray }) :
    wpAny (model prog w) A (call (.builtin "sorted") [.ref l]) Q E s := by
  apply Calls.call_function_entry kind_sorted plain_sorted entry_sorted (args_sorted1 _)
  unfold Builtin.«sorted»
  apply wpAny_bind (m := checkCount "sorted" 1 1 _)
  apply wpAny_pure; apply wpAny_bind
  apply collect_tup ht hz; apply wpAny_bind
  refine wpAny_newList ?_ hz
  generalize hcp : (s.heap.push (seqObj "list" #[] 0)).update s.heap.objs.size (Obj.mapSeq (· ++ vs.toArray)) = h1
  have z1 : h1.objs.size = s.heap.objs.size + 1 := by rw [← hcp, Heap.size_update, Heap.size_push]
  have new2 : (h1.push (seqObj "list" vs.toArray 0)).get? (s.heap.objs.size + 1) = some (seqObj "list" vs.toArray 0) := by rw [← z1]; exact Heap.get?_push_size _ rfl
  have old : ∀ b o, s.heap.get? b = some o → b ≠ s.heap.objs.size + 1 ∧ (h1.push (seqObj "list" vs.toArray 0)).get? b = some o := by
    intro b o e
    have lt := Heap.lt_size e
    refine ⟨Nat.ne_of_lt (Nat.lt_succ_of_lt lt), Heap.get?_push_of_some _ ?_⟩
    rw [← hcp, Heap.get?_update_ne _ _ _ _ (Nat.ne_of_lt lt)]
    exact Heap.get?_push_of_some _ e
  show wpAny _ _ _ _ _ { s with heap := h1.push (seqObj "list" vs.toArray 0) }
  rw [z1]
  refine wpAny_bind (wpAny_holding (wpAny_call_entry slot_list_sort ⟨_, new2, rfl⟩ entry_list_sort (SrtO.list_sort_ord O new2 hz (fun m => able m _ _ new2 old) fun out a b => ⟨_, rfl, ?_⟩) (args_list_sort _)))
  subst hcp
  exact wpAny_pure ⟨_, rfl, fin out a b⟩
end
section
variable {X : Cx}
def rSortedIA (K : PySem.W.Frag) : List V → Hp → VK → Prop := fun vs H Q => ∃ (a : Addr) (ns : List Int), vs = [V.ref a] ∧ SqA K H a (ns.map V.int) ∧
  ∀ (ns' : List Int) (p : Addr), ns'.Perm ns → ns'.Pairwise (· ≤ ·) → H p = none → Q (.ref p) (upd H p (.lst (ns'.map V.int)))
theorem cr_sortedIA : CallR X (.builtin "sorted") (rSortedIA X.K) := by
  rintro pins s σ H vs us Q I r ⟨a, ns, rfl, hs, q⟩
  rcases hs with hs | hs
  · exact cr_sortedI pins s σ H _ us Q I r ⟨a, ns, rfl, hs, q⟩
  · rw [Vals.ref1 r]
    obtain ⟨its, rv, pt, _⟩ := I.tuple hs
    have hi := rv.ints
    have il : its.length = ns.length := by rw [← rv.length, List.length_map]
    have hz : ns.length ≤ sizeLine := by
      have := (I.tuple hs)
      obtain ⟨its2, rv2, _, z2⟩ := this
      rw [List.length_map] at z2
      exact z2
    refine sorted_tup SrtO.swo_int (show s.heap.IsTuple a its.toArray from pt) (by omega) (fun m h1 a' _ _ => SrtO.ints_sortable hi m) fun out h1 h2 => ?_
    obtain ⟨k1, k2, k3⟩ := SrtO.ints_out hi h1 h2
    obtain ⟨ep, he⟩ := PyProof.Rows.sortedAll_at s.heap its out.toArray
    have hl : ((out.map SrtO.iv).map V.int).length ≤ sizeLine := by rw [List.length_map, k2.length_eq]; exact hz
    exact ⟨.ref (s.heap.objs.size + 1), upd H (s.heap.objs.size + 1) (.lst ((out.map SrtO.iv).map V.int)), I.laid (t' := s.toks) (fun _ _ => PyProof.Rows.sortedAll_old) (Nat.le_succ _) ⟨hl, out, ep, vals_of_ints k1, he⟩, rfl, q _ _ k2 k3 (I.hok.fresh (Nat.le_succ _))⟩
end
end Tk

namespace Tk
open PySem PySem.Spec PyProof.Rows L2
section
variable {X : Cx}
def rSetTA (K : PySem.W.Frag) (P : Program) (w : World) : List V → Hp → VK → Prop := fun xs H Q => ∃ (l : Addr) (ks : List (Addr × List Int)), xs = [V.ref l] ∧ SqA K H l (ks.map fun p => V.ref p.1) ∧ (∀ p ∈ ks, SqT K H p.1 (p.2.map V.int)) ∧ ks.length < 64 ∧
  ∀ a L, H a = none → (∀ p ∈ L, p ∈ ks) → (∀ p ∈ ks, p.2 ∈ L.map (·.2)) → Q (.ref a) (upd H a (SetTO P w a L))
theorem cr_setTA (hc : X.calm = true) (hu : X.A.units + 64 < cLine) : CallR X (.type "set") (rSetTA X.K X.prog X.w) := by
  rintro pins s σ H xs us Q I r ⟨l, ks, rfl, hl, hk, hf, q⟩
  rcases hl with hl | hl
  · exact cr_setOfT hc hu pins s σ H _ us Q I r ⟨l, ks, rfl, hl, hk, hf, q⟩
  · exact cr_setTT hc hu pins s σ H _ us Q I r ⟨l, ks, rfl, hl, hk, hf, q⟩
end
end Tk

namespace Tk
open PySem PySem.Spec PyProof.Rows L2
def top (i : Nat) : Stmt := PySem.Challenge.pw_toldpushes_k72_whole_lists_of_full_plans.main.body.getD i (.Pass ⟨0, 0, 0, 0⟩)
abbrev sIsInt : Stmt := top 1
abbrev sIsCnt : Stmt := top 2
abbrev sIsLst : Stmt := top 3
abbrev sIsThg : Stmt := top 5
abbrev sIsPair : Stmt := top 6
abbrev sArePairs : Stmt := top 7
abbrev sAreArr : Stmt := top 8
abbrev sAreTies : Stmt := top 9
abbrev sTurned : Stmt := top 10
abbrev sBothWays : Stmt := top 11
abbrev sWithin : Stmt := top 12
abbrev sOrdOf : Stmt := top 13
abbrev sReached : Stmt := top 14
abbrev sIsSize : Stmt := top 26
abbrev sChkSize : Stmt := top 27
abbrev sInit : Stmt := inClass (top 29) 0
abbrev sWidth : Stmt := inClass (top 29) 1
abbrev sArrows : Stmt := inClass (top 29) 2
abbrev sTies : Stmt := inClass (top 29) 3
abbrev sChkPlan : Stmt := top 31
abbrev sChkThg : Stmt := top 32
abbrev sGreatest : Stmt := top 34
abbrev sBarOf : Stmt := top 35
abbrev sIsPlain : Stmt := top 36
abbrev sPot : Stmt := top 49
abbrev sDraw : Stmt := top 50
abbrev sPick : Stmt := top 51
abbrev sLoose : Stmt := top 37
abbrev sWithArrow : Stmt := top 38
abbrev sWithTie : Stmt := top 39
abbrev sRight : Stmt := top 58
abbrev sLaw : Stmt := top 59

/-- a def of the text under its own name -/
structure Df (K : PySem.W.Frag) (mg : Str → Option Value) (nm : Str) (st : Stmt) (ps : List Str) (f : Addr) (fd : FuncData) : Prop where
  F : Fun K nm nm st f fd
  g : mg nm = some (.ref f)
  b : Binds K fd ps []
/-- the built-in names still mean what they mean -/
structure Bl (mg : Str → Option Value) : Prop where
  isi : mg "isinstance" = none
  int : mg "int" = none
  bool : mg "bool" = none
  list : mg "list" = none
  tuple : mg "tuple" = none
  len : mg "len" = none
  all : mg "all" = none
  any : mg "any" = none
  set : mg "set" = none
  range : mg "range" = none
  sorted : mg "sorted" = none
  sum : mg "sum" = none
  abs : mg "abs" = none
  max : mg "max" = none
  min : mg "min" = none
  divmod : mg "divmod" = none
  repr : mg "repr" = none
  enumerate : mg "enumerate" = none
  zip : mg "zip" = none

/-! ## kinds of values -/
inductive IntV (K : PySem.W.Frag) (H : Hp) : V → Option Int → Prop
  | int (i : Int) : IntV K H (.int i) (some i)
  | bl (b : Bool) : IntV K H (.bl b) none
  | oth {v : V} {ty : String} (h : TyX K H v (.type ty)) (k : kitB ty "int" = some false) : IntV K H v none
inductive SqV (K : PySem.W.Frag) (H : Hp) : V → Option (List V) → Prop
  | sq {a : Addr} {xs : List V} (h : SqA K H a xs) : SqV K H (.ref a) (some xs)
  | no {v : V} {ty : String} (h : TyX K H v (.type ty)) (k : kitB ty "list" = some false) (k2 : kitB ty "tuple" = some false) : SqV K H v none
theorem tyx_s {K : PySem.W.Frag} {H H' : Hp} {v t : _} (h : TyX K H v t) (e : Same H H') : TyX K H' v t := by
  cases h with
  | base b =>
    refine .base ?_
    cases b with
    | non => exact .non
    | bl x => exact .bl x
    | int i => exact .int i
    | str x => exact .str x
    | flt x => exact .flt x
    | lst q => exact .lst (e _ _ q)
    | frz q => exact .frz (e _ _ q)
    | tup q => exact .tup (e _ _ q)
    | dK q => exact .dK (e _ _ q)
    | dT q => exact .dT (e _ _ q)
    | ins q a1 a2 a3 a4 a5 => exact .ins (e _ _ q) a1 a2 a3 a4 a5
  | byt b => exact .byt b
  | set q => exact .set (e _ _ q)
  | kList q c => exact .kList q c
  | kTuple q c => exact .kTuple q c
  | kDict q c => exact .kDict q c
  | fTuple q => exact .fTuple (e _ _ q)
  | fDict q => exact .fDict (e _ _ q)
theorem intv_s {K : PySem.W.Frag} {H H' : Hp} {v : V} {o : Option Int} (h : IntV K H v o) (e : Same H H') : IntV K H' v o := by
  cases h with
  | int i => exact .int i
  | bl b => exact .bl b
  | oth h k => exact .oth (tyx_s h e) k
theorem sqv_s {K : PySem.W.Frag} {H H' : Hp} {v : V} {o : Option (List V)} (h : SqV K H v o) (e : Same H H') : SqV K H' v o := by
  cases h with
  | sq h => exact .sq (same_a e h)
  | no h k k2 => exact .no (tyx_s h e) k k2
def cntO : Option Int → Bool
  | some i => decide (0 ≤ i)
  | none => false
def thgO (n : Int) : Option Int → Bool
  | some i => decide (0 ≤ i) && decide (i < n)
  | none => false
/-! ## promises -/
def spIsInt (K : PySem.W.Frag) : Sp := fun vs H Q _ => ∃ (v : V) (o : Option Int), vs = [v] ∧ IntV K H v o ∧ Q (.bl o.isSome) H
def spIsCnt (K : PySem.W.Frag) : Sp := fun vs H Q _ => ∃ (v : V) (o : Option Int), vs = [v] ∧ IntV K H v o ∧ Q (.bl (cntO o)) H
def spIsThg (K : PySem.W.Frag) : Sp := fun vs H Q _ => ∃ (n : Int) (v : V) (o : Option Int), vs = [.int n, v] ∧ IntV K H v o ∧ Q (.bl (thgO n o)) H
def spIsLst (K : PySem.W.Frag) : Sp := fun vs H Q _ => ∃ (v : V) (o : Option (List V)), vs = [v] ∧ SqV K H v o ∧ ∀ H', Same H H' → Q (.bl o.isSome) H'

section
variable {P : Program} {w : World} {K : PySem.W.Frag} {mg : Str → Option Value} {base : Heap}
theorem sc_isInt : FnScope ["value"] ["value"] (defScope sIsInt) := ⟨rfl, rfl, rfl, by decide +kernel, rfl, by decide +kernel, by decide +kernel⟩
theorem ok_isInt {f : Addr} {fd : FuncData} (F : Fun K "is_integer" "is_integer" sIsInt f fd) (B : Bl mg) : FnOk P w K mg base CX0 1 f fd ["value"] (spIsInt K) := by
  refine F.ok sc_isInt (fun vs H Q E h => ?_) (fun cdv A outer s H vs Q E hr h => ?_)
  · obtain ⟨i, _, rfl, _⟩ := h
    rfl
  · obtain ⟨v, o, rfl, hv, q⟩ := h
    refine ⟨_, pss_one (ps_ret (pe_and
      (pe_callB call_isi (by rfl) B.isi PyProof.Rows.boot_isinstance (pa_cons (pv 0) (pa_cons (pe_bltn (v := .ty "int") (by rfl) B.int PyProof.Rows.boot_int rfl) pa_nil)))
      (pe_one (pe_not (pe_callB call_isi (by rfl) B.isi PyProof.Rows.boot_isinstance (pa_cons (pv 0) (pa_cons (pe_bltn (v := .ty "bool") (by rfl) B.bool PyProof.Rows.boot_bool rfl) pa_nil))))))), ?_⟩
    cases hv with
    | int i =>
      refine ⟨_, rfl, _, _, _, _, true, rfl, .ty _, .base (.int i), kit_ty (by decide +kernel), true, rfl, iteT ?_⟩
      exact ⟨_, rfl, _, _, _, _, false, rfl, .ty _, .base (.int i), kit_ty (by decide +kernel), false, rfl, q⟩
    | bl b =>
      refine ⟨_, rfl, _, _, _, _, true, rfl, .ty _, .base (.bl b), kit_ty (by decide +kernel), true, rfl, iteT ?_⟩
      exact ⟨_, rfl, _, _, _, _, true, rfl, .ty _, .base (.bl b), kit_ty (by decide +kernel), true, rfl, q⟩
    | oth h k =>
      exact ⟨_, rfl, _, _, _, _, false, rfl, .ty _, h, kit_ty k, false, rfl, iteF q⟩

theorem sc_isCnt : FnScope ["value"] ["value"] (defScope sIsCnt) := ⟨rfl, rfl, rfl, by decide +kernel, rfl, by decide +kernel, by decide +kernel⟩
theorem ok_isCnt {f f1 : Addr} {fd fd1 : FuncData} (F : Fun K "is_count" "is_count" sIsCnt f fd) (D1 : Df K mg "is_integer" sIsInt ["value"] f1 fd1) (B : Bl mg) : FnOk P w K mg base CX0 2 f fd ["value"] (spIsCnt K) := by
  have G1 : FnOk P w K mg base CX0 1 f1 fd1 ["value"] (spIsInt K) := ok_isInt D1.F B
  refine F.ok sc_isCnt (fun vs H Q E h => ?_) (fun cdv A outer s H vs Q E hr h => ?_)
  · obtain ⟨i, _, rfl, _⟩ := h
    rfl
  · obtain ⟨v, o, rfl, hv, q⟩ := h
    refine ⟨_, pss_one (ps_ret (pe_and (pe_call G1 hr rfl D1.g D1.F.kp D1.b .nil pass0 (pa_cons (pv 0) pa_nil)) (pe_one (pe_cmpR op_ge (pv 0) pe_int (nomark _))))), ?_⟩
    refine ⟨_, rfl, v, o, rfl, hv, o.isSome, rfl, ?_⟩
    cases hv with
    | int i => exact iteT ⟨_, rfl, _, _, rfl, rfl, q⟩
    | bl b => exact iteF q
    | oth h k => exact iteF q

theorem sc_isThg : FnScope ["size", "value"] ["size", "value"] (defScope sIsThg) := ⟨rfl, rfl, rfl, by decide +kernel, rfl, by decide +kernel, by decide +kernel⟩
theorem ok_isThg {f f1 f2 : Addr} {fd fd1 fd2 : FuncData} (F : Fun K "is_thing" "is_thing" sIsThg f fd) (D1 : Df K mg "is_integer" sIsInt ["value"] f1 fd1) (D2 : Df K mg "is_count" sIsCnt ["value"] f2 fd2) (B : Bl mg) :
    FnOk P w K mg base CX0 3 f fd ["size", "value"] (spIsThg K) := by
  have G2 : FnOk P w K mg base CX0 2 f2 fd2 ["value"] (spIsCnt K) := ok_isCnt D2.F D1 B
  refine F.ok sc_isThg (fun vs H Q E h => ?_) (fun cdv A outer s H vs Q E hr h => ?_)
  · obtain ⟨n, i, _, rfl, _⟩ := h
    rfl
  · obtain ⟨n, v, o, rfl, hv, q⟩ := h
    refine ⟨_, pss_one (ps_ret (pe_and (pe_call G2 hr rfl D2.g D2.F.kp D2.b .nil pass0 (pa_cons (pv 1) pa_nil)) (pe_one (pe_cmpR op_lt (pv 1) (pv 0) (nomark _))))), ?_⟩
    refine ⟨_, rfl, v, o, rfl, hv, cntO o, rfl, ?_⟩
    cases hv with
    | int i =>
      show if cntO (some i) = true then _ else _
      by_cases h0 : 0 ≤ i
      · rw [show cntO (some i) = true from decide_eq_true h0]
        refine iteT ⟨_, rfl, _, rfl, _, _, rfl, rfl, ?_⟩
        rw [show thgO n (some i) = decide (i < n) by simp [thgO, h0]] at q
        exact q
      · rw [show cntO (some i) = false from decide_eq_false h0]
        rw [show thgO n (some i) = false by simp [thgO, h0]] at q
        exact iteF q
    | bl b => exact iteF q
    | oth h k => exact iteF q
theorem sc_isLst : FnScope ["value"] ["value"] (defScope sIsLst) := ⟨rfl, rfl, rfl, by decide +kernel, rfl, by decide +kernel, by decide +kernel⟩
theorem kit_any2 {t : String} {b : Bool} (h : kitB t "list" = some false) (h2 : kitB t "tuple" = some b) : PySem.W.kitAny K (.type t) [.type "list", .type "tuple"] = some b := by
  refine kitAny_cons (b := false) (kit_ty h) (fun _ => ?_) (fun z => nomatch z)
  cases b with
  | true => exact kitAny_cons (b := true) (kit_ty h2) (fun z => nomatch z) (fun _ => rfl)
  | false => exact kitAny_cons (b := false) (kit_ty h2) (fun _ => rfl) (fun z => nomatch z)
theorem ok_isLst {f : Addr} {fd : FuncData} (F : Fun K "is_list" "is_list" sIsLst f fd) (B : Bl mg) : FnOk P w K mg base CX0 1 f fd ["value"] (spIsLst K) := by
  refine F.ok sc_isLst (fun vs H Q E h => ?_) (fun cdv A outer s H vs Q E hr h => ?_)
  · obtain ⟨i, _, rfl, _⟩ := h
    rfl
  · obtain ⟨v, o, rfl, hv, q⟩ := h
    refine ⟨_, pss_one (ps_ret (pe_callB call_isiT (by rfl) B.isi PyProof.Rows.boot_isinstance (pa_cons (pv 0) (pa_cons
      (pe_tup (pa_cons (pe_bltn (v := .ty "list") (by rfl) B.list PyProof.Rows.boot_list rfl) (pa_cons (pe_bltn (v := .ty "tuple") (by rfl) B.tuple PySem.Pv.boot_tuple rfl) pa_nil))) pa_nil)))), ?_⟩
    refine ⟨_, rfl, szle (by decide), fun p hp => ?_⟩
    have hv' := sqv_s hv (same_new (o := .tup [.ty "list", .ty "tuple"]) hp)
    cases hv' with
    | sq h =>
      rcases h with h | h
      · exact ⟨_, p, [.ty "list", .ty "tuple"], _, [.type "list", .type "tuple"], true, rfl, upd_same, .cons (.ty _) (.cons (.ty _) .nil), tyx_l h, kit_lt, q _ (same_new hp)⟩
      · exact ⟨_, p, [.ty "list", .ty "tuple"], _, [.type "list", .type "tuple"], true, rfl, upd_same, .cons (.ty _) (.cons (.ty _) .nil), tyx_t h, kit_any2 (by decide +kernel) (by decide +kernel), q _ (same_new hp)⟩
    | no h k k2 => exact ⟨_, p, [.ty "list", .ty "tuple"], _, [.type "list", .type "tuple"], false, rfl, upd_same, .cons (.ty _) (.cons (.ty _) .nil), h, kit_any2 k k2, q _ (same_new hp)⟩
end
end Tk

namespace Tk
open PySem PySem.Spec PyProof.Rows L2
/-- of two unlike things of a plan of this size: True -/
def spIsPair (K : PySem.W.Frag) : Sp := fun vs H Q _ => ∃ (n i j : Int) (t : Addr), vs = [.int n, .ref t] ∧ SqT K H t [.int i, .int j] ∧ 0 ≤ i ∧ i < n ∧ 0 ≤ j ∧ j < n ∧ i ≠ j ∧ ∀ H', Same H H' → Q (.bl true) H'
/-- pairs of unlike things -/
def Prs (n : Int) (ps : List (Int × Int)) : Prop := ps.Nodup ∧ ps.length < 60 ∧ ∀ p ∈ ps, 0 ≤ p.1 ∧ p.1 < n ∧ 0 ≤ p.2 ∧ p.2 < n ∧ p.1 ≠ p.2
def spArePairs (K : PySem.W.Frag) : Sp := fun vs H Q _ => ∃ (n : Int) (a : Addr) (ps : List (Int × Int)), vs = [.int n, .ref a] ∧ PA2 K H a ps ∧ Prs n ps ∧ ∀ H', Same H H' → Q (.bl true) H'
section
variable {P : Program} {w : World} {K : PySem.W.Frag} {mg : Str → Option Value} {base : Heap}
theorem sc_isPair : FnScope ["size", "value", "thing"] ["size", "value"] (defScope sIsPair) := ⟨rfl, rfl, rfl, by decide +kernel, rfl, by decide +kernel, by decide +kernel⟩
theorem ok_isPair {f f1 f2 f3 : Addr} {fd fd1 fd2 fd3 : FuncData} (F : Fun K "is_pair" "is_pair" sIsPair f fd) (D1 : Df K mg "is_integer" sIsInt ["value"] f1 fd1) (D2 : Df K mg "is_count" sIsCnt ["value"] f2 fd2)
    (D3 : Df K mg "is_thing" sIsThg ["size", "value"] f3 fd3) (B : Bl mg) : FnOk P w K mg base CX0 4 f fd ["size", "value"] (spIsPair K) := by
  have G3 : FnOk P w K mg base CX0 3 f3 fd3 ["size", "value"] (spIsThg K) := ok_isThg D3.F D1 D2 B
  refine F.ok sc_isPair (fun vs H Q E h => ?_) (fun cdv A outer s H vs Q E hr h => ?_)
  · obtain ⟨n, i, j, t, rfl, _⟩ := h
    rfl
  · obtain ⟨n, i, j, t, rfl, ht, i0, i1, j0, j1, hne, q⟩ := h
    refine ⟨_, pss_cons (ps_if (PW.pt (pw_or (pt_not (pt_val (pe_callB call_isi (by rfl) B.isi PyProof.Rows.boot_isinstance (pa_cons (pv 1) (pa_cons (pe_bltn (v := .ty "tuple") (by rfl) B.tuple PySem.Pv.boot_tuple rfl) pa_nil)))))
        (pw_or1 (pt_cmpR op_ne (pe_callB call_len_seq (by rfl) B.len PySem.boot_len (pa_cons (pv 1) pa_nil)) pe_int (nomark _))))) (pss_one (ps_ret pe_bl)) pss_nil)
      (pss_one (ps_ret (pe_and (pe_callB (cr_all rfl) (by rfl) B.all PyProof.Rows.boot_all (pa_cons
          (pe_lc (own := [("thing", 2)]) (g := gName 2) (tt := tYes) rfl sc_isPair.nd (pi_tup (pv 1)) (blkOk_by (N := ["size", "value", "thing"]) (sc := defScope sIsPair) (by decide +kernel))
            (fun _ _ _ _ _ => pg_name (i := 2) sc_isPair.nd rfl (Or.inl rfl)) (fun _ _ _ _ _ => pts_nil)
            (fun _ _ _ _ _ => pe_call G3 hr rfl D3.g D3.F.kp D3.b .nil pass0 (pa_cons (pv 0) (pa_cons (pv 2) pa_nil)))) pa_nil))
        (pe_one (pe_cmpR op_ne (pe_ix ix_tup (pv 1) pe_int (fun _ _ => rfl)) (pe_ix ix_tup (pv 1) pe_int (fun _ _ => rfl)) (nomark _)))))), ?_⟩
    refine ⟨_, rfl, _, _, _, _, true, rfl, .ty _, tyx_t ht, kit_ty (by decide +kernel), true, rfl, iteF ?_⟩
    refine ⟨_, rfl, t, _, rfl, .inr ht, rfl, false, (by show V.bl (!decide (V.int 2 = V.int 2)) = V.bl false; decide), iteF ?_⟩
    refine ⟨_, rfl, t, rfl, ⟨_, ht⟩, fun D hD => ?_⟩
    refine lc_tup (xs := [.int i, .int j]) (LcP H D fun k => (List.replicate k (.bl true))) (lcp_0 hD rfl) (fun k H1 _ p => same_t p.1 ht) ?_ ?_
    · intro k x H1 hx p
      have hk : k < 2 := lt_of_at hx
      obtain ⟨m, rfl, m0, m1⟩ : ∃ m, x = V.int m ∧ 0 ≤ m ∧ m < n := by
        match k, hk, hx with
        | 0, _, hx => exact ⟨i, (Option.some.inj hx).symm, i0, i1⟩
        | 1, _, hx => exact ⟨j, (Option.some.inj hx).symm, j0, j1⟩
      refine ⟨rfl, _, rfl, _, rfl, n, .int m, some m, rfl, .int m, ?_⟩
      rw [show thgO n (some m) = true by simp [thgO, m0, m1]]
      exact lcp_put hD p (by simp [List.replicate_succ']) (by simp; omega)
    · intro H1 p
      refine ⟨D, [true, true], rfl, sl_of p.2, true, rfl, iteT ?_⟩
      have ht1 := same_t p.1 ht
      refine ⟨_, rfl, t, _, _, _, rfl, rfl, ht1, rfl, _, rfl, t, _, _, _, rfl, rfl, ht1, rfl, rfl, ?_⟩
      have e : (!decide (V.int i = V.int j)) = true := by
        simp [hne]
      rw [e]
      exact q H1 p.1
end
end Tk

namespace Tk
open PySem PySem.Spec PyProof.Rows L2

theorem dec_bl {i j : Int} : V.bl (decide (V.int i = V.int j)) = V.bl (decide (i = j)) := by simp
theorem pl_ks {K : PySem.W.Frag} {H : Hp} : ∀ {ps : List (Int × Int)} {xs : List V}, DpAll K H xs (ps.map dP) → ∃ ks : List (Addr × List Int), xs = ks.map (fun p => V.ref p.1) ∧ ks.map (·.2) = ps.map (fun p => [p.1, p.2]) ∧ ∀ p ∈ ks, SqT K H p.1 (p.2.map V.int)
  | [], _, h => by cases h; exact ⟨[], rfl, rfl, fun p hp => nomatch hp⟩
  | p :: ps, _, h => by
    cases h with
    | cons h1 h2 =>
      obtain ⟨t, rfl, ht⟩ := dP_inv h1
      obtain ⟨ks, rfl, e2, h3⟩ := pl_ks h2
      refine ⟨(t, [p.1, p.2]) :: ks, rfl, by simp [e2], ?_⟩
      intro q hq
      rcases List.mem_cons.mp hq with rfl | hq
      · exact ht
      · exact h3 q hq
theorem prs_ks {n : Int} {ps : List (Int × Int)} (h : Prs n ps) {ks : List (Addr × List Int)} (e : ks.map (·.2) = ps.map (fun p => [p.1, p.2])) : (ks.map (·.2)).Nodup ∧ ks.length < 60 := by
  constructor
  · rw [e]
    show List.Pairwise _ _
    rw [List.pairwise_map]
    refine List.Pairwise.imp (fun {a b} hne q => hne ?_) h.1
    simp at q
    exact Prod.ext q.1 q.2
  · have := congrArg List.length e
    simp at this
    rw [this]
    exact h.2.1
theorem inV_int (i : Int) : ∀ l : List Int, inV (.int i) (l.map V.int) = decide (i ∈ l)
  | [] => by simp [inV]
  | x :: l => by
    have ih := inV_int i l
    unfold inV at ih ⊢
    rw [List.map_cons, List.any_cons, ih]
    have e : eqV (.int x) (.int i) = decide (i = x) := by
      show (x == i) = decide (i = x)
      by_cases h : x = i
      · subst h; simp
      · have h' : ¬ i = x := fun e => h e.symm
        simp [h, h']
    rw [e]
    simp [List.mem_cons]
theorem flat_ints (l : List Int) : (l.map V.int).all flatV = true := by
  rw [List.all_map]
  exact List.all_eq_true.mpr fun x _ => rfl
theorem in_bl {i : Int} {l : List Int} : V.bl (if false = true then !inV (.int i) (l.map V.int) else inV (.int i) (l.map V.int)) = V.bl (decide (i ∈ l)) := by
  rw [← inV_int]; rfl
theorem notin_bl {i : Int} {l : List Int} : V.bl (if true = true then !inV (.int i) (l.map V.int) else inV (.int i) (l.map V.int)) = V.bl (!decide (i ∈ l)) := by
  rw [← inV_int]; rfl

def spOrdOf (K : PySem.W.Frag) : Sp := fun vs H Q _ => ∃ (n : Nat) (a : Addr) (ps : List (Int × Int)), vs = [.int n, .ref a] ∧ PL K H a ps ∧ n ≤ 60 ∧ Prs n ps ∧ Acy ps ∧
  ∀ H' p o, Same H H' → H p = none → H' p = some (.lst (o.map V.int)) → Topo n ps o → Q (.ref p) H'
section
variable {P : Program} {w : World} {K : PySem.W.Frag} {mg : Str → Option Value} {base : Heap}
theorem sc_arePairs : FnScope ["size", "value", "pair"] ["size", "value"] (defScope sArePairs) := ⟨rfl, rfl, rfl, by decide +kernel, rfl, by decide +kernel, by decide +kernel⟩
theorem ok_arePairs {f f1 f2 f3 f4 f5 : Addr} {fd fd1 fd2 fd3 fd4 fd5 : FuncData} (F : Fun K "are_pairs" "are_pairs" sArePairs f fd) (D1 : Df K mg "is_integer" sIsInt ["value"] f1 fd1) (D2 : Df K mg "is_count" sIsCnt ["value"] f2 fd2)
    (D3 : Df K mg "is_thing" sIsThg ["size", "value"] f3 fd3) (D4 : Df K mg "is_pair" sIsPair ["size", "value"] f4 fd4) (D5 : Df K mg "is_list" sIsLst ["value"] f5 fd5) (B : Bl mg) : FnOk P w K mg base CX0 5 f fd ["size", "value"] (spArePairs K) := by
  have G4 : FnOk P w K mg base CX0 4 f4 fd4 ["size", "value"] (spIsPair K) := ok_isPair D4.F D1 D2 D3 B
  have G5 : FnOk P w K mg base CX0 1 f5 fd5 ["value"] (spIsLst K) := ok_isLst D5.F B
  refine F.ok sc_arePairs (fun vs H Q E h => ?_) (fun cdv A outer s H vs Q E hr h => ?_)
  · obtain ⟨n, a, ps, rfl, _⟩ := h
    rfl
  · obtain ⟨n, a, ps, rfl, ⟨xs, hxs, hd⟩, hps, q⟩ := h
    refine ⟨_, pss_cons (ps_if (PW.pt (pw_or (pt_not (pt_val (pe_call G5 (hr.mono (by decide)) rfl D5.g D5.F.kp D5.b .nil pass0 (pa_cons (pv 1) pa_nil))))
        (pw_or1 (pt_not (pt_val (pe_callB (cr_all rfl) (by rfl) B.all PyProof.Rows.boot_all (pa_cons
          (pe_lc (own := [("pair", 2)]) (g := gName 2) (tt := tYes) rfl sc_arePairs.nd (pi_sq (pv 1)) (blkOk_by (N := ["size", "value", "pair"]) (sc := defScope sArePairs) (by decide +kernel))
            (fun _ _ _ _ _ => pg_name (i := 2) sc_arePairs.nd rfl (Or.inl rfl)) (fun _ _ _ _ _ => pts_nil)
            (fun _ _ _ _ _ => pe_call G4 hr rfl D4.g D4.F.kp D4.b .nil pass0 (pa_cons (pv 0) (pa_cons (pv 2) pa_nil)))) pa_nil))))))) (pss_one (ps_ret pe_bl)) pss_nil)
      (pss_one (ps_ret (pe_cmpR op_eq (pe_callB call_lenSetT (by rfl) B.len PySem.boot_len (pa_cons (pe_callTy (cr_setTA rfl hr.units) (by rfl) B.set PySem.Pv.boot_set (pa_cons (pv 1) pa_nil)) pa_nil))
        (pe_callB call_len_seq (by rfl) B.len PySem.boot_len (pa_cons (pv 1) pa_nil)) (nomark _)))), ?_⟩
    refine ⟨_, rfl, .ref a, some xs, rfl, .sq hxs, fun H1 s1 => ⟨true, rfl, iteF ?_⟩⟩
    refine ⟨_, rfl, a, xs, rfl, same_a s1 hxs, fun it hit D hD => ?_⟩
    refine lc_sq hit (LcP H1 D fun k => (List.replicate k (.bl true))) (lcp_0 hD rfl) (fun k H2 _ p => p.1) ?_ ?_
    · intro k x H2 hx p
      have hk := lt_of_at hx
      have hl : xs.length = ps.length := by rw [dps_len hd, List.length_map]
      obtain ⟨⟨i, j⟩, t, hpk, rfl, ht⟩ := pl_at (dps_s hd (s1.trans p.1)) hx
      obtain ⟨i0, i1, j0, j1, ne⟩ := hps.2.2 (i, j) (List.mem_of_getElem? hpk)
      refine ⟨rfl, _, rfl, _, rfl, n, i, j, t, rfl, ht, i0, i1, j0, j1, ne, fun H3 s3 => ?_⟩
      exact lcp_put hD (lcp_s p s3) (by simp [List.replicate_succ']) (by have := hps.2.1; simp; omega)
    · intro H2 p
      refine ⟨D, List.replicate xs.length true, rfl, sl_of (by rw [List.map_replicate]; exact p.2), true, ?_, iteF ?_⟩
      · congr 1
        exact List.all_eq_true.mpr fun b hb => (List.mem_replicate.mp hb).2
      obtain ⟨ks, rfl, e2, h3⟩ := pl_ks (dps_s hd (s1.trans p.1))
      obtain ⟨nd, few⟩ := prs_ks hps e2
      refine ⟨_, rfl, a, ks, rfl, same_a (s1.trans p.1) hxs, h3, by omega, fun c L hc hs hall => ?_⟩
      refine ⟨c, L, rfl, upd_same, fun z hz => same_t (same_new hc) (h3 z (hs z hz)), fun hn => ?_⟩
      have el : L.length = ks.length := by
        have := nodup_eq hn nd (fun y => ⟨fun hy => by
          obtain ⟨z, hz, rfl⟩ := List.mem_map.mp hy
          exact List.mem_map.mpr ⟨z, hs z hz, rfl⟩, fun hy => by
          obtain ⟨z, hz, rfl⟩ := List.mem_map.mp hy
          exact hall z hz⟩)
        simpa using this
      refine ⟨_, rfl, a, _, rfl, same_a (same_new hc) (same_a (s1.trans p.1) hxs), rfl, ?_⟩
      rw [el, List.length_map, decide_eq_true rfl]
      exact q _ ((s1.trans p.1).trans (same_new hc))
end
end Tk

namespace Tk
open PySem PySem.Spec PyProof.Rows L2
theorem at0 {x : Int} {l : List Int} : atI ((x :: l).map V.int) (0 : Int) = some (V.int x) := atI_nat (j := 0) rfl
theorem rgV_things (n : Nat) : rgV 0 (n : Int) = (things n).map V.int := by
  unfold rgV things
  rw [List.map_map]
  have e : ((n : Int) - 0).toNat = n := by omega
  rw [e]
  refine List.map_congr_left fun k _ => ?_
  show V.int (0 + (k : Int)) = V.int (Int.ofNat k)
  rw [Int.zero_add]; rfl
theorem pushed_take {ps : List (Int × Int)} {l : List Int} {i : Nat} {p : Int × Int} (h : ps[i]? = some p) :
    (pushedL (ps.take (i + 1)) l) = if p.1 ∈ l then pushedL (ps.take i) l ++ [p.2] else pushedL (ps.take i) l := by
  unfold pushedL
  rw [take_at h, List.filter_append, List.map_append]
  by_cases c : p.1 ∈ l
  · simp [c]
  · simp [c]
theorem filter_take {l : List Int} {f : Int → Bool} {i : Nat} {x : Int} (h : l[i]? = some x) : (l.take (i + 1)).filter f = if f x = true then (l.take i).filter f ++ [x] else (l.take i).filter f := by
  rw [take_at h, List.filter_append]
  by_cases c : f x = true
  · simp [c]
  · simp [c]
theorem take_all {α : Type} {l : List α} {n : Nat} (h : l.length = n) : l.take n = l := by rw [← h, List.take_length]
theorem erase_ix {l : List Int} {x : Int} (hx : x ∈ l) : ∃ j : Nat, l[j]? = some x ∧ (∀ m : Nat, m < j → l[m]? ≠ some x) ∧ l.eraseIdx j = l.erase x := by
  induction l with
  | nil => exact nomatch hx
  | cons y l ih =>
    by_cases e : y = x
    · subst e
      exact ⟨0, by simp, fun m hm => by omega, by simp⟩
    · have hx' : x ∈ l := by
        rcases List.mem_cons.mp hx with q | q
        · exact absurd q.symm e
        · exact q
      obtain ⟨j, h1, h2, h3⟩ := ih hx'
      refine ⟨j + 1, by simpa using h1, ?_, ?_⟩
      · intro m hm
        cases m with
        | zero => simp [e]
        | succ m => simpa using h2 m (by omega)
      · have e' : (y == x) = false := by simpa using e
        simp [List.erase_cons, e', h3]
section
variable {P : Program} {w : World} {K : PySem.W.Frag} {mg : Str → Option Value} {base : Heap}
abbrev nOrd : List Str := ["size", "arrows", "order", "left", "pushed", "free", "start", "end", "thing"]
theorem sc_ordOf : FnScope nOrd ["size", "arrows"] (defScope sOrdOf) := ⟨rfl, rfl, rfl, by decide +kernel, rfl, by decide +kernel, by decide +kernel⟩
theorem ok_ordOf {f : Addr} {fd : FuncData} (F : Fun K "order_of" "order_of" sOrdOf f fd) (B : Bl mg) : FnOk P w K mg base CX0 1 f fd ["size", "arrows"] (spOrdOf K) := by
  refine F.ok sc_ordOf (fun vs H Q E h => ?_) (fun cdv A outer s H vs Q E hr h => ?_)
  · obtain ⟨n, a, ps, rfl, _⟩ := h
    rfl
  · obtain ⟨n, a, ps, rfl, ⟨xs, hxs, hd⟩, hn, hps, hac, q⟩ := h
    refine ⟨_, pss_cons (ps_asg (pe_tup (pa_cons (pe_lst pa_nil) (pa_cons (pe_listRg rfl (by rfl) B.list (prg_1 (by rfl) B.range (pv 0))) pa_nil)))
        (pg_tup rfl (pgs_cons (pg_name (i := 2) sc_ordOf.nd rfl (Or.inl rfl)) (pgs_cons (pg_name (i := 3) sc_ordOf.nd rfl (Or.inr rfl)) pgs_nil))))
      (pss_cons (ps_while PassesOwn.never (pt_truth (pv 3) (fun _ => rfl))
        (pss_cons (ps_set (i := 4) sc_ordOf.nd rfl (Or.inr rfl)
          (pe_lc (own := [("start", 6), ("end", 7)]) (g := gTup K 2 (gCons (gName 6) (gCons (gName 7) gNil))) (tt := tTest (tOp (rIn K false) (tVar 6) (tVar 3))) rfl sc_ordOf.nd (pi_list (pv 1)) (blkOk_by (N := nOrd) (sc := defScope sOrdOf) (by decide +kernel))
            (fun _ _ _ _ _ => pg_tup rfl (pgs_cons (pg_name (i := 6) sc_ordOf.nd rfl (Or.inl rfl)) (pgs_cons (pg_name (i := 7) sc_ordOf.nd rfl (Or.inl rfl)) pgs_nil)))
            (fun _ _ _ _ _ => pts_one (pt_cmpR op_in_seq (pv 6) (pv 3) (by rfl)))
            (fun _ _ _ _ _ => pv 7)))
        (pss_cons (ps_setLc (i := 5) (own := [("thing", 8)]) (g := gName 8) (tt := tTest (tOp (rIn K true) (tVar 8) (tVar 4))) rfl sc_ordOf.nd rfl rfl (sw_true rfl rfl rfl (by decide +kernel)) (pi_list (pv 3)) (blkOk_by (N := nOrd) (sc := defScope sOrdOf) (by decide +kernel))
            (fun _ _ _ _ _ => pg_name (i := 8) sc_ordOf.nd rfl (Or.inl rfl))
            (fun _ _ _ _ _ => pts_one (pt_cmpR op_notIn_seq (pv 8) (pv 4) (by rfl)))
            (fun _ _ _ _ _ => pv 8))
        (pss_cons (ps_if (pt_not (pt_truth (pv 5) (fun _ => rfl))) (pss_one (ps_ret (pv 2))) pss_nil)
        (pss_cons (ps_expr (pe_bm PySem.F.plainAttrs_list PySem.F.slot_list_append PySem.F.type_list_append mt_append (pv 2) (pa_cons (pe_ix ix_list (pv 5) pe_int (fun _ _ => rfl)) pa_nil)))
        (pss_one (ps_expr (pe_bm PySem.F.plainAttrs_list PySem.F.slot_list_remove PySem.F.type_list_remove mt_remove (pv 3) (pa_cons (pe_ix ix_list (pv 5) pe_int (fun _ _ => rfl)) pa_nil)))))))))
      (pss_one (ps_ret (pv 2)))), ?_⟩
    have hl : xs.length = ps.length := by rw [dps_len hd, List.length_map]
    -- order, left = ([], list(range(size)))
    refine ⟨szle (by decide), fun po hpo => ?_⟩
    refine ⟨_, rfl, n, rfl, RgOk.of_le (by omega) (by omega) (by omega) (by omega), fun pl hpl => ⟨szle (by show 2 ≤ 100000; decide), fun pt hpt => ?_⟩⟩
    have npl : po ≠ pl := fun e => by rw [e, upd_same] at hpl; cases hpl
    have hpl0 : H pl = none := by rw [upd_ne npl.symm] at hpl; exact hpl
    have npt : pt ≠ po ∧ pt ≠ pl := ⟨(fun e => by rw [e, upd_ne npl, upd_same] at hpt; cases hpt), (fun e => by rw [e, upd_same] at hpt; cases hpt)⟩
    refine ⟨pt, _, rfl, st_of upd_same, rfl, _, _, rfl, _, _, rfl, rfl, ?_⟩
    refine ⟨fun m σ H1 => ∃ o l v4 v5 v6 v7 v8, σ = [some (V.int n), some (V.ref a), some (V.ref po), some (V.ref pl), v4, v5, v6, v7, v8] ∧ Same H H1 ∧ H1 po = some (.lst (o.map V.int)) ∧ H1 pl = some (.lst (l.map V.int)) ∧ OInv n ps o l ∧ l.length = m,
      ⟨n, [], things n, none, none, none, none, none, rfl, ?_, ?_, ?_, oinv_0 n ps, things_len n⟩, ?_⟩
    · exact ((same_new hpo).trans (same_new hpl)).trans (same_new hpt)
    · rw [upd_ne npt.1.symm, upd_ne npl, upd_same]; rfl
    · rw [upd_ne npt.2.symm, upd_same, rgV_things]
    rintro m σ H1 ⟨o, l, v4, v5, v6, v7, v8, rfl, s1, ho, hll, inv, rfl⟩
    refine ⟨_, rfl, _, .inl ⟨_, sl_of hll, rfl⟩, ?_⟩
    cases l with
    | nil =>
      exact ⟨_, rfl, q H1 po o s1 hpo ho (oinv_end inv)⟩
    | cons y l0 =>
      generalize hL : y :: l0 = l at *
      have lne : l ≠ [] := by rw [← hL]; simp
      have lem : (!(l.map V.int).isEmpty) = true := by rw [← hL]; rfl
      rw [lem]
      refine ⟨_, fun σ' H' z => z, ?_⟩
      -- pushed
      refine ⟨_, rfl, a, rfl, ⟨xs, same_l s1 hxs⟩, fun D hD => ?_⟩
      refine lc_list (xs := xs) (LcP H1 D fun k => (pushedL (ps.take k) l).map V.int) (lcp_0 hD rfl) (fun k H2 _ p => same_l (s1.trans p.1) hxs) ?_ ?_
      · intro k x H2 hx p
        obtain ⟨⟨i, j⟩, t, hpk, rfl, ht⟩ := pl_at (dps_s hd (s1.trans p.1)) hx
        have short : ((pushedL (ps.take k) l).map V.int).length < 100000 := by
          have h1 := hps.2.1
          have h2 : (pushedL (ps.take k) l).length ≤ (ps.take k).length := by unfold pushedL; rw [List.length_map]; exact List.length_filter_le ..
          rw [List.length_take] at h2
          rw [List.length_map]; omega
        refine ⟨t, _, rfl, ht, rfl, _, _, rfl, _, _, rfl, rfl, rfl, _, rfl, _, rfl, pl, _, rfl, .inl (sl_of (p.1 _ _ hll)), rfl, flat_ints l, _, in_bl, ?_⟩
        have et := pushed_take (l := l) hpk
        by_cases c : i ∈ l
        · rw [decide_eq_true c]
          refine ⟨_, rfl, ?_⟩
          refine lcp_put hD p ?_ short
          rw [et, if_pos c, List.map_append]; rfl
        · rw [decide_eq_false c]
          refine iteF (lcp_no p ?_)
          rw [et, if_neg c]
      · intro H2 p
        have hD2 : H2 D = some (.lst ((pushedL (ps.take xs.length) l).map V.int)) := p.2
        rw [take_all hl.symm] at hD2
        have s2 : Same H1 H2 := p.1
        have hDn : H D = none := s1.free hD
        -- free
        refine ⟨_, rfl, pl, rfl, ⟨_, sl_of (s2 _ _ hll)⟩, fun G hG => ?_⟩
        refine lc_list (xs := l.map V.int) (LcP H2 G fun k => ((l.take k).filter fun x => !decide (x ∈ pushedL ps l)).map V.int) (lcp_0 hG rfl) (fun k H3 _ p3 => sl_of (p3.1 _ _ (s2 _ _ hll))) ?_ ?_
        · intro k x H3 hx p3
          obtain ⟨z, hz, rfl⟩ := int_at hx
          have et := filter_take (f := fun x => !decide (x ∈ pushedL ps l)) hz
          have short : (((l.take k).filter fun x => !decide (x ∈ pushedL ps l)).map V.int).length < 100000 := by
            have h2 : ((l.take k).filter fun x => !decide (x ∈ pushedL ps l)).length ≤ (l.take k).length := List.length_filter_le ..
            have h3 := nodup_le inv.nl (fun x hx => (inv.al x).mpr (.inr hx))
            rw [things_len] at h3
            rw [List.length_take] at h2
            rw [List.length_map]; omega
          refine ⟨rfl, _, rfl, _, rfl, D, _, rfl, .inl (sl_of (p3.1 _ _ hD2)), rfl, flat_ints _, _, notin_bl, ?_⟩
          by_cases c : z ∈ pushedL ps l
          · rw [decide_eq_true c]
            refine iteF (lcp_no p3 ?_)
            rw [et, if_neg (by simp [c])]
          · rw [decide_eq_false c]
            refine ⟨_, rfl, ?_⟩
            refine lcp_put hG p3 ?_ short
            rw [et, if_pos (by simp [c]), List.map_append]; rfl
        · intro H3 p3
          have hG3 : H3 G = some (.lst (((l.take (l.map V.int).length).filter fun x => !decide (x ∈ pushedL ps l)).map V.int)) := p3.2
          rw [take_all (by simp)] at hG3
          have s3 : Same H2 H3 := p3.1
          have eF : (l.filter fun x => !decide (x ∈ pushedL ps l)) = freeL ps l := rfl
          rw [eF] at hG3
          have fne := freeL_ne hac lne
          obtain ⟨x, fr, hfr⟩ : ∃ x fr, freeL ps l = x :: fr := by
            cases e : freeL ps l with
            | nil => exact absurd e fne
            | cons x fr => exact ⟨x, fr, rfl⟩
          have hxf : x ∈ freeL ps l := by rw [hfr]; exact List.mem_cons_self ..
          rw [hfr] at hG3
          refine ⟨_, rfl, _, .inl ⟨_, sl_of hG3, rfl⟩, iteF ?_⟩
          have ho3 : H3 po = some (.lst (o.map V.int)) := s3 _ _ (s2 _ _ ho)
          have hl3 : H3 pl = some (.lst (l.map V.int)) := s3 _ _ (s2 _ _ hll)
          have nG : H1 G = none := s2.free hG
          have nGo : G ≠ po := fun e => by rw [e, ho] at nG; cases nG
          have nGl : G ≠ pl := fun e => by rw [e, hll] at nG; cases nG
          have olen : (o.map V.int).length < 100000 := by
            have h3 := nodup_le inv.no (fun x hx => (inv.al x).mpr (.inl hx))
            rw [things_len] at h3
            rw [List.length_map]; omega
          refine ⟨_, rfl, .inl ⟨rfl, _, sl_of ho3⟩, _, rfl, G, _, _, _, rfl, rfl, sl_of hG3, at0, po, _, _, rfl, rfl, ho3, szlt olen, ?_⟩
          have hl4 : (upd H3 po (.lst (o.map V.int ++ [V.int x]))) pl = some (.lst (l.map V.int)) := by rw [upd_ne npl.symm]; exact hl3
          obtain ⟨j, hj1, hj2, hj3⟩ := erase_ix (mem_freeL.mp hxf).1
          refine ⟨_, rfl, .inl ⟨rfl, _, sl_of hl4⟩, _, rfl, G, _, _, _, rfl, rfl, sl_of (by rw [upd_ne nGo]; exact hG3), at0, pl, l, x, j, rfl, rfl, hl4, hj1, hj2, ?_⟩
          refine ⟨(l.erase x).length, ?_, o ++ [x], l.erase x, _, _, _, _, _, rfl, ?_, ?_, ?_, oinv_step inv (fun p hp => mem_things.mpr ⟨(hps.2.2 p hp).1, (hps.2.2 p hp).2.1⟩) hxf, rfl⟩
          · have := List.length_erase_of_mem (mem_freeL.mp hxf).1
            have hp : 0 < l.length := List.length_pos_of_mem (mem_freeL.mp hxf).1
            omega
          · exact same_mut (same_mut (s1.trans (s2.trans s3)) hpo) hpl0
          · rw [upd_ne npl, upd_same, List.map_append]; rfl
          · rw [upd_same, hj3]
end
end Tk

namespace Tk
open PySem PySem.Spec PyProof.Rows L2
def spAreArr (K : PySem.W.Frag) : Sp := fun vs H Q _ => ∃ (n : Nat) (a : Addr) (ps : List (Int × Int)), vs = [.int n, .ref a] ∧ PL K H a ps ∧ n ≤ 60 ∧ Prs n ps ∧ Acy ps ∧ ∀ H', Same H H' → Q (.bl true) H'
def spAreTies (K : PySem.W.Frag) : Sp := fun vs H Q _ => ∃ (n : Int) (a : Addr) (ps : List (Int × Int)), vs = [.int n, .ref a] ∧ PA2 K H a ps ∧ Prs n ps ∧ (∀ p ∈ ps, p.1 < p.2) ∧ ∀ H', Same H H' → Q (.bl true) H'
def spIsSize : Sp := fun vs H Q _ => ∃ i : Int, vs = [.int i] ∧ Q (.bl (decide (0 ≤ i) && decide (i ≤ 6))) H
def spChkSize : Sp := fun vs H Q _ => ∃ i : Int, vs = [.int i] ∧ 0 ≤ i ∧ i ≤ 6 ∧ Q .non H
section
variable {P : Program} {w : World} {K : PySem.W.Frag} {mg : Str → Option Value} {base : Heap}
theorem sc_areArr : FnScope ["size", "value"] ["size", "value"] (defScope sAreArr) := ⟨rfl, rfl, rfl, by decide +kernel, rfl, by decide +kernel, by decide +kernel⟩
theorem ok_areArr {f f5 f6 : Addr} {fd fd5 fd6 : FuncData} (F : Fun K "are_arrows" "are_arrows" sAreArr f fd) (D5 : Df K mg "are_pairs" sArePairs ["size", "value"] f5 fd5) (G5 : FnOk P w K mg base CX0 5 f5 fd5 ["size", "value"] (spArePairs K))
    (D6 : Df K mg "order_of" sOrdOf ["size", "arrows"] f6 fd6) (B : Bl mg) : FnOk P w K mg base CX0 6 f fd ["size", "value"] (spAreArr K) := by
  have G6 : FnOk P w K mg base CX0 1 f6 fd6 ["size", "arrows"] (spOrdOf K) := ok_ordOf D6.F B
  refine F.ok sc_areArr (fun vs H Q E h => ?_) (fun cdv A outer s H vs Q E hr h => ?_)
  · obtain ⟨n, a, ps, rfl, _⟩ := h
    rfl
  · obtain ⟨n, a, ps, rfl, hp, hn, hps, hac, q⟩ := h
    refine ⟨_, pss_one (ps_ret (pe_and (pe_call G5 hr rfl D5.g D5.F.kp D5.b .nil pass0 (pa_cons (pv 0) (pa_cons (pv 1) pa_nil)))
      (pe_one (pe_cmpR op_eq (pe_callB call_len_seq (by rfl) B.len PySem.boot_len (pa_cons (pe_call G6 (hr.mono (by decide)) rfl D6.g D6.F.kp D6.b .nil pass0 (pa_cons (pv 0) (pa_cons (pv 1) pa_nil))) pa_nil)) (pv 0) (nomark _))))), ?_⟩
    refine ⟨_, rfl, _, rfl, n, a, ps, rfl, pl_pa2 hp, hps, fun H1 s1 => ⟨true, rfl, iteT ?_⟩⟩
    refine ⟨_, rfl, _, rfl, n, a, ps, rfl, pl_s hp s1, hn, hps, hac, fun H2 p o s2 hp0 hp2 ht => ?_⟩
    refine ⟨p, _, rfl, .inl (sl_of hp2), _, rfl, rfl, ?_⟩
    rw [List.length_map, topo_len ht, decide_eq_true rfl]
    exact q H2 (s1.trans s2)
theorem sc_areTies : FnScope ["size", "value", "low", "high"] ["size", "value"] (defScope sAreTies) := ⟨rfl, rfl, rfl, by decide +kernel, rfl, by decide +kernel, by decide +kernel⟩
theorem ok_areTies {f f5 : Addr} {fd fd5 : FuncData} (F : Fun K "are_ties" "are_ties" sAreTies f fd) (D5 : Df K mg "are_pairs" sArePairs ["size", "value"] f5 fd5) (G5 : FnOk P w K mg base CX0 5 f5 fd5 ["size", "value"] (spArePairs K))
    (B : Bl mg) : FnOk P w K mg base CX0 6 f fd ["size", "value"] (spAreTies K) := by
  refine F.ok sc_areTies (fun vs H Q E h => ?_) (fun cdv A outer s H vs Q E hr h => ?_)
  · obtain ⟨n, a, ps, rfl, _⟩ := h
    rfl
  · obtain ⟨n, a, ps, rfl, hp, hps, hlt, q⟩ := h
    refine ⟨_, pss_one (ps_ret (pe_and (pe_call G5 hr rfl D5.g D5.F.kp D5.b .nil pass0 (pa_cons (pv 0) (pa_cons (pv 1) pa_nil)))
      (pe_one (pe_callB (cr_all rfl) (by rfl) B.all PyProof.Rows.boot_all (pa_cons
          (pe_lc (own := [("low", 2), ("high", 3)]) (g := gTup K 2 (gCons (gName 2) (gCons (gName 3) gNil))) (tt := tYes) rfl sc_areTies.nd (pi_sq (pv 1)) (blkOk_by (N := ["size", "value", "low", "high"]) (sc := defScope sAreTies) (by decide +kernel))
            (fun _ _ _ _ _ => pg_tup rfl (pgs_cons (pg_name (i := 2) sc_areTies.nd rfl (Or.inl rfl)) (pgs_cons (pg_name (i := 3) sc_areTies.nd rfl (Or.inl rfl)) pgs_nil))) (fun _ _ _ _ _ => pts_nil)
            (fun _ _ _ _ _ => pe_cmpR op_lt (pv 2) (pv 3) (nomark _))) pa_nil))))), ?_⟩
    refine ⟨_, rfl, _, rfl, n, a, ps, rfl, hp, hps, fun H1 s1 => ⟨true, rfl, iteT ?_⟩⟩
    obtain ⟨xs, hxs, hd⟩ := pa2_s hp s1
    refine ⟨_, rfl, a, xs, rfl, hxs, fun it hit D hD => ?_⟩
    refine lc_sq hit (LcP H1 D fun k => (List.replicate k (.bl true))) (lcp_0 hD rfl) (fun k H2 _ p => p.1) ?_ ?_
    · intro k x H2 hx p
      have hk := lt_of_at hx
      have hl : xs.length = ps.length := by rw [dps_len hd, List.length_map]
      obtain ⟨⟨i, j⟩, t, hpk, rfl, ht⟩ := pl_at (dps_s hd p.1) hx
      have hij := hlt (i, j) (List.mem_of_getElem? hpk)
      refine ⟨t, _, rfl, ht, rfl, _, _, rfl, _, _, rfl, rfl, rfl, _, rfl, _, rfl, _, _, rfl, rfl, ?_⟩
      refine lcp_put (y := V.bl (decide ((i, j).fst < (i, j).snd))) hD p ?_ (by have := hps.2.1; simp; omega)
      rw [decide_eq_true hij]
      simp [List.replicate_succ']
    · intro H2 p
      refine ⟨D, List.replicate xs.length true, rfl, sl_of (by rw [List.map_replicate]; exact p.2), ?_⟩
      have e : (List.replicate xs.length true).all id = true := List.all_eq_true.mpr fun b hb => (List.mem_replicate.mp hb).2
      rw [e]
      exact q H2 (s1.trans p.1)
theorem sc_isSize : FnScope ["value"] ["value"] (defScope sIsSize) := ⟨rfl, rfl, rfl, by decide +kernel, rfl, by decide +kernel, by decide +kernel⟩
theorem ok_isSize {f f1 f2 : Addr} {fd fd1 fd2 : FuncData} {tk : Tok} (F : Fun K "is_size" "is_size" sIsSize f fd) (D1 : Df K mg "is_integer" sIsInt ["value"] f1 fd1) (D2 : Df K mg "is_count" sIsCnt ["value"] f2 fd2)
    (hm : mg "MOST_THINGS" = some (.int 6 tk)) (B : Bl mg) : FnOk P w K mg base CX0 3 f fd ["value"] spIsSize := by
  have G2 : FnOk P w K mg base CX0 2 f2 fd2 ["value"] (spIsCnt K) := ok_isCnt D2.F D1 B
  refine F.ok sc_isSize (fun vs H Q E h => ?_) (fun cdv A outer s H vs Q E hr h => ?_)
  · obtain ⟨i, rfl, _⟩ := h
    rfl
  · obtain ⟨i, rfl, q⟩ := h
    refine ⟨_, pss_one (ps_ret (pe_and (pe_call G2 hr rfl D2.g D2.F.kp D2.b .nil pass0 (pa_cons (pv 0) pa_nil)) (pe_one (pe_cmpR op_le (pv 0) (pe_glob (v := .int 6) rfl hm ⟨_, rfl⟩) (nomark _))))), ?_⟩
    refine ⟨_, rfl, .int i, some i, rfl, .int i, _, rfl, ?_⟩
    show if decide (0 ≤ i) = true then _ else _
    by_cases h0 : 0 ≤ i
    · rw [decide_eq_true h0] at q ⊢
      rw [Bool.true_and] at q
      exact iteT ⟨_, rfl, _, _, rfl, rfl, q⟩
    · rw [decide_eq_false h0] at q ⊢
      exact iteF q
theorem sc_chkSize : FnScope ["size"] ["size"] (defScope sChkSize) := ⟨rfl, rfl, rfl, by decide +kernel, rfl, by decide +kernel, by decide +kernel⟩
theorem ok_chkSize {f f3 : Addr} {fd fd3 : FuncData} (F : Fun K "check_size" "check_size" sChkSize f fd) (D3 : Df K mg "is_size" sIsSize ["value"] f3 fd3) (G3 : FnOk P w K mg base CX0 3 f3 fd3 ["value"] spIsSize) :
    FnOk P w K mg base CX0 4 f fd ["size"] spChkSize := by
  refine F.ok sc_chkSize (fun vs H Q E h => ?_) (fun cdv A outer s H vs Q E hr h => ?_)
  · obtain ⟨i, rfl, _⟩ := h
    rfl
  · obtain ⟨i, rfl, h0, h1, q⟩ := h
    refine ⟨_, pss_one (ps_if (pt_not (pt_val (pe_call G3 hr rfl D3.g D3.F.kp D3.b .nil pass0 (pa_cons (pv 0) pa_nil)))) pss_never pss_nil), ?_⟩
    refine ⟨_, rfl, i, rfl, _, rfl, ?_⟩
    rw [decide_eq_true h0, decide_eq_true h1]
    exact iteF q
end
end Tk

namespace Tk
open PySem PySem.Spec PyProof.Rows L2
/-! ## Plan -/
theorem k_as : ¬ (("_arrows" : Str) = "_size") := by decide +kernel
theorem k_ts : ¬ (("_ties" : Str) = "_size") := by decide +kernel
theorem k_ta : ¬ (("_ties" : Str) = "_arrows") := by decide +kernel
theorem k_sa : ¬ (("_size" : Str) = "_arrows") := by decide +kernel
theorem k_st : ¬ (("_size" : Str) = "_ties") := by decide +kernel
theorem k_at : ¬ (("_arrows" : Str) = "_ties") := by decide +kernel
def pf (n : Int) (a t : Addr) : List (Str × V) := putF "_ties" (.ref t) (putF "_arrows" (.ref a) (putF "_size" (.int n) []))
theorem pf_size (n : Int) (a t : Addr) : (pf n a t).lookup ("_size" : Str) = some (.int n) := by
  unfold pf
  rw [lookup_putF, if_neg k_st, lookup_putF, if_neg k_sa, lookup_putF, if_pos rfl]
theorem pf_arr (n : Int) (a t : Addr) : (pf n a t).lookup ("_arrows" : Str) = some (.ref a) := by
  unfold pf
  rw [lookup_putF, if_neg k_at, lookup_putF, if_pos rfl]
theorem pf_ties (n : Int) (a t : Addr) : (pf n a t).lookup ("_ties" : Str) = some (.ref t) := by
  unfold pf
  rw [lookup_putF, if_pos rfl]
theorem pf_no (n : Int) (a t : Addr) {m : Str} (h1 : ¬ m = "_size") (h2 : ¬ m = "_arrows") (h3 : ¬ m = "_ties") : (pf n a t).lookup m = none := by
  unfold pf
  rw [lookup_putF, if_neg h3, lookup_putF, if_neg h2, lookup_putF, if_neg h1]
  all_goals rfl
theorem putF_len (f : Str) (v : V) : ∀ fs : List (Str × V), (putF f v fs).length ≤ fs.length + 1
  | [] => by simp [putF]
  | (g, x) :: r => by
    unfold putF
    split
    · simp
    · have := putF_len f v r
      simp; omega
/-- ps' is ps, sorted -/
def SortOf (ps ps' : List (Int × Int)) : Prop := ps'.Perm ps ∧ ps'.Pairwise fun p q => SrtO.lexB q p = false
def SrtPs (A : List (Int × Int)) : Prop := A.Pairwise fun p q => SrtO.lexB q p = false
theorem lex_anti {p q : Int × Int} (h : SrtO.lexB q p = false) (g : SrtO.lexB p q = false) : p = q := by
  have h1 : ¬ SrtO.lexB q p = true := by rw [h]; simp
  have g1 : ¬ SrtO.lexB p q = true := by rw [g]; simp
  rw [SrtO.lexB_iff] at h1 g1
  exact Prod.ext (by omega) (by omega)
theorem pairs_one {A B : List (Int × Int)} (s1 : SrtPs A) (n1 : A.Nodup) (s2 : SrtPs B) (n2 : B.Nodup) (m : ∀ p, p ∈ A ↔ p ∈ B) : A = B :=
  List.Perm.eq_of_pairwise (fun a b _ _ h1 h2 => lex_anti h1 h2) s1 s2 ((List.perm_ext_iff_of_nodup n1 n2).mpr m)
/-- a Plan stands at p -/
structure PlanAt (K : PySem.W.Frag) (C : Addr) (H : Hp) (p : Addr) (n : Nat) (as ts : List (Int × Int)) : Prop where
  ob : ∃ dx a t, H p = some (.ins C dx (pf n a t)) ∧ PL K H a as ∧ PL K H t ts
  n6 : n ≤ 6
  pa : Prs n as
  ac : Acy as
  pt : Prs n ts
  lt : ∀ q ∈ ts, q.1 < q.2
  sa : SrtPs as
  st : SrtPs ts
theorem plan_s {K : PySem.W.Frag} {C : Addr} {H H' : Hp} {p : Addr} {n : Nat} {as ts : List (Int × Int)} (h : PlanAt K C H p n as ts) (e : Same H H') : PlanAt K C H' p n as ts := by
  obtain ⟨⟨dx, a, t, h1, h2, h3⟩, n6, h4, h5, h6, h7, h8, h9⟩ := h
  exact ⟨⟨dx, a, t, e _ _ h1, pl_s h2 e, pl_s h3 e⟩, n6, h4, h5, h6, h7, h8, h9⟩
theorem prs_perm {n : Int} {ps qs : List (Int × Int)} (h : Prs n ps) (e : qs.Perm ps) : Prs n qs :=
  ⟨e.nodup_iff.mpr h.1, by rw [e.length_eq]; exact h.2.1, fun p hp => h.2.2 p (e.mem_iff.mp hp)⟩
theorem acy_perm {ps qs : List (Int × Int)} (h : Acy ps) (e : qs.Perm ps) : Acy qs := let ⟨r, hr⟩ := h; ⟨r, fun p hp => hr p (e.mem_iff.mp hp)⟩
/-- the pair that a value is in a heap -/
def prV (H : Hp) : V → Int × Int
  | .ref t => match H t with
    | some (.tup [.int i, .int j]) => (i, j)
    | _ => (0, 0)
  | _ => (0, 0)
theorem prV_eq {H : Hp} {t : Addr} {i j : Int} (h : H t = some (.tup [.int i, .int j])) : prV H (.ref t) = (i, j) := by
  unfold prV
  simp only [h]
/-- __init__ of a fresh Plan -/
def spInit (K : PySem.W.Frag) (C : Addr) : Sp := fun vs H Q _ => ∃ (p dx a t : Addr) (n : Nat) (as ts : List (Int × Int)), vs = [.ref p, .int n, .ref a, .ref t] ∧ H p = some (.ins C dx []) ∧ PL K H a as ∧ PA2 K H t ts ∧
  n ≤ 6 ∧ Prs n as ∧ Acy as ∧ Prs n ts ∧ (∀ q ∈ ts, q.1 < q.2) ∧
  ∀ H' as' ts', (∀ b o, b ≠ p → H b = some o → H' b = some o) → SortOf as as' → SortOf ts ts' → PlanAt K C H' p n as' ts' → Q .non H'
/-- facts of the class -/
structure PlC (K : PySem.W.Frag) (mg : Str → Option Value) (C : Addr) : Prop where
  cl : Cls K C
  nS : NoAttr K C "_size"
  nA : NoAttr K C "_arrows"
  nT : NoAttr K C "_ties"
  mgC : mg "Plan" = some (.ref C)
/-- [(i, j) for i, j in pairs], all tuples new, sorted -/
theorem sort_pairs {K : PySem.W.Frag} {H2 : Hp} {xs ys : List V} {ps : List (Int × Int)} (hl : xs.length = ps.length)
    (h : ∀ (i : Nat) (x : V), xs[i]? = some x → ∃ (t : Addr) (p : Int × Int), x = V.ref t ∧ ps[i]? = some p ∧ H2 t = some (.tup [.int p.1, .int p.2])) (s : SrtO.Srtd (ltP (prV H2)) ys) (b : SrtO.Stb (ltP (prV H2)) ys xs) :
    SortOf ps (ys.map (prV H2)) ∧ DpAll K H2 ys ((ys.map (prV H2)).map dP) := by
  have e : xs.map (prV H2) = ps := by
    refine List.ext_getElem? fun i => ?_
    rw [List.getElem?_map]
    cases hx : xs[i]? with
    | none =>
      have : ps[i]? = none := by
        rw [List.getElem?_eq_none_iff] at hx ⊢
        omega
      rw [this]; rfl
    | some x =>
      obtain ⟨t, p, rfl, hp, ht⟩ := h i x hx
      rw [hp]
      show some (prV H2 (.ref t)) = some p
      rw [prV_eq ht]
  refine ⟨⟨?_, ?_⟩, ?_⟩
  · rw [← e]
    exact b.perm.map _
  · rw [List.pairwise_map]
    exact s
  · have all : ∀ y ∈ ys, ∃ (t : Addr) (p : Int × Int), y = V.ref t ∧ H2 t = some (.tup [.int p.1, .int p.2]) := fun y hy => by
      obtain ⟨i, hi⟩ := List.getElem?_of_mem (b.perm.mem_iff.mp hy)
      obtain ⟨t, p, e1, _, e2⟩ := h i y hi
      exact ⟨t, p, e1, e2⟩
    clear s b e h hl
    induction ys with
    | nil => exact .nil
    | cons y ys ih =>
      obtain ⟨t, p, rfl, ht⟩ := all y (List.mem_cons_self ..)
      refine .cons ?_ (ih fun z hz => all z (List.mem_cons_of_mem _ hz))
      rw [prV_eq ht]
      exact dP_mk (st_of ht)

/-! what is no object stays where only the object changes -/
section
variable {K : PySem.W.Frag} {Ga Gb : Hp} {p C' dx' : Addr} {fs : List (Str × V)}
theorem obj_rd (hp : Ga p = some (.ins C' dx' fs)) (kp : ∀ b o, b ≠ p → Ga b = some o → Gb b = some o) {c : Addr} {u : HO} (nu : ∀ C' dx' fs, u ≠ .ins C' dx' fs) (h : Rd Ga c u) : Rd Gb c u := by
  rcases h with h | ⟨o, h⟩
  · exact .inl (kp _ _ (fun e => by rw [e, hp] at h; exact nu _ _ _ (Option.some.inj h).symm) h)
  · exact .inr ⟨o, kp _ _ (fun e => by rw [e, hp] at h; cases h) h⟩
theorem obj_l (hp : Ga p = some (.ins C' dx' fs)) (kp : ∀ b o, b ≠ p → Ga b = some o → Gb b = some o) {c : Addr} {ys : List V} (h : SqL K Ga c ys) : SqL K Gb c ys := h.elim (fun h => .inl (obj_rd hp kp (fun _ _ _ e => nomatch e) h)) .inr
theorem obj_t (hp : Ga p = some (.ins C' dx' fs)) (kp : ∀ b o, b ≠ p → Ga b = some o → Gb b = some o) {c : Addr} {ys : List V} (h : SqT K Ga c ys) : SqT K Gb c ys := h.elim (fun h => .inl (obj_rd hp kp (fun _ _ _ e => nomatch e) h)) .inr
theorem obj_d (hp : Ga p = some (.ins C' dx' fs)) (kp : ∀ b o, b ≠ p → Ga b = some o → Gb b = some o) : ∀ {ps : List (Int × Int)} {xs : List V}, DpAll K Ga xs (ps.map dP) → DpAll K Gb xs (ps.map dP)
  | [], _, h => by cases h; exact .nil
  | z :: zs, _, h => by
    cases h with
    | cons g1 g2 =>
      obtain ⟨t, rfl, ht⟩ := dP_inv g1
      exact .cons (dP_mk (obj_t hp kp ht)) (obj_d hp kp g2)
theorem obj_pl (hp : Ga p = some (.ins C' dx' fs)) (kp : ∀ b o, b ≠ p → Ga b = some o → Gb b = some o) {b : Addr} {ps : List (Int × Int)} (h : PL K Ga b ps) : PL K Gb b ps := let ⟨xs, h1, h2⟩ := h; ⟨xs, obj_l hp kp h1, obj_d hp kp h2⟩
theorem obj_pa2 (hp : Ga p = some (.ins C' dx' fs)) (kp : ∀ b o, b ≠ p → Ga b = some o → Gb b = some o) {b : Addr} {ps : List (Int × Int)} (h : PA2 K Ga b ps) : PA2 K Gb b ps := let ⟨xs, h1, h2⟩ := h; ⟨xs, h1.elim (fun h => .inl (obj_l hp kp h)) (fun h => .inr (obj_t hp kp h)), obj_d hp kp h2⟩
end
section
variable {P : Program} {w : World} {K : PySem.W.Frag} {mg : Str → Option Value} {base : Heap}
abbrev nInit : List Str := ["self", "size", "arrows", "ties", "start", "end", "low", "high"]
theorem sc_init : FnScope nInit ["self", "size", "arrows", "ties"] (defScope sInit) := ⟨rfl, rfl, rfl, by decide +kernel, rfl, by decide +kernel, by decide +kernel⟩
theorem ok_init {f f4 f6 f7 C : Addr} {fd fd4 fd6 fd7 : FuncData} (F : Fun K "__init__" "Plan.__init__" sInit f fd) (T : PlC K mg C)
    (D4 : Df K mg "check_size" sChkSize ["size"] f4 fd4) (G4 : FnOk P w K mg base CX0 4 f4 fd4 ["size"] spChkSize)
    (D6 : Df K mg "are_arrows" sAreArr ["size", "value"] f6 fd6) (G6 : FnOk P w K mg base CX0 6 f6 fd6 ["size", "value"] (spAreArr K))
    (D7 : Df K mg "are_ties" sAreTies ["size", "value"] f7 fd7) (G7 : FnOk P w K mg base CX0 6 f7 fd7 ["size", "value"] (spAreTies K)) (B : Bl mg) :
    FnOk P w K mg base CX0 7 f fd ["self", "size", "arrows", "ties"] (spInit K C) := by
  refine F.ok sc_init (fun vs H Q E h => ?_) (fun cdv A outer s H vs Q E hr h => ?_)
  · obtain ⟨p, dx, a, t, n, as, ts, rfl, _⟩ := h
    rfl
  · obtain ⟨p, dx, a, t, n, as, ts, rfl, hp, ha, ht, n6, pa, ac, pt, lt, q⟩ := h
    refine ⟨_, pss_cons (ps_expr (pe_call G4 (hr.mono (by decide)) rfl D4.g D4.F.kp D4.b .nil pass0 (pa_cons (pv 1) pa_nil)))
      (pss_cons (ps_if (pt_not (pt_val (pe_call G6 hr rfl D6.g D6.F.kp D6.b .nil pass0 (pa_cons (pv 1) (pa_cons (pv 2) pa_nil))))) pss_never pss_nil)
      (pss_cons (ps_if (pt_not (pt_val (pe_call G7 hr rfl D7.g D7.F.kp D7.b .nil pass0 (pa_cons (pv 1) (pa_cons (pv 3) pa_nil))))) pss_never pss_nil)
      (pss_cons (ps_fld (pv 0) (pv 1) rfl)
      (pss_cons (ps_fld (pv 0) (pe_callB cr_sortedPO (by rfl) B.sorted PyProof.Rows.boot_sorted (pa_cons
          (pe_lc (own := [("start", 4), ("end", 5)]) (g := gTup K 2 (gCons (gName 4) (gCons (gName 5) gNil))) (tt := tYes) rfl sc_init.nd (pi_list (pv 2)) (blkOk_by (N := nInit) (sc := defScope sInit) (by decide +kernel))
            (fun _ _ _ _ _ => pg_tup rfl (pgs_cons (pg_name (i := 4) sc_init.nd rfl (Or.inl rfl)) (pgs_cons (pg_name (i := 5) sc_init.nd rfl (Or.inl rfl)) pgs_nil))) (fun _ _ _ _ _ => pts_nil)
            (fun _ _ _ _ _ => pe_tup (pa_cons (pv 4) (pa_cons (pv 5) pa_nil)))) pa_nil)) rfl)
      (pss_one (ps_fld (pv 0) (pe_callB cr_sortedPO (by rfl) B.sorted PyProof.Rows.boot_sorted (pa_cons
          (pe_lc (own := [("low", 6), ("high", 7)]) (g := gTup K 2 (gCons (gName 6) (gCons (gName 7) gNil))) (tt := tYes) rfl sc_init.nd (pi_sq (pv 3)) (blkOk_by (N := nInit) (sc := defScope sInit) (by decide +kernel))
            (fun _ _ _ _ _ => pg_tup rfl (pgs_cons (pg_name (i := 6) sc_init.nd rfl (Or.inl rfl)) (pgs_cons (pg_name (i := 7) sc_init.nd rfl (Or.inl rfl)) pgs_nil))) (fun _ _ _ _ _ => pts_nil)
            (fun _ _ _ _ _ => pe_tup (pa_cons (pv 6) (pa_cons (pv 7) pa_nil)))) pa_nil)) rfl)))))), ?_⟩
    refine ⟨_, rfl, n, rfl, by omega, by omega, ?_⟩
    refine ⟨_, rfl, _, rfl, n, a, as, rfl, ha, by omega, pa, ac, fun H1 s1 => ⟨true, rfl, iteF ?_⟩⟩
    refine ⟨_, rfl, _, rfl, n, t, ts, rfl, pa2_s ht s1, pt, lt, fun H2 s2 => ⟨true, rfl, iteF ?_⟩⟩
    have s02 : Same H H2 := s1.trans s2
    -- self._size = size
    refine ⟨_, rfl, _, rfl, p, C, dx, [], rfl, s02 _ _ hp, T.cl, T.nS, (by show 0 < 1000; decide), ?_⟩
    generalize hH3 : upd H2 p (.ins C dx (putF "_size" (.int n) [])) = H3
    have keep3 : ∀ b o, b ≠ p → H b = some o → H3 b = some o := fun b o hb e => by rw [← hH3, upd_ne hb]; exact s02 b o e
    have hp3 : H3 p = some (.ins C dx (putF "_size" (.int n) [])) := by rw [← hH3, upd_same]
    obtain ⟨xs, hxs, hd⟩ := obj_pl hp keep3 ha
    obtain ⟨ys, hys, hdy⟩ := obj_pa2 hp keep3 ht
    have hlx : xs.length = as.length := by rw [dps_len hd, List.length_map]
    have hly : ys.length = ts.length := by rw [dps_len hdy, List.length_map]
    refine ⟨_, rfl, a, rfl, ⟨xs, hxs⟩, fun D hD => ?_⟩
    refine lc_list (xs := xs) (fun k G => Same H3 G ∧ ∃ acc, G D = some (.lst acc) ∧ acc.length = k ∧ ∀ (i : Nat) (x : V), acc[i]? = some x → ∃ (t : Addr) (z : Int × Int), x = V.ref t ∧ as[i]? = some z ∧ G t = some (.tup [.int z.1, .int z.2]))
      ⟨same_new hD, [], upd_same, rfl, fun i x h => by simp at h⟩ (fun k G _ p => same_l p.1 hxs) ?_ ?_
    · rintro k x G hx ⟨sG, acc, hacc, hlen, hall⟩
      have hk := lt_of_at hx
      obtain ⟨⟨i, j⟩, u, hpk, rfl, hu⟩ := pl_at (dps_s hd sG) hx
      refine ⟨u, _, rfl, hu, rfl, _, _, rfl, _, _, rfl, rfl, rfl, _, rfl, _, rfl, szle (by show 2 ≤ 100000; decide), fun v hv => ?_⟩
      have nvD : v ≠ D := fun e => by rw [e, hacc] at hv; cases hv
      refine ⟨acc, by rw [upd_ne nvD.symm]; exact hacc, szlt (by have := pa.2.1; omega), same_mut (sG.trans (same_new hv)) hD, acc ++ [.ref v], upd_same, by simp [hlen], fun m x hm => ?_⟩
      by_cases c : m < acc.length
      · rw [List.getElem?_append_left c] at hm
        obtain ⟨t', z, e1, e2, e3⟩ := hall m x hm
        have n1 : t' ≠ v := fun e => by rw [e, hv] at e3; cases e3
        have n2 : t' ≠ D := fun e => by rw [e, hacc] at e3; cases e3
        exact ⟨t', z, e1, e2, by rw [upd_ne n2, upd_ne n1]; exact e3⟩
      · rw [List.getElem?_append_right (by omega)] at hm
        have : m - acc.length = 0 := by
          cases e : m - acc.length with
          | zero => rfl
          | succ k => rw [e] at hm; simp at hm
        rw [this] at hm
        simp at hm
        have em : m = k := by omega
        subst em
        exact ⟨v, (i, j), hm.symm, hpk, by rw [upd_ne nvD, upd_same]⟩
    · rintro G ⟨sG, acc, hacc, hlen, hall⟩
      refine ⟨D, acc, prV G, rfl, sl_of hacc, fun x hx => ?_, fun zs pz srt stb hpz => ?_⟩
      · obtain ⟨i, hi⟩ := List.getElem?_of_mem hx
        obtain ⟨t', z, e1, _, e3⟩ := hall i x hi
        exact ⟨t', e1, by rw [e1, prV_eq e3]; exact e3⟩
      obtain ⟨sortA, dpA⟩ := sort_pairs (by omega) hall srt stb
      have sG' : Same H3 (upd G pz (.lst zs)) := sG.trans (same_new hpz)
      refine ⟨_, rfl, p, C, dx, _, rfl, sG' _ _ hp3, T.cl, T.nA, (by have := putF_len "_size" (.int n) []; simp at this; omega), ?_⟩
      have npz : pz ≠ p := fun e => by rw [e, sG _ _ hp3] at hpz; cases hpz
      generalize hH4 : upd (upd G pz (.lst zs)) p (.ins C dx (putF "_arrows" (.ref pz) (putF "_size" (.int n) []))) = H4
      have hp4 : H4 p = some (.ins C dx (putF "_arrows" (.ref pz) (putF "_size" (.int n) []))) := by rw [← hH4, upd_same]
      have keep4 : ∀ b o, b ≠ p → (upd G pz (.lst zs)) b = some o → H4 b = some o := fun b o hb e => by rw [← hH4, upd_ne hb]; exact e
      have keep34 : ∀ b o, b ≠ p → H3 b = some o → H4 b = some o := fun b o hb e => keep4 b o hb (sG' b o e)
      have plA : PL K H4 pz (zs.map (prV G)) := obj_pl (sG' _ _ hp3) keep4 ⟨zs, sl_of upd_same, dps_s dpA (same_new hpz)⟩
      obtain ⟨ys, hys, hdy⟩ : PA2 K H4 t ts := obj_pa2 hp3 keep34 ⟨ys, hys, hdy⟩
      -- the ties
      refine ⟨_, rfl, t, ys, rfl, hys, fun it2 hit2 D2 hD2 => ?_⟩
      have hly : ys.length = ts.length := by rw [dps_len hdy, List.length_map]
      refine lc_sq hit2 (fun k G => Same H4 G ∧ ∃ acc, G D2 = some (.lst acc) ∧ acc.length = k ∧ ∀ (i : Nat) (x : V), acc[i]? = some x → ∃ (t : Addr) (z : Int × Int), x = V.ref t ∧ ts[i]? = some z ∧ G t = some (.tup [.int z.1, .int z.2]))
        ⟨same_new hD2, [], upd_same, rfl, fun i x h => by simp at h⟩ (fun k G _ p => p.1) ?_ ?_
      · rintro k x G2 hx ⟨sG2, acc2, hacc2, hlen2, hall2⟩
        have hk := lt_of_at hx
        obtain ⟨⟨i, j⟩, u, hpk, rfl, hu⟩ := pl_at (dps_s hdy sG2) hx
        refine ⟨u, _, rfl, hu, rfl, _, _, rfl, _, _, rfl, rfl, rfl, _, rfl, _, rfl, szle (by show 2 ≤ 100000; decide), fun v hv => ?_⟩
        have nvD : v ≠ D2 := fun e => by rw [e, hacc2] at hv; cases hv
        refine ⟨acc2, by rw [upd_ne nvD.symm]; exact hacc2, szlt (by have := pt.2.1; omega), same_mut (sG2.trans (same_new hv)) hD2, acc2 ++ [.ref v], upd_same, by simp [hlen2], fun m x hm => ?_⟩
        by_cases c : m < acc2.length
        · rw [List.getElem?_append_left c] at hm
          obtain ⟨t', z, e1, e2, e3⟩ := hall2 m x hm
          have n1 : t' ≠ v := fun e => by rw [e, hv] at e3; cases e3
          have n2 : t' ≠ D2 := fun e => by rw [e, hacc2] at e3; cases e3
          exact ⟨t', z, e1, e2, by rw [upd_ne n2, upd_ne n1]; exact e3⟩
        · rw [List.getElem?_append_right (by omega)] at hm
          have : m - acc2.length = 0 := by
            cases e : m - acc2.length with
            | zero => rfl
            | succ k => rw [e] at hm; simp at hm
          rw [this] at hm
          simp at hm
          have em : m = k := by omega
          subst em
          exact ⟨v, (i, j), hm.symm, hpk, by rw [upd_ne nvD, upd_same]⟩
      · rintro G2 ⟨sG2, acc2, hacc2, hlen2, hall2⟩
        refine ⟨D2, acc2, prV G2, rfl, sl_of hacc2, fun x hx => ?_, fun ws pw srt2 stb2 hpw => ?_⟩
        · obtain ⟨i, hi⟩ := List.getElem?_of_mem hx
          obtain ⟨t', z, e1, _, e3⟩ := hall2 i x hi
          exact ⟨t', e1, by rw [e1, prV_eq e3]; exact e3⟩
        obtain ⟨sortT, dpT⟩ := sort_pairs (by omega) hall2 srt2 stb2
        have sG2' : Same H4 (upd G2 pw (.lst ws)) := sG2.trans (same_new hpw)
        refine ⟨_, rfl, p, C, dx, _, rfl, sG2' _ _ hp4, T.cl, T.nT, (by have h1 := putF_len "_size" (.int n) []; have h2 := putF_len "_arrows" (.ref pz) (putF "_size" (.int n) []); simp at h1; omega), ?_⟩
        have keep5 : ∀ b o, b ≠ p → (upd G2 pw (.lst ws)) b = some o → (upd (upd G2 pw (.lst ws)) p (.ins C dx (putF "_ties" (.ref pw) (putF "_arrows" (.ref pz) (putF "_size" (.int n) []))))) b = some o := fun b o hb e => by rw [upd_ne hb]; exact e
        refine q _ (zs.map (prV G)) (ws.map (prV G2)) (fun b o hb e => keep5 b o hb (sG2' _ _ (keep34 b o hb (keep3 b o hb e)))) sortA sortT ?_
        refine ⟨⟨dx, pz, pw, upd_same, ?_, ?_⟩, n6, prs_perm pa sortA.1, acy_perm ac sortA.1, prs_perm pt sortT.1, fun z hz => lt z (sortT.1.mem_iff.mp hz), sortA.2, sortT.2⟩
        · exact obj_pl hp4 (fun b o hb e => keep5 b o hb (sG2' b o e)) plA
        · exact obj_pl (sG2' _ _ hp4) keep5 ⟨ws, sl_of upd_same, dps_s dpT (same_new hpw)⟩
end
end Tk

namespace Tk
open PySem PySem.Spec PyProof.Rows L2
/-- tuples that stand for the first k pairs -/
def TA (G : Hp) (acc : List V) (ps : List (Int × Int)) (k : Nat) : Prop :=
  acc.length = k ∧ ∀ (i : Nat) (x : V), acc[i]? = some x → ∃ (t : Addr) (z : Int × Int), x = V.ref t ∧ ps[i]? = some z ∧ G t = some (.tup [.int z.1, .int z.2])
theorem ta_0 (G : Hp) (ps : List (Int × Int)) : TA G [] ps 0 := ⟨rfl, fun i x h => by simp at h⟩
theorem ta_put {G : Hp} {acc : List V} {ps : List (Int × Int)} {k : Nat} {D v : Addr} {z : Int × Int} {o : List V} (h : TA G acc ps k) (hD : G D = some (.lst o)) (hv : G v = none) (hz : ps[k]? = some z) :
    TA (upd (upd G v (.tup [.int z.1, .int z.2])) D (.lst (acc ++ [.ref v]))) (acc ++ [.ref v]) ps (k + 1) := by
  obtain ⟨hl, ha⟩ := h
  have nvD : v ≠ D := fun e => by rw [e, hD] at hv; cases hv
  refine ⟨by simp [hl], fun m x hm => ?_⟩
  by_cases c : m < acc.length
  · rw [List.getElem?_append_left c] at hm
    obtain ⟨t, w, e1, e2, e3⟩ := ha m x hm
    have n1 : t ≠ v := fun e => by rw [e, hv] at e3; cases e3
    have n2 : t ≠ D := fun e => by rw [e, hD] at e3; cases e3
    exact ⟨t, w, e1, e2, by rw [upd_ne n2, upd_ne n1]; exact e3⟩
  · rw [List.getElem?_append_right (by omega)] at hm
    have m0 : m - acc.length = 0 := by
      cases e : m - acc.length with
      | zero => rfl
      | succ k => rw [e] at hm; simp at hm
    rw [m0] at hm
    simp at hm
    have em : m = k := by omega
    subst em
    exact ⟨v, z, hm.symm, hz, by rw [upd_ne nvD, upd_same]⟩
theorem ta_dps {K : PySem.W.Frag} {G : Hp} : ∀ {acc : List V} {ps : List (Int × Int)}, TA G acc ps ps.length → DpAll K G acc (ps.map dP) := by
  intro acc ps
  induction ps generalizing acc with
  | nil =>
    intro h
    have : acc = [] := List.length_eq_zero_iff.mp h.1
    subst this
    exact .nil
  | cons p ps ih =>
    intro h
    cases acc with
    | nil => have := h.1; simp at this
    | cons x acc =>
      obtain ⟨t, z, e1, e2, e3⟩ := h.2 0 x (by simp)
      simp at e2
      subst e2
      rw [e1]
      refine .cons (dP_mk (st_of e3)) (ih ⟨by have := h.1; simpa using this, fun i y hy => ?_⟩)
      obtain ⟨t', z', f1, f2, f3⟩ := h.2 (i + 1) y (by simpa using hy)
      exact ⟨t', z', f1, by simpa using f2, f3⟩
theorem ta_s {G G' : Hp} {acc : List V} {ps : List (Int × Int)} {k : Nat} (h : TA G acc ps k) (e : Same G G') : TA G' acc ps k :=
  ⟨h.1, fun i x hx => let ⟨t, z, a, b, c⟩ := h.2 i x hx; ⟨t, z, a, b, e _ _ c⟩⟩

/-- a list, new or not, of pairs -/
abbrev PM (K : PySem.W.Frag) (H : Hp) (a : Addr) (ps : List (Int × Int)) : Prop := ∃ xs, H a = some (.lst xs) ∧ DpAll K H xs (ps.map dP)
theorem pm_pl {K : PySem.W.Frag} {H : Hp} {a : Addr} {ps : List (Int × Int)} (h : PM K H a ps) : PL K H a ps := let ⟨xs, h1, h2⟩ := h; ⟨xs, sl_of h1, h2⟩
theorem pm_s {K : PySem.W.Frag} {H H' : Hp} {a : Addr} {ps : List (Int × Int)} (h : PM K H a ps) (e : Same H H') : PM K H' a ps := let ⟨xs, h1, h2⟩ := h; ⟨xs, e _ _ h1, dps_s h2 e⟩
def spReached (K : PySem.W.Frag) : Sp := fun vs H Q _ => ∃ (n : Nat) (a : Addr) (st : Int) (ps : List (Int × Int)), vs = [.ref a, .int st] ∧ PL K H a ps ∧ n ≤ 60 ∧ Prs n ps ∧ st ∈ things n ∧
  ∀ (H' : Hp) (p : Addr) (fo : List Int), Same H H' → H p = none → H' p = some (.lst (fo.map V.int)) → fo.Nodup → (∀ x ∈ fo, x ∈ things n) → (∀ y, y ∈ fo ↔ Reach ps st y) → Q (.ref p) H'
def spArr (K : PySem.W.Frag) (C : Addr) : Sp := fun vs H Q _ => ∃ (p : Addr) (n : Nat) (as ts : List (Int × Int)), vs = [.ref p] ∧ PlanAt K C H p n as ts ∧ ∀ H' l, Same H H' → H l = none → PM K H' l as → Q (.ref l) H'
def spChkPlan (C : Addr) : Sp := fun vs H Q _ => ∃ (p dx : Addr) (fs : List (Str × V)), vs = [.ref p] ∧ H p = some (.ins C dx fs) ∧ Q .non H
section
variable {P : Program} {w : World} {K : PySem.W.Frag} {mg : Str → Option Value} {base : Heap}
abbrev nReach : List Str := ["pairs", "start", "found", "waiting", "thing", "fresh", "here", "end"]
theorem sc_reached : FnScope nReach ["pairs", "start"] (defScope sReached) := ⟨rfl, rfl, rfl, by decide +kernel, rfl, by decide +kernel, by decide +kernel⟩
theorem ok_reached {f : Addr} {fd : FuncData} (F : Fun K "reached" "reached" sReached f fd) (B : Bl mg) : FnOk P w K mg base CX0 1 f fd ["pairs", "start"] (spReached K) := by
  refine F.ok sc_reached (fun vs H Q E h => ?_) (fun cdv A outer s H vs Q E hr h => ?_)
  · obtain ⟨n, a, st, ps, rfl, _⟩ := h
    rfl
  · obtain ⟨n, a, st, ps, rfl, ⟨xs, hxs, hd⟩, hn, hps, hst, q⟩ := h
    refine ⟨_, pss_cons (ps_set (i := 2) sc_reached.nd rfl (Or.inr rfl) (pe_lst (pa_cons (pv 1) pa_nil)))
      (pss_cons (ps_set (i := 3) sc_reached.nd rfl (Or.inl rfl) (pe_lst (pa_cons (pv 1) pa_nil)))
      (pss_cons (ps_while PassesOwn.never (pt_truth (pv 3) (fun _ => rfl))
        (pss_cons (ps_set (i := 4) sc_reached.nd rfl (Or.inr rfl) (pe_bm0 PySem.F.plainAttrs_list PySem.F.slot_list_pop PySem.F.type_list_pop mt_pop (pv 3)))
        (pss_cons (ps_setLc (i := 5) (own := [("here", 6), ("end", 7)]) (g := gTup K 2 (gCons (gName 6) (gCons (gName 7) gNil))) (tt := tAnd (tTest (tOp rEq (tVar 6) (tVar 4))) (tTest (tOp (rIn K true) (tVar 7) (tVar 2)))) rfl sc_reached.nd rfl rfl (sw_true rfl rfl rfl (by decide +kernel)) (pi_list (pv 0)) (blkOk_by (N := nReach) (sc := defScope sReached) (by decide +kernel))
            (fun _ _ _ _ _ => pg_tup rfl (pgs_cons (pg_name (i := 6) sc_reached.nd rfl (Or.inl rfl)) (pgs_cons (pg_name (i := 7) sc_reached.nd rfl (Or.inl rfl)) pgs_nil)))
            (fun _ _ _ _ _ => pts_one (PW.pt (pw_and (pt_cmpR op_eq (pv 6) (pv 4) (nomark _)) (pw_and1 (pt_cmpR op_notIn_seq (pv 7) (pv 2) (by rfl))))))
            (fun _ _ _ _ _ => pv 7))
        (pss_cons (ps_expr (pe_bm PySem.F.plainAttrs_list PySem.F.slot_list_extend PySem.F.type_list_extend mt_extend (pv 2) (pa_cons (pv 5) pa_nil)))
        (pss_one (ps_expr (pe_bm PySem.F.plainAttrs_list PySem.F.slot_list_extend PySem.F.type_list_extend mt_extend (pv 3) (pa_cons (pv 5) pa_nil))))))))
      (pss_one (ps_ret (pv 2))))), ?_⟩
    have hl : xs.length = ps.length := by rw [dps_len hd, List.length_map]
    refine ⟨_, rfl, szle (by show 1 ≤ 100000; decide), fun pf hpf => ?_⟩
    refine ⟨_, rfl, szle (by show 1 ≤ 100000; decide), fun pw hpw => ?_⟩
    have npw : pf ≠ pw := fun e => by rw [e, upd_same] at hpw; cases hpw
    have hpw0 : H pw = none := by rw [upd_ne npw.symm] at hpw; exact hpw
    refine ⟨fun m σ H1 => ∃ (fo wa : List Int) (v4 v5 v6 v7 : Option V), σ = [some (V.ref a), some (V.int st), some (V.ref pf), some (V.ref pw), v4, v5, v6, v7] ∧ Same H H1 ∧ H1 pf = some (.lst (fo.map V.int)) ∧ H1 pw = some (.lst (wa.map V.int)) ∧ RInv n ps st fo wa ∧ wa.length ≤ fo.length ∧ 2 * (n - fo.length) + wa.length = m,
      ⟨_, [st], [st], none, none, none, none, rfl, ?_, ?_, ?_, rinv_0 hst, Nat.le_refl _, rfl⟩, ?_⟩
    · exact (same_new hpf).trans (same_new hpw)
    · rw [upd_ne npw, upd_same]; rfl
    · rw [upd_same]; rfl
    rintro m σ H1 ⟨fo, wa, v4, v5, v6, v7, rfl, s1, hf, hw, inv, wle, rfl⟩
    refine ⟨_, rfl, _, .inl ⟨_, sl_of hw, rfl⟩, ?_⟩
    rcases List.eq_nil_or_concat wa with rfl | ⟨wb, x, rfl⟩
    · exact ⟨_, rfl, q H1 pf fo s1 hpf hf inv.nd inv.th (rinv_end inv)⟩
    · have lem : (!((wb.concat x).map V.int).isEmpty) = true := by simp
      rw [lem]
      rw [List.concat_eq_append] at *
      refine ⟨_, fun σ' H' z => z, ?_⟩
      have xfo : x ∈ fo := inv.wf x (by simp)
      -- thing = waiting.pop()
      refine ⟨_, rfl, .inl ⟨rfl, _, sl_of hw⟩, pw, _, V.int x, rfl, rfl, hw, (by simp), ?_⟩
      have edl : ((wb ++ [x]).map V.int).dropLast = wb.map V.int := by simp
      rw [edl]
      generalize hH2 : upd H1 pw (.lst (wb.map V.int)) = H2
      have s02 : Same H H2 := by rw [← hH2]; exact same_mut s1 hpw0
      have hf2 : H2 pf = some (.lst (fo.map V.int)) := by rw [← hH2, upd_ne npw]; exact hf
      have hw2 : H2 pw = some (.lst (wb.map V.int)) := by rw [← hH2, upd_same]
      have hfol := rinv_len inv
      -- fresh
      refine ⟨_, rfl, a, rfl, ⟨xs, same_l s02 hxs⟩, fun D hD => ?_⟩
      refine lc_list (xs := xs) (LcP H2 D fun k => (freshL (ps.take k) fo x).map V.int) (lcp_0 hD rfl) (fun k H3 _ p => same_l (s02.trans p.1) hxs) ?_ ?_
      · intro k y H3 hx p
        obtain ⟨⟨i, j⟩, t, hpk, rfl, ht⟩ := pl_at (dps_s hd (s02.trans p.1)) hx
        have short : ((freshL (ps.take k) fo x).map V.int).length < 100000 := by
          have h1 := hps.2.1
          have h2 : (freshL (ps.take k) fo x).length ≤ (ps.take k).length := by unfold freshL; rw [List.length_map]; exact List.length_filter_le ..
          rw [List.length_take] at h2
          rw [List.length_map]; omega
        have et : freshL (ps.take (k + 1)) fo x = if i = x ∧ j ∉ fo then freshL (ps.take k) fo x ++ [j] else freshL (ps.take k) fo x := by
          unfold freshL
          rw [take_at hpk, List.filter_append, List.map_append]
          by_cases c : i = x ∧ j ∉ fo
          · rw [if_pos c]; simp [c.1, c.2]
          · rw [if_neg c]
            by_cases c1 : i = x
            · have c2 : j ∈ fo := Classical.byContradiction fun z => c ⟨c1, z⟩
              simp [c2]
            · simp [c1]
        refine ⟨t, _, rfl, ht, rfl, _, _, rfl, _, _, rfl, rfl, rfl, _, rfl, _, rfl, rfl, decide (i = x), dec_bl, ?_⟩
        by_cases c1 : i = x
        · rw [decide_eq_true c1]
          refine ⟨_, rfl, _, rfl, pf, _, rfl, .inl (sl_of (p.1 _ _ hf2)), rfl, flat_ints fo, _, notin_bl, ?_⟩
          by_cases c2 : j ∈ fo
          · rw [decide_eq_true c2]
            refine iteF (lcp_no p ?_)
            rw [et, if_neg (fun z => z.2 c2)]
          · rw [decide_eq_false c2]
            refine ⟨_, rfl, ?_⟩
            refine lcp_put hD p ?_ short
            rw [et, if_pos ⟨c1, c2⟩, List.map_append]; rfl
        · rw [decide_eq_false c1]
          refine iteF (lcp_no p ?_)
          rw [et, if_neg (fun z => c1 z.1)]
      · intro H3 p
        have hD3 : H3 D = some (.lst ((freshL (ps.take xs.length) fo x).map V.int)) := p.2
        rw [take_all hl.symm] at hD3
        have s3 : Same H2 H3 := p.1
        have hf3 : H3 pf = some (.lst (fo.map V.int)) := s3 _ _ hf2
        have hw3 : H3 pw = some (.lst (wb.map V.int)) := s3 _ _ hw2
        have nDf : D ≠ pf := fun e => by rw [e, hf2] at hD; cases hD
        have nDw : D ≠ pw := fun e => by rw [e, hw2] at hD; cases hD
        have inv2 := rinv_step inv hps.1 (fun p hp => mem_things.mpr ⟨(hps.2.2 p hp).2.2.1, (hps.2.2 p hp).2.2.2.1⟩)
        have l2 := rinv_len inv2
        rw [List.length_append] at l2
        have wl : wb.length + (freshL ps fo x).length ≤ 1000 := by
          have h2 : (freshL ps fo x).length ≤ 60 := by omega
          simp at wle
          omega
        refine ⟨_, rfl, .inl ⟨rfl, _, sl_of hf3⟩, _, rfl, pf, D, _, _, rfl, rfl, hf3, hD3, szle (by simp; omega), ?_⟩
        have hD4 : (upd H3 pf (.lst (fo.map V.int ++ (freshL ps fo x).map V.int))) D = some (.lst ((freshL ps fo x).map V.int)) := by rw [upd_ne nDf]; exact hD3
        have hw4 : (upd H3 pf (.lst (fo.map V.int ++ (freshL ps fo x).map V.int))) pw = some (.lst (wb.map V.int)) := by rw [upd_ne npw.symm]; exact hw3
        refine ⟨_, rfl, .inl ⟨rfl, _, sl_of hw4⟩, _, rfl, pw, D, _, _, rfl, rfl, hw4, hD4, szle (by simp; omega), ?_⟩
        refine ⟨_, ?_, fo ++ freshL ps fo x, wb ++ freshL ps fo x, _, _, _, _, rfl, ?_, ?_, ?_, inv2, (by simp at wle ⊢; omega), rfl⟩
        · simp only [List.length_append, List.length_cons, List.length_nil]
          omega
        · exact same_mut (same_mut (s02.trans s3) hpf) hpw0
        · rw [upd_ne npw, upd_same, List.map_append]
        · rw [upd_same, List.map_append]
end
end Tk

namespace Tk
open PySem PySem.Spec PyProof.Rows L2
theorem units65 {k : Nat} {A : Around} (r : Room k A) : A.units + 65 < cLine := by have := r.un; omega
/-! lists of lists -/
def LsAt (G : Hp) : List V → List (List Int) → Prop
  | [], [] => True
  | x :: xs, o :: os => (∃ r : Addr, x = .ref r ∧ G r = some (.lst (o.map V.int))) ∧ LsAt G xs os
  | _, _ => False
theorem ls_s {G G' : Hp} (e : Same G G') : ∀ {xs : List V} {os : List (List Int)}, LsAt G xs os → LsAt G' xs os
  | [], [], _ => trivial
  | x :: xs, o :: os, ⟨⟨r, h1, h2⟩, h3⟩ => ⟨⟨r, h1, e _ _ h2⟩, ls_s e h3⟩
  | [], _ :: _, h => h.elim
  | _ :: _, [], h => h.elim
theorem ls_app {G : Hp} : ∀ {xs ys : List V} {os ps : List (List Int)}, LsAt G xs os → LsAt G ys ps → LsAt G (xs ++ ys) (os ++ ps)
  | [], _, [], _, _, h => h
  | x :: xs, _, o :: os, _, ⟨h1, h2⟩, h => ⟨h1, ls_app h2 h⟩
  | [], _, _ :: _, _, h, _ => h.elim
  | _ :: _, _, [], _, h, _ => h.elim
theorem ls_len {G : Hp} : ∀ {xs : List V} {os : List (List Int)}, LsAt G xs os → xs.length = os.length
  | [], [], _ => rfl
  | x :: xs, o :: os, ⟨_, h2⟩ => by simp [ls_len h2]
  | [], _ :: _, h => h.elim
  | _ :: _, [], h => h.elim
theorem ls_at {G : Hp} : ∀ {xs : List V} {os : List (List Int)}, LsAt G xs os → ∀ {i : Nat} {x : V}, xs[i]? = some x → ∃ (o : List Int) (r : Addr), os[i]? = some o ∧ x = .ref r ∧ G r = some (.lst (o.map V.int))
  | [], [], _, _, _, h => by simp at h
  | x :: xs, o :: os, ⟨⟨r, h1, h2⟩, h3⟩, i, y, h => by
    cases i with
    | zero => simp at h; subst h; exact ⟨o, r, by simp, h1, h2⟩
    | succ i => simp at h; simpa using ls_at h3 h
  | [], _ :: _, h, _, _, _ => h.elim
  | _ :: _, [], h, _, _, _ => h.elim
theorem ls_mut {G : Hp} {D : Addr} {u : HO} : ∀ {xs : List V} {os : List (List Int)}, LsAt G xs os → (∀ x ∈ xs, x ≠ .ref D) → LsAt (upd G D u) xs os
  | [], [], _, _ => trivial
  | x :: xs, o :: os, ⟨⟨r, h1, h2⟩, h3⟩, n => ⟨⟨r, h1, by
      have : r ≠ D := fun e => n x (List.mem_cons_self ..) (by rw [h1, e])
      rw [upd_ne this]; exact h2⟩, ls_mut h3 fun y hy => n y (List.mem_cons_of_mem _ hy)⟩
  | [], _ :: _, h, _ => h.elim
  | _ :: _, [], h, _ => h.elim
theorem ls_dp {K : PySem.W.Frag} {G : Hp} : ∀ {xs : List V} {os : List (List Int)}, LsAt G xs os → DpAll K G xs (os.map fun o => PyData.list (o.map .int))
  | [], [], _ => .nil
  | x :: xs, o :: os, ⟨⟨r, h1, h2⟩, h3⟩ => by
    rw [h1]
    exact .cons (.lst (sl_of h2) (dps_ints o)) (ls_dp h3)
  | [], _ :: _, h => h.elim
  | _ :: _, [], h => h.elim
/-- the lists stand at places that are new -/
def FreshL (H : Hp) (xs : List V) : Prop := xs.Nodup ∧ ∀ x ∈ xs, ∃ r : Addr, x = .ref r ∧ H r = none
theorem things_succ (k : Nat) : things (k + 1) = things k ++ [Int.ofNat k] := by
  unfold things
  rw [List.range_succ, List.map_append]; rfl
theorem any_pairs {x y : Int} : ∀ {ps : List (Int × Int)}, ((ps.map dP).any fun z => PyData.eqv z (dP (x, y))) = decide ((x, y) ∈ ps)
  | [] => by simp
  | p :: ps => by
    have ih := any_pairs (x := x) (y := y) (ps := ps)
    rw [List.map_cons, List.any_cons, ih]
    have e : PyData.eqv (dP p) (dP (x, y)) = decide ((x, y) = p) := by
      obtain ⟨u, v⟩ := p
      simp [dP, PyData.eqv, PyData.eqvAll]
      by_cases c1 : u = x
      · subst c1
        by_cases c2 : v = y
        · subst c2; simp
        · have : ¬ y = v := fun e => c2 e.symm
          simp [c2, this]
      · have : ¬ x = u := fun e => c1 e.symm
        simp [c1, this]
    rw [e]
    simp [List.mem_cons]
theorem shaped_pair (p : Int × Int) : SeqAt.shaped (dP p) = true := by
  simp [SeqAt.shaped, dP, PyData.canLay0, PyData.canLayAll0, PyData.depth, PyData.depthAll]
theorem plain_pairs : ∀ ps : List (Int × Int), PyData.canLayAll0 (ps.map dP) = true
  | [] => rfl
  | p :: ps => by
    show (PyData.canLay0 (dP p) && PyData.canLayAll0 (ps.map dP)) = true
    rw [plain_pairs ps]; rfl
theorem depth_pairs : ∀ ps : List (Int × Int), PyData.depthAll (ps.map dP) ≤ 3
  | [] => by simp [PyData.depthAll]
  | p :: ps => by
    have h := depth_pairs ps
    have h2 : PyData.depth (dP p) ≤ 3 := by simp [dP, PyData.depth, PyData.depthAll]
    simp only [List.map_cons, PyData.depthAll]
    omega
theorem shaped_pairs (ps : List (Int × Int)) : SeqAt.shaped (.list (ps.map dP)) = true := by
  unfold SeqAt.shaped
  rw [Bool.and_eq_true_iff]
  refine ⟨by rw [PyData.canLay0]; exact plain_pairs ps, decide_eq_true ?_⟩
  have := depth_pairs ps
  rw [PyData.depth]
  omega
theorem prs_mk {n : Nat} {ps : List (Int × Int)} (n6 : n ≤ 6) (nd : ps.Nodup) (h : ∀ p ∈ ps, 0 ≤ p.1 ∧ p.1 < n ∧ 0 ≤ p.2 ∧ p.2 < n ∧ p.1 ≠ p.2) : Prs n ps := by
  refine ⟨nd, ?_, h⟩
  have h1 := nodup_le nd (m := (things n).flatMap fun x => (things n).map fun y => (x, y)) (fun p hp => by
    obtain ⟨a, b, c, d, _⟩ := h p hp
    exact List.mem_flatMap.mpr ⟨p.1, mem_things.mpr ⟨a, b⟩, List.mem_map.mpr ⟨p.2, mem_things.mpr ⟨c, d⟩, rfl⟩⟩)
  have h2 : ∀ l : List Int, (l.flatMap fun x => (things n).map fun y => (x, y)).length = l.length * n := by
    intro l
    induction l with
    | nil => simp
    | cons x l ih =>
      rw [List.flatMap_cons, List.length_append, ih, List.length_map, things_len, List.length_cons, Nat.succ_mul]
      omega
  rw [h2, things_len] at h1
  have h3 : n * n ≤ 6 * 6 := Nat.mul_le_mul n6 n6
  omega
theorem prs_both {n : Nat} {ts : List (Int × Int)} (n6 : n ≤ 6) (h : Prs n ts) (lt : ∀ p ∈ ts, p.1 < p.2) : Prs n (both ts) := by
  refine prs_mk n6 ?_ ?_
  · unfold both
    rw [List.nodup_append]
    refine ⟨h.1, ?_, ?_⟩
    · unfold turnL
      show List.Pairwise _ _
      rw [List.pairwise_map]
      refine List.Pairwise.imp (fun {a b} hne e => hne ?_) h.1
      have e' := congrArg swp e
      exact e'
    · intro a ha b hb e
      obtain ⟨c, hc, rfl⟩ := List.mem_map.mp hb
      subst e
      have h1 := lt _ ha
      have h2 := lt _ hc
      simp [swp] at h1
      omega
  · intro p hp
    rcases mem_both.mp hp with c | c
    · exact h.2.2 p c
    · obtain ⟨a1, a2, a3, a4, a5⟩ := h.2.2 _ c
      exact ⟨a3, a4, a1, a2, fun e => a5 e.symm⟩
def spTies (K : PySem.W.Frag) (C : Addr) : Sp := fun vs H Q _ => ∃ (p : Addr) (n : Nat) (as ts : List (Int × Int)), vs = [.ref p] ∧ PlanAt K C H p n as ts ∧ ∀ H' l, Same H H' → H l = none → PM K H' l ts → Q (.ref l) H'
/-- what the class gives, further -/
structure PlM (K : PySem.W.Frag) (mg : Str → Option Value) (C pW gW fA fT : Addr) (fdW fdA fdT : FuncData) : Prop where
  c : PlC K mg C
  ins : C8.InsC K C
  prop : PropOf K C "width" pW gW
  FW : Fun K "width" "Plan.width" sWidth gW fdW
  bW : Binds K fdW ["self"] []
  mA : Meth K C "arrows" fA
  FA : Fun K "arrows" "Plan.arrows" sArrows fA fdA
  bA : Binds K fdA ["self"] []
  mT : Meth K C "ties" fT
  FT : Fun K "ties" "Plan.ties" sTies fT fdT
  bT : Binds K fdT ["self"] []
section
variable {P : Program} {w : World} {K : PySem.W.Frag} {mg : Str → Option Value} {base : Heap}
theorem sc_width : FnScope ["self"] ["self"] (defScope sWidth) := ⟨rfl, rfl, rfl, by decide +kernel, rfl, by decide +kernel, by decide +kernel⟩
theorem ok_width {f C : Addr} {fd : FuncData} (F : Fun K "width" "Plan.width" sWidth f fd) (T : PlC K mg C) : FnOk P w K mg base CX0 1 f fd ["self"] (getSp C "_size") := by
  refine F.ok sc_width (fun vs H Q E h => ?_) (fun cdv A outer s H vs Q E hr h => ?_)
  · obtain ⟨a, dx, fs, v, rfl, _⟩ := h
    rfl
  · obtain ⟨a, dx, fs, v, rfl, ha, hl, q⟩ := h
    refine ⟨_, pss_one (ps_ret (pe_fld (pv 0) rfl)), ?_⟩
    exact ⟨_, rfl, a, C, dx, fs, v, rfl, ha, T.cl, T.nS, hl, q⟩
theorem sc_arrows : FnScope ["self"] ["self"] (defScope sArrows) := ⟨rfl, rfl, rfl, by decide +kernel, rfl, by decide +kernel, by decide +kernel⟩
theorem ok_arrows {f C : Addr} {fd : FuncData} (F : Fun K "arrows" "Plan.arrows" sArrows f fd) (T : PlC K mg C) (B : Bl mg) : FnOk P w K mg base CX0 1 f fd ["self"] (spArr K C) := by
  refine F.ok sc_arrows (fun vs H Q E h => ?_) (fun cdv A outer s H vs Q E hr h => ?_)
  · obtain ⟨p, n, as, ts, rfl, _⟩ := h
    rfl
  · obtain ⟨p, n, as, ts, rfl, ⟨⟨dx, a, t, hp, ⟨xs, h1, h2⟩, ht⟩, _⟩, q⟩ := h
    refine ⟨_, pss_one (ps_ret (pe_callTy call_list_of (by rfl) B.list PyProof.Rows.boot_list (pa_cons (pe_fld (pv 0) rfl) pa_nil))), ?_⟩
    refine ⟨_, rfl, p, C, dx, _, _, rfl, hp, T.cl, T.nA, pf_arr _ _ _, a, xs, rfl, .inl h1, fun l hl => ?_⟩
    exact q _ l (same_new hl) hl ⟨xs, upd_same, dps_s h2 (same_new hl)⟩
theorem sc_ties : FnScope ["self"] ["self"] (defScope sTies) := ⟨rfl, rfl, rfl, by decide +kernel, rfl, by decide +kernel, by decide +kernel⟩
theorem ok_ties {f C : Addr} {fd : FuncData} (F : Fun K "ties" "Plan.ties" sTies f fd) (T : PlC K mg C) (B : Bl mg) : FnOk P w K mg base CX0 1 f fd ["self"] (spTies K C) := by
  refine F.ok sc_ties (fun vs H Q E h => ?_) (fun cdv A outer s H vs Q E hr h => ?_)
  · obtain ⟨p, n, as, ts, rfl, _⟩ := h
    rfl
  · obtain ⟨p, n, as, ts, rfl, ⟨⟨dx, a, t, hp, ha, ⟨xs, h1, h2⟩⟩, _⟩, q⟩ := h
    refine ⟨_, pss_one (ps_ret (pe_callTy call_list_of (by rfl) B.list PyProof.Rows.boot_list (pa_cons (pe_fld (pv 0) rfl) pa_nil))), ?_⟩
    refine ⟨_, rfl, p, C, dx, _, _, rfl, hp, T.cl, T.nT, pf_ties _ _ _, t, xs, rfl, .inl h1, fun l hl => ?_⟩
    exact q _ l (same_new hl) hl ⟨xs, upd_same, dps_s h2 (same_new hl)⟩
theorem sc_chkPlan : FnScope ["plan"] ["plan"] (defScope sChkPlan) := ⟨rfl, rfl, rfl, by decide +kernel, rfl, by decide +kernel, by decide +kernel⟩
theorem ok_chkPlan {f C : Addr} {fd : FuncData} (F : Fun K "check_plan" "check_plan" sChkPlan f fd) (T : PlC K mg C) (I : C8.InsC K C) (B : Bl mg) : FnOk P w K mg base CX0 1 f fd ["plan"] (spChkPlan C) := by
  refine F.ok sc_chkPlan (fun vs H Q E h => ?_) (fun cdv A outer s H vs Q E hr h => ?_)
  · obtain ⟨p, dx, fs, rfl, _⟩ := h
    rfl
  · obtain ⟨p, dx, fs, rfl, hp, q⟩ := h
    refine ⟨_, pss_one (ps_if (pt_not (pt_val (pe_callB (C8.call_isC I) (by rfl) B.isi PyProof.Rows.boot_isinstance (pa_cons (pv 0) (pa_cons (pe_glob (v := .ref C) rfl T.mgC rfl) pa_nil))))) pss_never pss_nil), ?_⟩
    exact ⟨_, rfl, p, dx, fs, rfl, hp, true, rfl, iteF q⟩
end
end Tk

namespace Tk
open PySem PySem.Spec PyProof.Rows L2
theorem prs_sub {n : Int} {ps qs : List (Int × Int)} (h : Prs n ps) (s : qs.Sublist ps) : Prs n qs := ⟨h.1.sublist s, Nat.lt_of_le_of_lt s.length_le h.2.1, fun p hp => h.2.2 p (s.subset hp)⟩
theorem prs_turn {n : Int} {ps : List (Int × Int)} (h : Prs n ps) : Prs n (turnL ps) := by
  refine ⟨?_, by unfold turnL; rw [List.length_map]; exact h.2.1, fun p hp => ?_⟩
  · unfold turnL
    show List.Pairwise _ _
    rw [List.pairwise_map]
    refine List.Pairwise.imp (fun {a b} hne e => hne ?_) h.1
    have e' := congrArg swp e
    exact e'
  · obtain ⟨q, hq, rfl⟩ := List.mem_map.mp hp
    obtain ⟨a1, a2, a3, a4, a5⟩ := h.2.2 q hq
    exact ⟨a3, a4, a1, a2, fun e => a5 e.symm⟩
/-- ints read off values, where all are ints -/
def EachV (K : PySem.W.Frag) (H : Hp) : List V → List (Option Int) → Prop
  | [], [] => True
  | x :: xs, o :: os => IntV K H x o ∧ EachV K H xs os
  | _, _ => False
theorem each_len {K : PySem.W.Frag} {H : Hp} : ∀ {xs : List V} {os : List (Option Int)}, EachV K H xs os → xs.length = os.length
  | [], [], _ => rfl
  | x :: xs, o :: os, ⟨_, h⟩ => by simp [each_len h]
  | [], _ :: _, h => h.elim
  | _ :: _, [], h => h.elim
theorem each_at {K : PySem.W.Frag} {H : Hp} : ∀ {xs : List V} {os : List (Option Int)}, EachV K H xs os → ∀ {i : Nat} {x : V}, xs[i]? = some x → ∃ o, os[i]? = some o ∧ IntV K H x o
  | [], [], _, _, _, h => by simp at h
  | x :: xs, o :: os, ⟨h1, h2⟩, i, y, h => by
    cases i with
    | zero => simp at h; subst h; exact ⟨o, by simp, h1⟩
    | succ i => simp at h; simpa using each_at h2 h
  | [], _ :: _, h, _, _, _ => h.elim
  | _ :: _, [], h, _, _, _ => h.elim
theorem each_s {K : PySem.W.Frag} {H H' : Hp} (e : Same H H') : ∀ {xs : List V} {os : List (Option Int)}, EachV K H xs os → EachV K H' xs os
  | [], [], _ => trivial
  | x :: xs, o :: os, ⟨h1, h2⟩ => ⟨intv_s h1 e, each_s e h2⟩
  | [], _ :: _, h => h.elim
  | _ :: _, [], h => h.elim
theorem each_ints {K : PySem.W.Frag} {H : Hp} : ∀ (l : List Int), EachV K H (l.map V.int) (l.map some)
  | [] => trivial
  | x :: l => ⟨.int x, each_ints l⟩
theorem each_some {K : PySem.W.Frag} {H : Hp} : ∀ {xs : List V} {os : List (Option Int)}, EachV K H xs os → (∀ o ∈ os, o.isSome = true) → ∃ l : List Int, xs = l.map V.int ∧ os = l.map some
  | [], [], _, _ => ⟨[], rfl, rfl⟩
  | x :: xs, o :: os, ⟨h1, h2⟩, h => by
    obtain ⟨l, rfl, rfl⟩ := each_some h2 fun z hz => h z (List.mem_cons_of_mem _ hz)
    have ho := h o (List.mem_cons_self ..)
    cases h1 with
    | int i => exact ⟨i :: l, rfl, rfl⟩
    | bl b => cases ho
    | oth h k => cases ho
  | [], _ :: _, h, _ => h.elim
  | _ :: _, [], h, _ => h.elim
theorem some_inj : ∀ {l m : List Int}, l.map some = m.map some → l = m
  | [], [], _ => rfl
  | [], _ :: _, h => nomatch h
  | _ :: _, [], h => nomatch h
  | a :: l, b :: m, h => by
    have h1 := List.cons.inj h
    rw [Option.some.inj h1.1, some_inj h1.2]
/-- what is asked of a value that may be a lot: what it is, and a bound on its length -/
inductive LotV (K : PySem.W.Frag) (H : Hp) : V → Option (List (Option Int)) → Prop
  | sq {a : Addr} {xs : List V} {os : List (Option Int)} (h : SqA K H a xs) (e : EachV K H xs os) (few : xs.length < 60) : LotV K H (.ref a) (some os)
  | no {v : V} (h : SqV K H v none) : LotV K H v none
theorem lotv_s {K : PySem.W.Frag} {H H' : Hp} {v : V} {o : Option (List (Option Int))} (h : LotV K H v o) (e : Same H H') : LotV K H' v o := by
  cases h with
  | sq h g few => exact .sq (same_a e h) (each_s e g) few
  | no h => exact .no (sqv_s h e)
theorem lotv_lot {K : PySem.W.Frag} {H : Hp} {a : Addr} {l : List Int} (h : SqA K H a (l.map V.int)) (few : l.length < 60) : LotV K H (.ref a) (some (l.map some)) := .sq h (each_ints l) (by rw [List.length_map]; exact few)
/-- unlike things -/
def ThingsO (n : Nat) (o : Option (List (Option Int))) (l : List Int) : Prop := o = some (l.map some) ∧ l.Nodup ∧ ∀ x ∈ l, x ∈ things n
def spAreThings (K : PySem.W.Frag) : Sp := fun vs H Q _ => ∃ (n : Nat) (v : V) (o : Option (List (Option Int))), vs = [.int n, v] ∧ LotV K H v o ∧ ∀ (H' : Hp) (b : Bool), Same H H' → (b = true ↔ ∃ l, ThingsO n o l) → Q (.bl b) H'
/-- a lot -/
def LotO (n : Nat) (o : Option (List (Option Int))) (l : List Int) : Prop := o = some (l.map some) ∧ Lot n l
def spIsRising (K : PySem.W.Frag) : Sp := fun vs H Q _ => ∃ (n : Nat) (v : V) (o : Option (List (Option Int))), vs = [.int n, v] ∧ n ≤ 6 ∧ LotV K H v o ∧ ∀ (H' : Hp) (b : Bool), Same H H' → (b = true ↔ ∃ l, LotO n o l) → Q (.bl b) H'
def spIsLotOf (K : PySem.W.Frag) (C : Addr) : Sp := fun vs H Q _ => ∃ (p : Addr) (n : Nat) (as ts : List (Int × Int)) (v : V) (o : Option (List (Option Int))), vs = [.ref p, v] ∧ PlanAt K C H p n as ts ∧ LotV K H v o ∧
  ∀ (H' : Hp) (b : Bool), Same H H' → (b = true ↔ ∃ l, LotO n o l) → Q (.bl b) H'
def spChkLot (K : PySem.W.Frag) (C : Addr) : Sp := fun vs H Q _ => ∃ (p a : Addr) (n : Nat) (as ts : List (Int × Int)) (l : List Int), vs = [.ref p, .ref a] ∧ PlanAt K C H p n as ts ∧ SqA K H a (l.map V.int) ∧ Lot n l ∧ ∀ H', Same H H' → Q .non H'
def spTurned (K : PySem.W.Frag) : Sp := fun vs H Q _ => ∃ (a : Addr) (ps : List (Int × Int)), vs = [.ref a] ∧ PL K H a ps ∧ ps.length < 60 ∧ ∀ H' p, Same H H' → H p = none → PM K H' p (turnL ps) → Q (.ref p) H'
def spBoth (K : PySem.W.Frag) : Sp := fun vs H Q _ => ∃ (a : Addr) (ps : List (Int × Int)), vs = [.ref a] ∧ PM K H a ps ∧ ps.length < 60 ∧ ∀ H' p, Same H H' → H p = none → PM K H' p (both ps) → Q (.ref p) H'
def spWithin (K : PySem.W.Frag) : Sp := fun vs H Q _ => ∃ (a b : Addr) (ps : List (Int × Int)) (l : List Int), vs = [.ref a, .ref b] ∧ PL K H a ps ∧ ps.length < 60 ∧ SqA K H b (l.map V.int) ∧ ∀ H' p, Same H H' → H p = none → PM K H' p (withinL ps l) → Q (.ref p) H'
theorem inA_bl {K : PySem.W.Frag} {H : Hp} {b : Addr} {l : List Int} (h : SqA K H b (l.map V.int)) : SqL K H b (l.map V.int) ∨ SqT K H b (l.map V.int) := h
section
variable {P : Program} {w : World} {K : PySem.W.Frag} {mg : Str → Option Value} {base : Heap}
theorem sc_turned : FnScope ["pairs", "start", "end"] ["pairs"] (defScope sTurned) := ⟨rfl, rfl, rfl, by decide +kernel, rfl, by decide +kernel, by decide +kernel⟩
theorem ok_turned {f : Addr} {fd : FuncData} (F : Fun K "turned" "turned" sTurned f fd) : FnOk P w K mg base CX0 1 f fd ["pairs"] (spTurned K) := by
  refine F.ok sc_turned (fun vs H Q E h => ?_) (fun cdv A outer s H vs Q E hr h => ?_)
  · obtain ⟨a, ps, rfl, _⟩ := h
    rfl
  · obtain ⟨a, ps, rfl, ⟨xs, hxs, hd⟩, few, q⟩ := h
    refine ⟨_, pss_one (ps_ret (pe_lc (own := [("start", 1), ("end", 2)]) (g := gTup K 2 (gCons (gName 1) (gCons (gName 2) gNil))) (tt := tYes) rfl sc_turned.nd (pi_list (pv 0)) (blkOk_by (N := ["pairs", "start", "end"]) (sc := defScope sTurned) (by decide +kernel))
            (fun _ _ _ _ _ => pg_tup rfl (pgs_cons (pg_name (i := 1) sc_turned.nd rfl (Or.inl rfl)) (pgs_cons (pg_name (i := 2) sc_turned.nd rfl (Or.inl rfl)) pgs_nil))) (fun _ _ _ _ _ => pts_nil)
            (fun _ _ _ _ _ => pe_tup (pa_cons (pv 2) (pa_cons (pv 1) pa_nil))))), ?_⟩
    have lx : xs.length = ps.length := by rw [dps_len hd, List.length_map]
    refine ⟨_, rfl, a, rfl, ⟨xs, hxs⟩, fun D hD => ?_⟩
    refine lc_list (xs := xs) (fun k G => Same H G ∧ ∃ acc, G D = some (.lst acc) ∧ TA G acc (turnL ps) k) ⟨same_new hD, [], upd_same, ta_0 _ _⟩ (fun k G _ z => same_l z.1 hxs) ?_ ?_
    · rintro k x G hx ⟨sG, acc, hacc, ta⟩
      obtain ⟨⟨i, j⟩, t, hpk, rfl, ht⟩ := pl_at (dps_s hd sG) hx
      have hk := lt_of_at hpk
      refine ⟨t, _, rfl, ht, rfl, _, _, rfl, _, _, rfl, rfl, rfl, _, rfl, _, rfl, szle (by show 2 ≤ 100000; decide), fun v hv => ?_⟩
      have nvD : D ≠ v := fun e => by rw [← e, hacc] at hv; cases hv
      refine ⟨acc, by rw [upd_ne nvD]; exact hacc, szlt (by have := ta.1; omega), same_mut (sG.trans (same_new hv)) hD, acc ++ [.ref v], upd_same, ?_⟩
      exact ta_put (z := (j, i)) ta hacc hv (by unfold turnL; rw [List.getElem?_map, hpk]; rfl)
    · rintro G ⟨sG, acc, hacc, ta⟩
      have e : xs.length = (turnL ps).length := by unfold turnL; rw [List.length_map]; exact lx
      rw [e] at ta
      exact q G D sG hD ⟨acc, hacc, ta_dps ta⟩
theorem sc_both : FnScope ["ties"] ["ties"] (defScope sBothWays) := ⟨rfl, rfl, rfl, by decide +kernel, rfl, by decide +kernel, by decide +kernel⟩
theorem ok_both {f f1 : Addr} {fd fd1 : FuncData} (F : Fun K "both_ways" "both_ways" sBothWays f fd) (D1 : Df K mg "turned" sTurned ["pairs"] f1 fd1) : FnOk P w K mg base CX0 2 f fd ["ties"] (spBoth K) := by
  have G1 : FnOk P w K mg base CX0 1 f1 fd1 ["pairs"] (spTurned K) := ok_turned D1.F
  refine F.ok sc_both (fun vs H Q E h => ?_) (fun cdv A outer s H vs Q E hr h => ?_)
  · obtain ⟨a, ps, rfl, _⟩ := h
    rfl
  · obtain ⟨a, ps, rfl, hp, few, q⟩ := h
    refine ⟨_, pss_one (ps_ret (pe_op op_cat (pv 0) (pe_call G1 hr rfl D1.g D1.F.kp D1.b .nil pass0 (pa_cons (pv 0) pa_nil)))), ?_⟩
    refine ⟨_, rfl, _, rfl, a, ps, rfl, pm_pl hp, few, fun H1 p s1 hp0 ⟨ys, hys, dy⟩ => ?_⟩
    obtain ⟨xs, hxs, dx⟩ := pm_s hp s1
    have lx : xs.length = ps.length := by rw [dps_len dx, List.length_map]
    have ly : ys.length = ps.length := by rw [dps_len dy, List.length_map]; unfold turnL; rw [List.length_map]
    refine ⟨a, p, xs, ys, rfl, rfl, hxs, hys, szle (by omega), fun r hr' => ?_⟩
    refine q _ r (s1.trans (same_new hr')) (s1.free hr') ⟨_, upd_same, ?_⟩
    unfold both
    rw [List.map_append]
    exact dps_app (dps_s dx (same_new hr')) (dps_s dy (same_new hr'))
theorem sc_within : FnScope ["pairs", "things", "start", "end"] ["pairs", "things"] (defScope sWithin) := ⟨rfl, rfl, rfl, by decide +kernel, rfl, by decide +kernel, by decide +kernel⟩
theorem within_take {ps : List (Int × Int)} {l : List Int} {i : Nat} {p : Int × Int} (h : ps[i]? = some p) : withinL (ps.take (i + 1)) l = if p.1 ∈ l ∧ p.2 ∈ l then withinL (ps.take i) l ++ [p] else withinL (ps.take i) l := by
  unfold withinL
  rw [take_at h, List.filter_append]
  by_cases c : p.1 ∈ l ∧ p.2 ∈ l
  · rw [if_pos c]; simp [c.1, c.2]
  · rw [if_neg c]
    by_cases c1 : p.1 ∈ l
    · have c2 : ¬ p.2 ∈ l := fun z => c ⟨c1, z⟩
      simp [c2]
    · simp [c1]
theorem ok_within {f : Addr} {fd : FuncData} (F : Fun K "within" "within" sWithin f fd) : FnOk P w K mg base CX0 1 f fd ["pairs", "things"] (spWithin K) := by
  refine F.ok sc_within (fun vs H Q E h => ?_) (fun cdv A outer s H vs Q E hr h => ?_)
  · obtain ⟨a, b, ps, l, rfl, _⟩ := h
    rfl
  · obtain ⟨a, b, ps, l, rfl, ⟨xs, hxs, hd⟩, few, hl, q⟩ := h
    refine ⟨_, pss_one (ps_ret (pe_lc (own := [("start", 2), ("end", 3)]) (g := gTup K 2 (gCons (gName 2) (gCons (gName 3) gNil))) (tt := tAnd (tTest (tOp (rIn K false) (tVar 2) (tVar 1))) (tTest (tOp (rIn K false) (tVar 3) (tVar 1)))) rfl sc_within.nd (pi_list (pv 0)) (blkOk_by (N := ["pairs", "things", "start", "end"]) (sc := defScope sWithin) (by decide +kernel))
            (fun _ _ _ _ _ => pg_tup rfl (pgs_cons (pg_name (i := 2) sc_within.nd rfl (Or.inl rfl)) (pgs_cons (pg_name (i := 3) sc_within.nd rfl (Or.inl rfl)) pgs_nil)))
            (fun _ _ _ _ _ => pts_one (PW.pt (pw_and (pt_cmpR op_in_seq (pv 2) (pv 1) (by rfl)) (pw_and1 (pt_cmpR op_in_seq (pv 3) (pv 1) (by rfl))))))
            (fun _ _ _ _ _ => pe_tup (pa_cons (pv 2) (pa_cons (pv 3) pa_nil))))), ?_⟩
    have lx : xs.length = ps.length := by rw [dps_len hd, List.length_map]
    refine ⟨_, rfl, a, rfl, ⟨xs, hxs⟩, fun D hD => ?_⟩
    refine lc_list (xs := xs) (fun k G => Same H G ∧ ∃ acc, G D = some (.lst acc) ∧ TA G acc (withinL (ps.take k) l) (withinL (ps.take k) l).length) ⟨same_new hD, [], upd_same, ta_0 _ _⟩ (fun k G _ z => same_l z.1 hxs) ?_ ?_
    · rintro k x G hx ⟨sG, acc, hacc, ta⟩
      obtain ⟨⟨i, j⟩, t, hpk, rfl, ht⟩ := pl_at (dps_s hd sG) hx
      have hk := lt_of_at hpk
      have wt := within_take (l := l) hpk
      have wl : (withinL (ps.take k) l).length ≤ k := by
        unfold withinL
        refine Nat.le_trans (List.length_filter_le ..) ?_
        rw [List.length_take]; omega
      refine ⟨t, _, rfl, ht, rfl, _, _, rfl, _, _, rfl, rfl, rfl, _, rfl, _, rfl, b, _, rfl, same_a sG hl, rfl, flat_ints l, _, in_bl, ?_⟩
      by_cases c1 : i ∈ l
      · rw [decide_eq_true c1]
        refine ⟨_, rfl, _, rfl, b, _, rfl, same_a sG hl, rfl, flat_ints l, _, in_bl, ?_⟩
        by_cases c2 : j ∈ l
        · rw [decide_eq_true c2]
          refine ⟨_, rfl, _, rfl, szle (by show 2 ≤ 100000; decide), fun v hv => ?_⟩
          have nvD : D ≠ v := fun e => by rw [← e, hacc] at hv; cases hv
          refine ⟨acc, by rw [upd_ne nvD]; exact hacc, szlt (by have := ta.1; omega), same_mut (sG.trans (same_new hv)) hD, acc ++ [.ref v], upd_same, ?_⟩
          have wt' : withinL (ps.take (k + 1)) l = withinL (ps.take k) l ++ [(i, j)] := by rw [wt, if_pos ⟨c1, c2⟩]
          rw [wt', List.length_append]
          exact ta_put (z := (i, j)) ⟨ta.1, fun m x hm => let ⟨t, z, e1, e2, e3⟩ := ta.2 m x hm; ⟨t, z, e1, by rw [List.getElem?_append_left (lt_of_at e2)]; exact e2, e3⟩⟩ hacc hv (by simp)
        · rw [decide_eq_false c2]
          refine iteF ⟨sG, acc, hacc, ?_⟩
          have wt' : withinL (ps.take (k + 1)) l = withinL (ps.take k) l := by rw [wt, if_neg fun z => c2 z.2]
          rw [wt']; exact ta
      · rw [decide_eq_false c1]
        refine iteF ⟨sG, acc, hacc, ?_⟩
        have wt' : withinL (ps.take (k + 1)) l = withinL (ps.take k) l := by rw [wt, if_neg fun z => c1 z.1]
        rw [wt']; exact ta
    · rintro G ⟨sG, acc, hacc, ta⟩
      rw [take_all lx.symm] at ta
      exact q G D sG hD ⟨acc, hacc, ta_dps ta⟩
end
end Tk

namespace Tk
open PySem PySem.Spec PyProof.Rows L2
def topV : List Int → V
  | [] => .non
  | x :: _ => .int x
def spHead (K : PySem.W.Frag) (C : Addr) : Sp := fun vs H Q _ => ∃ (p a : Addr) (n : Nat) (as ts : List (Int × Int)) (l : List Int), vs = [.ref p, .ref a] ∧ PlanAt K C H p n as ts ∧ SqA K H a (l.map V.int) ∧ Lot n l ∧ ∀ H', Same H H' → Q (topV (headsL as l)) H'
def spHangs (K : PySem.W.Frag) (C : Addr) : Sp := fun vs H Q _ => ∃ (p a : Addr) (n : Nat) (as ts : List (Int × Int)) (l : List Int), vs = [.ref p, .ref a] ∧ PlanAt K C H p n as ts ∧ SqA K H a (l.map V.int) ∧ Lot n l ∧ ∀ H', Same H H' → Q (.bl (hangB ts l)) H'
theorem eqv_ints : ∀ {l m : List Int}, PyData.eqvAll (l.map .int) (m.map .int) = decide (l = m)
  | [], [] => by simp [PyData.eqvAll]
  | [], _ :: _ => by simp [PyData.eqvAll]
  | _ :: _, [] => by simp [PyData.eqvAll]
  | a :: l, b :: m => by
    rw [List.map_cons, List.map_cons, PyData.eqvAll, eqv_ints (l := l) (m := m)]
    have e : PyData.eqv (.int a) (.int b) = decide (a = b) := by
      rw [PyData.eqv]
      by_cases c : a = b
      · subst c; simp
      · simp [c]
    rw [e]
    by_cases c : a = b
    · simp [c]
    · simp [c]
theorem eqv_lints {l m : List Int} : PyData.eqv (.list (l.map .int)) (.list (m.map .int)) = decide (l = m) := by
  rw [PyData.eqv, eqv_ints]
theorem shaped_ints (l : List Int) : SeqAt.shaped (.list (l.map .int)) = true := by
  unfold SeqAt.shaped
  rw [Bool.and_eq_true_iff]
  have h1 : PyData.canLayAll0 (l.map .int) = true := by
    induction l with
    | nil => rfl
    | cons a l ih => rw [List.map_cons, PyData.canLayAll0, ih]; rfl
  have h2 : PyData.depthAll (l.map .int) = 0 := by
    induction l with
    | nil => rfl
    | cons a l ih =>
      rw [List.map_cons, PyData.depthAll]
      have h3 : PyData.canLayAll0 (l.map .int) = true := by
        rw [List.map_cons, PyData.canLayAll0] at h1
        exact (Bool.and_eq_true_iff.mp h1).2
      rw [ih h3]; rfl
  refine ⟨by rw [PyData.canLay0]; exact h1, decide_eq_true ?_⟩
  rw [PyData.depth, h2]
  decide
theorem lot_sorted {n : Nat} {l s : List Int} (th : l.Nodup ∧ ∀ x ∈ l, x ∈ things n) (pm : s.Perm l) (so : s.Pairwise (· ≤ ·)) : l = s ↔ Lot n l := by
  constructor
  · intro e
    subst e
    exact ⟨le_lt so th.1, th.2⟩
  · intro h
    exact rise_eq h.1 (le_lt so (pm.nodup_iff.mpr th.1)) fun x => pm.mem_iff.symm
end Tk

namespace Tk
open PySem PySem.Spec PyProof.Rows L2
def spChkThg (K : PySem.W.Frag) (C : Addr) : Sp := fun vs H Q _ => ∃ (p : Addr) (n : Nat) (as ts : List (Int × Int)) (i : Int), vs = [.ref p, .int i] ∧ PlanAt K C H p n as ts ∧ i ∈ things n ∧ Q .non H
def spGreatest (K : PySem.W.Frag) (C : Addr) : Sp := fun vs H Q _ => ∃ (p : Addr) (n : Nat) (as ts : List (Int × Int)) (x : Int), vs = [.ref p, .int x] ∧ PlanAt K C H p n as ts ∧ x ∈ things n ∧
  ∀ (H' : Hp) (r : Addr), Same H H' → H r = none → H' r = some (.lst ((gl n as ts x).map V.int)) → Q (.ref r) H'
/-- what bar_of tells: the greatest lot of the first thing whose lot has more than one -/
def BarOf (n : Nat) (as ts : List (Int × Int)) (H H' : Hp) (v : V) : Prop :=
  (v = .non ∧ PlainP n as ts) ∨ ∃ (r : Addr) (x : Int), v = .ref r ∧ H r = none ∧ x ∈ things n ∧ H' r = some (.lst ((gl n as ts x).map V.int)) ∧ 1 < (gl n as ts x).length ∧ ∀ y ∈ things n, y < x → (gl n as ts y).length ≤ 1
def spBarOf (K : PySem.W.Frag) (C : Addr) : Sp := fun vs H Q _ => ∃ (p : Addr) (n : Nat) (as ts : List (Int × Int)), vs = [.ref p] ∧ PlanAt K C H p n as ts ∧
  ∀ (H' : Hp) (v : V), Same H H' → BarOf n as ts H H' v → Q v H'
def spIsPlain (K : PySem.W.Frag) (C : Addr) : Sp := fun vs H Q _ => ∃ (p : Addr) (n : Nat) (as ts : List (Int × Int)), vs = [.ref p] ∧ PlanAt K C H p n as ts ∧ ∀ H', Same H H' → Q (.bl (plainB n as ts)) H'
section
variable {P : Program} {w : World} {K : PySem.W.Frag} {mg : Str → Option Value} {base : Heap}
theorem sc_chkThg : FnScope ["plan", "thing"] ["plan", "thing"] (defScope sChkThg) := ⟨rfl, rfl, rfl, by decide +kernel, rfl, by decide +kernel, by decide +kernel⟩
theorem ok_chkThg {f f1 f2 f3 C pW gW fA fO : Addr} {fd fd1 fd2 fd3 fdW fdA fdO : FuncData} (F : Fun K "check_thing" "check_thing" sChkThg f fd) (M : PlM K mg C pW gW fA fO fdW fdA fdO) (D1 : Df K mg "is_integer" sIsInt ["value"] f1 fd1)
    (D2 : Df K mg "is_count" sIsCnt ["value"] f2 fd2) (D3 : Df K mg "is_thing" sIsThg ["size", "value"] f3 fd3) (B : Bl mg) : FnOk P w K mg base CX0 4 f fd ["plan", "thing"] (spChkThg K C) := by
  have GW : FnOk P w K mg base CX0 1 gW fdW ["self"] (getSp C "_size") := ok_width M.FW M.c
  have G3 : FnOk P w K mg base CX0 3 f3 fd3 ["size", "value"] (spIsThg K) := ok_isThg D3.F D1 D2 B
  refine F.ok sc_chkThg (fun vs H Q E h => ?_) (fun cdv A outer s H vs Q E hr h => ?_)
  · obtain ⟨p, n, as, ts, i, rfl, _⟩ := h
    rfl
  · obtain ⟨p, n, as, ts, i, rfl, ⟨⟨dx, a, t, hp, ha, ht⟩, _⟩, hi, q⟩ := h
    refine ⟨_, pss_one (ps_if (pt_not (pt_val (pe_call G3 hr rfl D3.g D3.F.kp D3.b .nil pass0 (pa_cons (pe_prop (pv 0) M.c.cl M.prop GW (hr.mono (by decide)) M.bW .nil pass0 rfl) (pa_cons (pv 1) pa_nil))))) pss_never pss_nil), ?_⟩
    have h2 := mem_things.mp hi
    refine ⟨_, rfl, p, dx, _, rfl, hp, p, dx, _, _, rfl, hp, pf_size _ _ _, _, rfl, n, .int i, some i, rfl, .int i, true, ?_, iteF q⟩
    simp [thgO, h2.1, h2.2]
abbrev nGr : List Str := ["plan", "thing", "against", "bonds", "left", "before", "leading"]
theorem sc_greatest : FnScope nGr ["plan", "thing"] (defScope sGreatest) := ⟨rfl, rfl, rfl, by decide +kernel, rfl, by decide +kernel, by decide +kernel⟩
theorem ok_greatest {f f1 f2 f3 f4 f5 f7 C pW gW fA fT : Addr} {fd fd1 fd2 fd3 fd4 fd5 fd7 fdW fdA fdT : FuncData} (F : Fun K "greatest_lot" "greatest_lot" sGreatest f fd) (M : PlM K mg C pW gW fA fT fdW fdA fdT) (D1 : Df K mg "check_plan" sChkPlan ["plan"] f1 fd1)
    (D5 : Df K mg "check_thing" sChkThg ["plan", "thing"] f5 fd5) (G5 : FnOk P w K mg base CX0 4 f5 fd5 ["plan", "thing"] (spChkThg K C)) (D2 : Df K mg "within" sWithin ["pairs", "things"] f2 fd2) (D3 : Df K mg "turned" sTurned ["pairs"] f3 fd3)
    (D4 : Df K mg "both_ways" sBothWays ["ties"] f4 fd4) (D7 : Df K mg "reached" sReached ["pairs", "start"] f7 fd7) (B : Bl mg) : FnOk P w K mg base CX0 5 f fd ["plan", "thing"] (spGreatest K C) := by
  have G1 : FnOk P w K mg base CX0 1 f1 fd1 ["plan"] (spChkPlan C) := ok_chkPlan D1.F M.c M.ins B
  have G2 : FnOk P w K mg base CX0 1 f2 fd2 ["pairs", "things"] (spWithin K) := ok_within D2.F
  have G3 : FnOk P w K mg base CX0 1 f3 fd3 ["pairs"] (spTurned K) := ok_turned D3.F
  have G4 : FnOk P w K mg base CX0 2 f4 fd4 ["ties"] (spBoth K) := ok_both D4.F D3
  have G7 : FnOk P w K mg base CX0 1 f7 fd7 ["pairs", "start"] (spReached K) := ok_reached D7.F B
  have GA : FnOk P w K mg base CX0 1 fA fdA ["self"] (spArr K C) := ok_arrows M.FA M.c B
  have GT : FnOk P w K mg base CX0 1 fT fdT ["self"] (spTies K C) := ok_ties M.FT M.c B
  have GW : FnOk P w K mg base CX0 1 gW fdW ["self"] (getSp C "_size") := ok_width M.FW M.c
  refine F.ok sc_greatest (fun vs H Q E h => ?_) (fun cdv A outer s H vs Q E hr h => ?_)
  · obtain ⟨p, n, as, ts, x, rfl, _⟩ := h
    rfl
  · obtain ⟨p, n, as, ts, x, rfl, hP, hx, q⟩ := h
    have hr1 : Room 1 _ := hr.mono (by decide)
    have hr2 : Room 2 _ := hr.mono (by decide)
    refine ⟨_, pss_cons (ps_expr (pe_call G1 hr1 rfl D1.g D1.F.kp D1.b .nil pass0 (pa_cons (pv 0) pa_nil)))
      (pss_cons (ps_expr (pe_call G5 hr rfl D5.g D5.F.kp D5.b .nil pass0 (pa_cons (pv 0) (pa_cons (pv 1) pa_nil))))
      (pss_cons (ps_par (i := 2) (j := 3) rfl sc_greatest.nd rfl rfl (by decide) rfl rfl (pa_cons (pe_call G3 hr1 rfl D3.g D3.F.kp D3.b .nil pass0 (pa_cons (pe_meth0 (pv 0) M.c.cl M.mA GA hr1 M.bA .nil pass0) pa_nil))
          (pa_cons (pe_call G4 hr2 rfl D4.g D4.F.kp D4.b .nil pass0 (pa_cons (pe_meth0 (pv 0) M.c.cl M.mT GT hr1 M.bT .nil pass0) pa_nil)) pa_nil)) (by rfl))
      (pss_cons (ps_par (i := 4) (j := 5) rfl sc_greatest.nd rfl rfl (by decide) rfl rfl (pa_cons (pe_listRg rfl (by rfl) B.list (prg_1 (by rfl) B.range (pe_prop (pv 0) M.c.cl M.prop GW hr2 M.bW .nil pass0 rfl))) (pa_cons (pe_lst pa_nil) pa_nil)) (by rfl))
      (pss_cons (ps_while PassesOwn.never (pt_cmpR (op_neD hr.units) (pv 4) (pv 5) (nomark _))
        (pss_cons (ps_set (i := 5) sc_greatest.nd rfl (Or.inl rfl) (pv 4))
        (pss_cons (ps_set (i := 6) sc_greatest.nd rfl (Or.inl rfl) (pe_call G7 hr1 rfl D7.g D7.F.kp D7.b .nil pass0 (pa_cons (pe_call G2 hr1 rfl D2.g D2.F.kp D2.b .nil pass0 (pa_cons (pv 2) (pa_cons (pv 4) pa_nil))) (pa_cons (pv 1) pa_nil))))
        (pss_one (ps_set (i := 4) sc_greatest.nd rfl (Or.inl rfl) (pe_callB cr_sortedIA (by rfl) B.sorted PyProof.Rows.boot_sorted (pa_cons
          (pe_call G7 hr1 rfl D7.g D7.F.kp D7.b .nil pass0 (pa_cons (pe_call G2 hr1 rfl D2.g D2.F.kp D2.b .nil pass0 (pa_cons (pv 3) (pa_cons (pv 6) pa_nil))) (pa_cons (pv 1) pa_nil))) pa_nil)))))))
      (pss_one (ps_ret (pv 4))))))), ?_⟩
    obtain ⟨⟨dx, a0, t0, hp, _⟩, n6, pas, acy, pts, lt⟩ := id hP
    have pfn : ∀ {m : Str}, ¬ m = "_size" → ¬ m = "_arrows" → ¬ m = "_ties" → (pf n a0 t0).lookup m = none := fun h1 h2 h3 => pf_no _ _ _ h1 h2 h3
    have fewA := pas.2.1
    have fewT := pts.2.1
    refine ⟨_, rfl, p, dx, _, rfl, hp, ?_⟩
    refine ⟨_, rfl, _, rfl, p, n, as, ts, x, rfl, hP, hx, ?_⟩
    -- against, bonds
    refine ⟨_, rfl, p, dx, _, rfl, hp, pfn (by decide +kernel) (by decide +kernel) (by decide +kernel), p, n, as, ts, rfl, hP, fun H1 l1 s1 hl1 pm1 => ?_⟩
    refine ⟨l1, as, rfl, pm_pl pm1, fewA, fun H2 l2 s2 hl2 pm2 => ?_⟩
    have s12 := s1.trans s2
    refine ⟨_, rfl, p, dx, _, rfl, s12 _ _ hp, pfn (by decide +kernel) (by decide +kernel) (by decide +kernel), p, n, as, ts, rfl, plan_s hP s12, fun H3 l3 s3 hl3 pm3 => ?_⟩
    refine ⟨l3, ts, rfl, pm3, fewT, fun H4 l4 s4 hl4 pm4 => ⟨_, _, rfl, ?_⟩⟩
    have s34 := s3.trans s4
    have s14 := s12.trans s34
    have pm24 := pm_s pm2 s34
    -- left, before
    refine ⟨_, rfl, p, dx, _, rfl, s14 _ _ hp, p, dx, _, _, rfl, s14 _ _ hp, pf_size _ _ _, n, rfl, RgOk.of_le (by omega) (by omega) (by omega) (by omega), fun pl hpl => ⟨szle (by decide), fun pb hpb => ⟨_, _, rfl, ?_⟩⟩⟩
    rw [rgV_things] at hpb ⊢
    have nlb : pl ≠ pb := fun e => by rw [e, upd_same] at hpb; cases hpb
    have x0 : things n ≠ [] := fun e => by rw [e] at hx; cases hx
    have pA : Prs n (turnL as) := prs_turn pas
    have pB : Prs n (both ts) := prs_both n6 pts lt
    have fA : (turnL as).length < 60 := by unfold turnL; rw [List.length_map]; exact fewA
    have fB : (both ts).length < 60 := pB.2.1
    refine ⟨fun m σ G => ∃ (rl rb : Addr) (L Bf : List Int) (v6 : Option V), σ = [some (V.ref p), some (V.int x), some (V.ref l2), some (V.ref l4), some (V.ref rl), some (V.ref rb), v6] ∧ Same H4 G ∧ H4 rl = none ∧ G rl = some (.lst (L.map V.int)) ∧ G rb = some (.lst (Bf.map V.int)) ∧
        Lot n L ∧ x ∈ L ∧ (∀ T, Good n as ts x T → ∀ y ∈ T, y ∈ L) ∧ (Bf = [] ∨ ∃ fo, StepG as ts x Bf fo L) ∧ m = 2 * L.length + (if L = Bf then 0 else 1),
      ⟨_, pl, pb, things n, [], none, rfl, (same_new hpl).trans (same_new hpb), hpl, ?_, upd_same, ⟨things_lt n, fun _ h => h⟩, hx, (fun T g y hy => g.lot.2 y hy), .inl rfl, rfl⟩, ?_⟩
    · rw [upd_ne nlb, upd_same]
    rintro m σ G ⟨rl, rb, L, Bf, v6, rfl, sG, hrl0, hrl, hrb, lot, xL, all, stp, rfl⟩
    have ll := lot_len lot
    refine ⟨_, rfl, _, rfl, .list (L.map .int), .list (Bf.map .int), .lst (sl_of hrl) (dps_ints L), .lst (sl_of hrb) (dps_ints Bf), shaped_ints _, shaped_ints _, _, rfl, ?_⟩
    rw [eqv_lints]
    by_cases c : L = Bf
    · rw [decide_eq_true c]
      subst c
      have good : Good n as ts x L := by
        rcases stp with e | ⟨fo, h⟩
        · rw [e] at xL; cases xL
        · exact step_fix h lot xL
      have e := gl_eq good all
      refine ⟨_, rfl, ?_⟩
      exact q G rl (s14.trans sG) (s14.free hrl0) (by rw [← e]; exact hrl)
    · rw [decide_eq_false c]
      refine ⟨_, fun σ' H' z => z, ?_⟩
      refine ⟨_, rfl, ?_⟩
      -- leading
      refine ⟨_, rfl, _, rfl, l2, rl, turnL as, L, rfl, pm_pl (pm_s pm24 sG), fA, .inl (sl_of hrl), fun G1 w1 t1 hw1 pw1 => ?_⟩
      refine ⟨_, rfl, n, w1, x, withinL (turnL as) L, rfl, pm_pl pw1, by omega, prs_sub pA List.filter_sublist, hx, fun G2 w2 fo t2 hw2 hfo nd th re => ?_⟩
      have sG2 := t1.trans t2
      -- left
      refine ⟨_, rfl, _, rfl, l4, w2, both ts, fo, rfl, pm_pl (pm_s pm4 (sG.trans sG2)), fB, .inl (sl_of hfo), fun G3 w3 t3 hw3 pw3 => ?_⟩
      refine ⟨_, rfl, n, w3, x, withinL (both ts) fo, rfl, pm_pl pw3, by omega, prs_sub pB List.filter_sublist, hx, fun G4 w4 fo2 t4 hw4 hfo2 nd2 th2 re2 => ?_⟩
      refine ⟨w4, fo2, rfl, .inl (sl_of hfo2), fun ns r pm so hr0 => ?_⟩
      have sG4 := sG2.trans (t3.trans t4)
      have stp2 : StepG as ts x L fo ns := ⟨re, fun y => by rw [pm.mem_iff]; exact re2 y⟩
      obtain ⟨u1, u2, u3⟩ := step_sub stp2 xL
      have lot2 : Lot n ns := ⟨le_lt so (pm.nodup_iff.mpr nd2), fun y hy => lot.2 y (u1 y (u2 y hy))⟩
      have sEnd := sG4.trans (same_new (o := .lst (ns.map V.int)) hr0)
      refine ⟨_, ?_, r, rl, ns, L, _, rfl, sG.trans sEnd, ?_, upd_same, sEnd _ _ hrl, lot2, u3, (fun T g y hy => step_keep stp2 g (all T g) y hy), .inr ⟨fo, stp2⟩, rfl⟩
      · have nle := nodup_le (lt_nd lot2.1) (m := L) (fun y hy => u1 y (u2 y hy))
        by_cases d : ns = L
        · rw [if_pos d, if_neg c, d]; omega
        · rw [if_neg d, if_neg c]
          have : ns.length ≠ L.length := fun e => d (rise_eq lot2.1 lot.1 fun y => ⟨fun hy => u1 y (u2 y hy), fun hy => Classical.byContradiction fun no => by
            have := nodup_le (l := y :: ns) (m := L) (List.nodup_cons.mpr ⟨no, lt_nd lot2.1⟩) (fun z hz => by
              rcases List.mem_cons.mp hz with k | k
              · exact k ▸ hy
              · exact u1 z (u2 z k))
            rw [List.length_cons] at this
            omega⟩)
          omega
      · exact (sG.trans sG4).free hr0
abbrev nBarOf : List Str := ["plan", "thing", "lot"]
theorem sc_barOf : FnScope nBarOf ["plan"] (defScope sBarOf) := ⟨rfl, rfl, rfl, by decide +kernel, rfl, by decide +kernel, by decide +kernel⟩
theorem ok_barOf {f f1 f2 C pW gW fA fT : Addr} {fd fd1 fd2 fdW fdA fdT : FuncData} (F : Fun K "bar_of" "bar_of" sBarOf f fd) (M : PlM K mg C pW gW fA fT fdW fdA fdT) (D1 : Df K mg "check_plan" sChkPlan ["plan"] f1 fd1)
    (D2 : Df K mg "greatest_lot" sGreatest ["plan", "thing"] f2 fd2) (G2 : FnOk P w K mg base CX0 5 f2 fd2 ["plan", "thing"] (spGreatest K C)) (B : Bl mg) : FnOk P w K mg base CX0 6 f fd ["plan"] (spBarOf K C) := by
  have G1 : FnOk P w K mg base CX0 1 f1 fd1 ["plan"] (spChkPlan C) := ok_chkPlan D1.F M.c M.ins B
  have GW : FnOk P w K mg base CX0 1 gW fdW ["self"] (getSp C "_size") := ok_width M.FW M.c
  refine F.ok sc_barOf (fun vs H Q E h => ?_) (fun cdv A outer s H vs Q E hr h => ?_)
  · obtain ⟨p, n, as, ts, rfl, _⟩ := h
    rfl
  · obtain ⟨p, n, as, ts, rfl, hP, q⟩ := h
    refine ⟨_, pss_cons (ps_expr (pe_call G1 (hr.mono (by decide)) rfl D1.g D1.F.kp D1.b .nil pass0 (pa_cons (pv 0) pa_nil)))
      (pss_cons (ps_for PassesOwn.never rfl (pi_range1 rfl B.range (pa_cons (pe_prop (pv 0) M.c.cl M.prop GW (hr.mono (by decide)) M.bW .nil pass0 rfl) pa_nil)) (pg_name (i := 1) sc_barOf.nd rfl (Or.inl rfl))
        (pss_cons (ps_set (i := 2) sc_barOf.nd rfl (Or.inl rfl) (pe_call G2 hr rfl D2.g D2.F.kp D2.b .nil pass0 (pa_cons (pv 0) (pa_cons (pv 1) pa_nil))))
        (pss_one (ps_if (pt_cmpR op_gt (pe_callB call_len_seq (by rfl) B.len PySem.boot_len (pa_cons (pv 2) pa_nil)) pe_int (nomark _)) (pss_one (ps_ret (pv 2))) pss_nil))))
      (pss_one (ps_ret pe_non))), ?_⟩
    obtain ⟨⟨dx, a0, t0, hp, _⟩, n6, _⟩ := id hP
    refine ⟨_, rfl, p, dx, _, rfl, hp, ?_⟩
    refine ⟨_, rfl, p, dx, _, rfl, hp, p, dx, _, _, rfl, hp, pf_size _ _ _, n, rfl, by omega, by omega, for_range (lo := 0) (n := ((n : Nat) : Int).toNat) (fun k σ G => ∃ v1 v2 : Option V, σ = [some (V.ref p), v1, v2] ∧ Same H G ∧ ∀ y ∈ things n, y < (k : Int) → (gl n as ts y).length ≤ 1) ⟨none, none, rfl, (fun _ _ h => h), fun y hy c => by have := mem_things.mp hy; omega⟩ ?_ ?_⟩
    · rintro k σ G hk ⟨v1, v2, rfl, sG, no⟩
      have hk' : (0 + (k : Int)) ∈ things n := mem_things.mpr ⟨by omega, by omega⟩
      refine ⟨_, rfl, _, rfl, p, n, as, ts, 0 + (k : Int), rfl, plan_s hP sG, hk', fun G1 r s1 hr0 hr1 => ?_⟩
      refine ⟨_, rfl, r, _, rfl, .inl (sl_of hr1), _, _, rfl, rfl, _, rfl, ?_⟩
      refine ite2 (fun c => ?_) (fun c => ?_)
      · refine ⟨_, rfl, q G1 _ (sG.trans s1) (.inr ⟨r, _, rfl, sG.free hr0, hk', hr1, (by rw [decide_eq_true_eq, List.length_map] at c; omega), fun y hy hl => no y hy (by omega)⟩)⟩
      · refine ⟨_, _, rfl, sG.trans s1, fun y hy hl => ?_⟩
        by_cases d : y < (k : Int)
        · exact no y hy d
        · have e : y = 0 + (k : Int) := by omega
          subst e
          rw [decide_eq_true_eq, List.length_map] at c
          omega
    · rintro σ G ⟨v1, v2, rfl, sG, no⟩
      exact q G .non sG (.inl ⟨rfl, fun y hy => no y hy (by have := mem_things.mp hy; omega)⟩)
theorem sc_isPlain : FnScope ["plan"] ["plan"] (defScope sIsPlain) := ⟨rfl, rfl, rfl, by decide +kernel, rfl, by decide +kernel, by decide +kernel⟩
theorem ok_isPlain {f f1 C : Addr} {fd fd1 : FuncData} (F : Fun K "is_plain" "is_plain" sIsPlain f fd) (D1 : Df K mg "bar_of" sBarOf ["plan"] f1 fd1) (G1 : FnOk P w K mg base CX0 6 f1 fd1 ["plan"] (spBarOf K C)) :
    FnOk P w K mg base CX0 7 f fd ["plan"] (spIsPlain K C) := by
  refine F.ok sc_isPlain (fun vs H Q E h => ?_) (fun cdv A outer s H vs Q E hr h => ?_)
  · obtain ⟨p, n, as, ts, rfl, _⟩ := h
    rfl
  · obtain ⟨p, n, as, ts, rfl, hP, q⟩ := h
    refine ⟨_, pss_one (ps_ret (pe_cmpR op_isN (pe_call G1 hr rfl D1.g D1.F.kp D1.b .nil pass0 (pa_cons (pv 0) pa_nil)) pe_non (nomark _))), ?_⟩
    refine ⟨_, rfl, p, n, as, ts, rfl, hP, fun H1 v s1 hv => ⟨rfl, ?_⟩⟩
    have q1 := q H1 s1
    rcases hv with ⟨rfl, pl⟩ | ⟨r, x, rfl, _, hx, _, two, _⟩
    · rw [plainB_iff.mpr pl] at q1
      exact q1
    · have : plainB n as ts = false := by
        rw [Bool.eq_false_iff]
        intro z
        have := plainB_iff.mp z x hx
        omega
      rw [this] at q1
      exact q1
end
end Tk

namespace Tk
open PySem PySem.Spec PyProof.Rows L2
abbrev sLeadF : Stmt := top 52
abbrev sHangF : Stmt := top 53
abbrev sGreatF : Stmt := top 54
abbrev sPlainF : Stmt := top 55
theorem ne_bl {i j : Int} : V.bl (!decide (V.int i = V.int j)) = V.bl (!decide (i = j)) := by simp
theorem gr_half {K : PySem.W.Frag} {D : Ends} {σ : L2.St} {G : Hp} {iE iS : Nat} {T : String} {b pf : Addr} {lot f : List Int} {e s : Int}
    (h1 : σ[1]? = some (some (.ref b))) (h3 : σ[3]? = some (some (.ref pf))) (hE : σ[iE]? = some (some (.int e))) (hS : σ[iS]? = some (some (.int s)))
    (hl : SqL K G b (lot.map V.int)) (hf : G pf = some (.lst (f.map V.int))) (few : f.length ≤ 1000) (hT : T = "list")
    (q : ∀ (G' : Hp), (G' = G ∨ ∃ o, G' = upd G pf o) → G' pf = some (.lst ((grow1 lot f (s, e)).map V.int)) → D.nx σ G') :
    tIfS (tAnd (tTest (tOp (rIn K false) (tVar iE) (tVar 3))) (tAnd (tTest (tOp (rIn K false) (tVar iS) (tVar 1))) (tTest (tOp (rIn K true) (tVar iS) (tVar 3)))))
      (tDrop (tBM K T rAppend (tVar 3) (tCons (tVar iS) tNil))) tNext D σ G := by
  subst hT
  refine ⟨_, hE, _, h3, pf, _, rfl, .inl (sl_of hf), rfl, flat_ints f, _, in_bl, ?_⟩
  unfold grow1 at q
  by_cases c1 : e ∈ f
  · rw [decide_eq_true c1]
    refine ⟨_, hS, _, h1, b, _, rfl, .inl hl, rfl, flat_ints lot, _, in_bl, ?_⟩
    by_cases c2 : s ∈ lot
    · rw [decide_eq_true c2]
      refine ⟨_, hS, _, h3, pf, _, rfl, .inl (sl_of hf), rfl, flat_ints f, _, notin_bl, ?_⟩
      by_cases c3 : s ∈ f
      · rw [decide_eq_true c3]
        rw [if_neg (fun c : e ∈ f ∧ s ∈ lot ∧ s ∉ f => c.2.2 c3)] at q
        exact iteF (q G (.inl rfl) hf)
      · rw [decide_eq_false c3]
        rw [if_pos (⟨c1, c2, c3⟩ : e ∈ f ∧ s ∈ lot ∧ s ∉ f)] at q
        refine ⟨_, h3, .inl ⟨rfl, _, sl_of hf⟩, _, hS, pf, _, _, rfl, rfl, hf, szlt (by rw [List.length_map]; omega), ?_⟩
        exact q _ (.inr ⟨_, rfl⟩) (by rw [upd_same, List.map_append]; rfl)
    · rw [decide_eq_false c2]
      rw [if_neg (fun c : e ∈ f ∧ s ∈ lot ∧ s ∉ f => c2 c.2.1)] at q
      exact iteF (q G (.inl rfl) hf)
  · rw [decide_eq_false c1]
    rw [if_neg (fun c : e ∈ f ∧ s ∈ lot ∧ s ∉ f => c1 c.1)] at q
    exact iteF (q G (.inl rfl) hf)
def spLeadF (K : PySem.W.Frag) : Sp := fun vs H Q _ => ∃ (a b : Addr) (as : List (Int × Int)) (lot : List Int) (x : Int), vs = [.ref a, .ref b, .int x] ∧ PL K H a as ∧ SqL K H b (lot.map V.int) ∧ lot.length ≤ 60 ∧ x ∈ lot ∧
  ∀ (H' : Hp) (r : Addr) (f : List Int), Same H H' → H r = none → H' r = some (.lst (f.map V.int)) → f.Nodup → (∀ y, y ∈ f ↔ Reach (upIn as lot) x y) → Q (.ref r) H'
def spHangF (K : PySem.W.Frag) : Sp := fun vs H Q _ => ∃ (a b : Addr) (ts : List (Int × Int)) (lot : List Int) (x : Int), vs = [.ref a, .ref b, .int x] ∧ PL K H a ts ∧ SqL K H b (lot.map V.int) ∧ lot.length ≤ 60 ∧ x ∈ lot ∧
  ∀ (H' : Hp) (r : Addr) (f : List Int), Same H H' → H r = none → H' r = some (.lst (f.map V.int)) → f.Nodup → (∀ y, y ∈ f ↔ Reach (tieIn ts lot) x y) → Q (.ref r) H'
def spGreatF (K : PySem.W.Frag) : Sp := fun vs H Q _ => ∃ (n : Nat) (a b : Addr) (as ts : List (Int × Int)) (x : Int), vs = [.int n, .ref a, .ref b, .int x] ∧ PL K H a as ∧ PL K H b ts ∧ n ≤ 6 ∧ x ∈ things n ∧
  ∀ (H' : Hp) (r : Addr), Same H H' → H r = none → H' r = some (.lst ((gl n as ts x).map V.int)) → Q (.ref r) H'
def spPlainF (K : PySem.W.Frag) : Sp := fun vs H Q _ => ∃ (n : Nat) (a b : Addr) (as ts : List (Int × Int)), vs = [.int n, .ref a, .ref b] ∧ PL K H a as ∧ PL K H b ts ∧ n ≤ 6 ∧ ∀ (H' : Hp), Same H H' → Q (.bl (plainB n as ts)) H'
theorem all_one {n : Nat} {as ts : List (Int × Int)} : ((things n).map fun x => decide (((gl n as ts x).length : Int) = 1)).all id = plainB n as ts := by
  rw [Bool.eq_iff_iff, plainB_iff, List.all_map, List.all_eq_true]
  have pos : ∀ x ∈ things n, 1 ≤ (gl n as ts x).length := fun x hx => List.length_pos_of_mem (gl_good hx).mem
  constructor
  · intro h x hx
    have := of_decide_eq_true (h x hx)
    omega
  · intro h x hx
    have := h x hx
    have := pos x hx
    exact decide_eq_true (by show ((gl n as ts x).length : Int) = 1; omega)
section
variable {P : Program} {w : World} {K : PySem.W.Frag} {mg : Str → Option Value} {base : Heap}
abbrev nLeadF : List Str := ["_law_arrows", "_law_lot", "_law_thing", "_law_found", "_law_many", "_law_start", "_law_end"]
theorem sc_leadF : FnScope nLeadF ["_law_arrows", "_law_lot", "_law_thing"] (defScope sLeadF) := ⟨rfl, rfl, rfl, by decide +kernel, rfl, by decide +kernel, by decide +kernel⟩
theorem ok_leadF {f : Addr} {fd : FuncData} (F : Fun K "_law_leaders" "_law_leaders" sLeadF f fd) (B : Bl mg) : FnOk P w K mg base CX0 1 f fd ["_law_arrows", "_law_lot", "_law_thing"] (spLeadF K) := by
  refine F.ok sc_leadF (fun vs H Q E h => ?_) (fun cdv A outer s H vs Q E hr h => ?_)
  · obtain ⟨a, b, as, lot, x, rfl, _⟩ := h
    rfl
  · obtain ⟨a, b, as, lot, x, rfl, ⟨xs, hxs, hd⟩, hl, l60, xl, q⟩ := h
    refine ⟨_, pss_cons (ps_par (i := 3) (j := 4) rfl sc_leadF.nd rfl rfl (by decide) rfl rfl (pa_cons (pe_lst (pa_cons (pv 2) pa_nil)) (pa_cons pe_int pa_nil)) (by rfl))
      (pss_cons (ps_while PassesOwn.never (pt_cmpR op_ne (pv 4) (pe_callB call_len_seq (by rfl) B.len PySem.boot_len (pa_cons (pv 3) pa_nil)) (nomark _))
        (pss_cons (ps_set (i := 4) sc_leadF.nd rfl (Or.inl rfl) (pe_callB call_len_seq (by rfl) B.len PySem.boot_len (pa_cons (pv 3) pa_nil)))
        (pss_one (ps_for PassesOwn.never rfl (pi_list (pv 0)) (pg_tup rfl (pgs_cons (pg_name (i := 5) sc_leadF.nd rfl (Or.inl rfl)) (pgs_cons (pg_name (i := 6) sc_leadF.nd rfl (Or.inl rfl)) pgs_nil)))
          (pss_one (ps_if (PW.pt (pw_and (pt_cmpR op_in_seq (pv 6) (pv 3) (by rfl)) (pw_and (pt_cmpR op_in_seq (pv 5) (pv 1) (by rfl)) (pw_and1 (pt_cmpR op_notIn_seq (pv 5) (pv 3) (by rfl))))))
              (pss_one (ps_expr (pe_bm PySem.F.plainAttrs_list PySem.F.slot_list_append PySem.F.type_list_append mt_append (pv 3) (pa_cons (pv 5) pa_nil)))) pss_nil))))))
      (pss_one (ps_ret (pv 3)))), ?_⟩
    have lx : xs.length = as.length := by rw [dps_len hd, List.length_map]
    refine ⟨_, rfl, szle (by show 1 ≤ 100000; decide), fun pf hpf => ?_⟩
    refine ⟨_, _, rfl, ?_⟩
    refine ⟨fun m σ G => ∃ (fo : List Int) (k : Nat) (v5 v6 : Option V), σ = [some (V.ref a), some (V.ref b), some (V.int x), some (V.ref pf), some (V.int (k : Int)), v5, v6] ∧ Same H G ∧ G pf = some (.lst (fo.map V.int)) ∧ GInv as lot x fo ∧ (k = fo.length → ∀ p ∈ as, p.2 ∈ fo → p.1 ∈ lot → p.1 ∈ fo) ∧
        m = 2 * (lot.length - fo.length) + (if k = fo.length then 0 else 1), ⟨_, [x], 0, none, none, rfl, same_new hpf, by rw [upd_same]; rfl, ginv_0 xl, (fun h => by simp at h), rfl⟩, ?_⟩
    rintro m σ G ⟨fo, k, v5, v6, rfl, sG, hf, inv, cl, rfl⟩
    have lf : fo.length ≤ lot.length := nodup_le inv.nd inv.sub
    refine ⟨_, rfl, _, rfl, pf, _, rfl, .inl (sl_of hf), rfl, _, ne_bl, ?_⟩
    rw [List.length_map]
    by_cases c : k = fo.length
    · rw [decide_eq_true (show (k : Int) = (fo.length : Nat) by omega)]
      refine iteF ⟨_, rfl, ?_⟩
      exact q G pf fo sG hpf hf inv.nd (grow_end inv (cl c))
    · rw [decide_eq_false (show ¬ (k : Int) = (fo.length : Nat) by omega)]
      refine ⟨_, fun σ' H' z => z, ?_⟩
      refine ⟨_, rfl, pf, _, rfl, .inl (sl_of hf), ?_⟩
      rw [List.length_map]
      refine ⟨_, rfl, a, rfl, ⟨xs, same_l sG hxs⟩, for_list (K := K) (a := a) (xs := xs) (fun j σ G2 => ∃ (v5 v6 : Option V), σ = [some (V.ref a), some (V.ref b), some (V.int x), some (V.ref pf), some (V.int (fo.length : Nat)), v5, v6] ∧ Same H G2 ∧ G2 pf = some (.lst ((growL lot (as.take j) fo).map V.int))) ⟨v5, v6, rfl, sG, hf⟩ (fun _ _ _ _ z => by obtain ⟨_, _, _, z, _⟩ := z; exact same_l z hxs) ?_ ?_⟩
      · rintro j y σ G2 hy ⟨v5, v6, rfl, s2, hf2⟩
        obtain ⟨⟨u, v⟩, t, hpk, rfl, ht⟩ := pl_at (dps_s hd s2) hy
        have mem : (u, v) ∈ as := List.mem_of_getElem? hpk
        refine ⟨t, _, rfl, ht, rfl, _, _, rfl, _, _, rfl, rfl, ?_⟩
        have ip := ginv_pass inv (as.take j) fun p hp => List.mem_of_mem_take hp
        have lp := nodup_le ip.nd ip.sub
        refine gr_half (b := b) (pf := pf) (e := v) (s := u) rfl rfl rfl rfl (same_l s2 hl) hf2 (by omega) rfl ?_
        intro G3 e3 hf3
        have s3 : Same H G3 := by
          rcases e3 with rfl | ⟨o, rfl⟩
          · exact s2
          · exact same_mut s2 hpf
        refine ⟨_, _, rfl, s3, ?_⟩
        rw [take_at hpk, grow_snoc]
        exact hf3
      · rintro σ G2 ⟨v5, v6, rfl, s2, hf2⟩
        rw [take_all lx.symm] at hf2
        have inv2 := ginv_pass inv as fun p hp => hp
        have l2 := grow_len (lot := lot) as fo
        have lf2 := nodup_le inv2.nd inv2.sub
        refine ⟨_, ?_, growL lot as fo, fo.length, _, _, rfl, s2, hf2, inv2, fun e => ?_, rfl⟩
        · rw [if_neg c]
          by_cases d : fo.length = (growL lot as fo).length
          · rw [if_pos d]; omega
          · rw [if_neg d]; omega
        · obtain ⟨e1, e2⟩ := grow_fix as fo e.symm
          rw [e1]
          exact e2
abbrev nHangF : List Str := ["_law_ties", "_law_lot", "_law_thing", "_law_found", "_law_many", "_law_low", "_law_high"]
theorem sc_hangF : FnScope nHangF ["_law_ties", "_law_lot", "_law_thing"] (defScope sHangF) := ⟨rfl, rfl, rfl, by decide +kernel, rfl, by decide +kernel, by decide +kernel⟩
theorem ok_hangF {f : Addr} {fd : FuncData} (F : Fun K "_law_hanging" "_law_hanging" sHangF f fd) (B : Bl mg) : FnOk P w K mg base CX0 1 f fd ["_law_ties", "_law_lot", "_law_thing"] (spHangF K) := by
  refine F.ok sc_hangF (fun vs H Q E h => ?_) (fun cdv A outer s H vs Q E hr h => ?_)
  · obtain ⟨a, b, ts, lot, x, rfl, _⟩ := h
    rfl
  · obtain ⟨a, b, ts, lot, x, rfl, ⟨xs, hxs, hd⟩, hl, l60, xl, q⟩ := h
    refine ⟨_, pss_cons (ps_par (i := 3) (j := 4) rfl sc_hangF.nd rfl rfl (by decide) rfl rfl (pa_cons (pe_lst (pa_cons (pv 2) pa_nil)) (pa_cons pe_int pa_nil)) (by rfl))
      (pss_cons (ps_while PassesOwn.never (pt_cmpR op_ne (pv 4) (pe_callB call_len_seq (by rfl) B.len PySem.boot_len (pa_cons (pv 3) pa_nil)) (nomark _))
        (pss_cons (ps_set (i := 4) sc_hangF.nd rfl (Or.inl rfl) (pe_callB call_len_seq (by rfl) B.len PySem.boot_len (pa_cons (pv 3) pa_nil)))
        (pss_one (ps_for PassesOwn.never rfl (pi_list (pv 0)) (pg_tup rfl (pgs_cons (pg_name (i := 5) sc_hangF.nd rfl (Or.inl rfl)) (pgs_cons (pg_name (i := 6) sc_hangF.nd rfl (Or.inl rfl)) pgs_nil)))
          (pss_cons (ps_if (PW.pt (pw_and (pt_cmpR op_in_seq (pv 5) (pv 3) (by rfl)) (pw_and (pt_cmpR op_in_seq (pv 6) (pv 1) (by rfl)) (pw_and1 (pt_cmpR op_notIn_seq (pv 6) (pv 3) (by rfl))))))
              (pss_one (ps_expr (pe_bm PySem.F.plainAttrs_list PySem.F.slot_list_append PySem.F.type_list_append mt_append (pv 3) (pa_cons (pv 6) pa_nil)))) pss_nil)
          (pss_one (ps_if (PW.pt (pw_and (pt_cmpR op_in_seq (pv 6) (pv 3) (by rfl)) (pw_and (pt_cmpR op_in_seq (pv 5) (pv 1) (by rfl)) (pw_and1 (pt_cmpR op_notIn_seq (pv 5) (pv 3) (by rfl))))))
              (pss_one (ps_expr (pe_bm PySem.F.plainAttrs_list PySem.F.slot_list_append PySem.F.type_list_append mt_append (pv 3) (pa_cons (pv 5) pa_nil)))) pss_nil)))))))
      (pss_one (ps_ret (pv 3)))), ?_⟩
    have lx : xs.length = ts.length := by rw [dps_len hd, List.length_map]
    refine ⟨_, rfl, szle (by show 1 ≤ 100000; decide), fun pf hpf => ?_⟩
    refine ⟨_, _, rfl, ?_⟩
    refine ⟨fun m σ G => ∃ (fo : List Int) (k : Nat) (v5 v6 : Option V), σ = [some (V.ref a), some (V.ref b), some (V.int x), some (V.ref pf), some (V.int (k : Int)), v5, v6] ∧ Same H G ∧ G pf = some (.lst (fo.map V.int)) ∧ GInv (bsT ts) lot x fo ∧ (k = fo.length → ∀ p ∈ bsT ts, p.2 ∈ fo → p.1 ∈ lot → p.1 ∈ fo) ∧
        m = 2 * (lot.length - fo.length) + (if k = fo.length then 0 else 1), ⟨_, [x], 0, none, none, rfl, same_new hpf, by rw [upd_same]; rfl, ginv_0 xl, (fun h => by simp at h), rfl⟩, ?_⟩
    rintro m σ G ⟨fo, k, v5, v6, rfl, sG, hf, inv, cl, rfl⟩
    have lf : fo.length ≤ lot.length := nodup_le inv.nd inv.sub
    refine ⟨_, rfl, _, rfl, pf, _, rfl, .inl (sl_of hf), rfl, _, ne_bl, ?_⟩
    rw [List.length_map]
    by_cases c : k = fo.length
    · rw [decide_eq_true (show (k : Int) = (fo.length : Nat) by omega)]
      refine iteF ⟨_, rfl, ?_⟩
      exact q G pf fo sG hpf hf inv.nd fun y => by rw [grow_end inv (cl c) y, up_bsT]
    · rw [decide_eq_false (show ¬ (k : Int) = (fo.length : Nat) by omega)]
      refine ⟨_, fun σ' H' z => z, ?_⟩
      refine ⟨_, rfl, pf, _, rfl, .inl (sl_of hf), ?_⟩
      rw [List.length_map]
      refine ⟨_, rfl, a, rfl, ⟨xs, same_l sG hxs⟩, for_list (K := K) (a := a) (xs := xs) (fun j σ G2 => ∃ (v5 v6 : Option V), σ = [some (V.ref a), some (V.ref b), some (V.int x), some (V.ref pf), some (V.int (fo.length : Nat)), v5, v6] ∧ Same H G2 ∧ G2 pf = some (.lst ((growL lot (bsT (ts.take j)) fo).map V.int))) ⟨v5, v6, rfl, sG, hf⟩ (fun _ _ _ _ z => by obtain ⟨_, _, _, z, _⟩ := z; exact same_l z hxs) ?_ ?_⟩
      · rintro j y σ G2 hy ⟨v5, v6, rfl, s2, hf2⟩
        obtain ⟨⟨u, v⟩, t, hpk, rfl, ht⟩ := pl_at (dps_s hd s2) hy
        have mem : (u, v) ∈ ts := List.mem_of_getElem? hpk
        refine ⟨t, _, rfl, ht, rfl, _, _, rfl, _, _, rfl, rfl, ?_⟩
        have ip := ginv_pass inv (bsT (ts.take j)) fun ⟨p1, p2⟩ hp => mem_bsT.mpr ((mem_bsT.mp hp).imp (fun h => List.mem_of_mem_take h) fun h => List.mem_of_mem_take h)
        have ip2 := ginv_1 ip (p := (v, u)) (mem_bsT.mpr (.inr mem))
        have lp := nodup_le ip.nd ip.sub
        have lp2 := nodup_le ip2.nd ip2.sub
        refine gr_half (b := b) (pf := pf) (e := u) (s := v) rfl rfl rfl rfl (same_l s2 hl) hf2 (by omega) rfl ?_
        intro G3 e3 hf3
        have s3 : Same H G3 := by
          rcases e3 with rfl | ⟨o, rfl⟩
          · exact s2
          · exact same_mut s2 hpf
        refine gr_half (b := b) (pf := pf) (e := v) (s := u) rfl rfl rfl rfl (same_l s3 hl) hf3 (by omega) rfl ?_
        intro G4 e4 hf4
        have s4 : Same H G4 := by
          rcases e4 with rfl | ⟨o, rfl⟩
          · exact s3
          · exact same_mut s3 hpf
        refine ⟨_, _, rfl, s4, ?_⟩
        rw [take_at hpk, bsT_snoc]
        exact hf4
      · rintro σ G2 ⟨v5, v6, rfl, s2, hf2⟩
        rw [take_all lx.symm] at hf2
        have inv2 := ginv_pass inv (bsT ts) fun p hp => hp
        have l2 := grow_len (lot := lot) (bsT ts) fo
        have lf2 := nodup_le inv2.nd inv2.sub
        refine ⟨_, ?_, growL lot (bsT ts) fo, fo.length, _, _, rfl, s2, hf2, inv2, fun e => ?_, rfl⟩
        · rw [if_neg c]
          by_cases d : fo.length = (growL lot (bsT ts) fo).length
          · rw [if_pos d]; omega
          · rw [if_neg d]; omega
        · obtain ⟨e1, e2⟩ := grow_fix (bsT ts) fo e.symm
          rw [e1]
          exact e2
abbrev nGreatF : List Str := ["_law_size", "_law_arrows", "_law_ties", "_law_thing", "_law_lot", "_law_many"]
theorem sc_greatF : FnScope nGreatF ["_law_size", "_law_arrows", "_law_ties", "_law_thing"] (defScope sGreatF) := ⟨rfl, rfl, rfl, by decide +kernel, rfl, by decide +kernel, by decide +kernel⟩
theorem ok_greatF {f f1 f2 : Addr} {fd fd1 fd2 : FuncData} (F : Fun K "_law_greatest" "_law_greatest" sGreatF f fd) (D1 : Df K mg "_law_leaders" sLeadF ["_law_arrows", "_law_lot", "_law_thing"] f1 fd1) (D2 : Df K mg "_law_hanging" sHangF ["_law_ties", "_law_lot", "_law_thing"] f2 fd2) (B : Bl mg) :
    FnOk P w K mg base CX0 2 f fd ["_law_size", "_law_arrows", "_law_ties", "_law_thing"] (spGreatF K) := by
  have G1 : FnOk P w K mg base CX0 1 f1 fd1 ["_law_arrows", "_law_lot", "_law_thing"] (spLeadF K) := ok_leadF D1.F B
  have G2 : FnOk P w K mg base CX0 1 f2 fd2 ["_law_ties", "_law_lot", "_law_thing"] (spHangF K) := ok_hangF D2.F B
  refine F.ok sc_greatF (fun vs H Q E h => ?_) (fun cdv A outer s H vs Q E hr h => ?_)
  · obtain ⟨n, a, b, as, ts, x, rfl, _⟩ := h
    rfl
  · obtain ⟨n, a, b, as, ts, x, rfl, hA, hT, n6, hx, q⟩ := h
    refine ⟨_, pss_cons (ps_par (i := 4) (j := 5) rfl sc_greatF.nd rfl rfl (by decide) rfl rfl (pa_cons (pe_listRg rfl (by rfl) B.list (prg_1 (by rfl) B.range (pv 0))) (pa_cons (pe_op op_add (pv 0) pe_int) pa_nil)) (by rfl))
      (pss_cons (ps_while PassesOwn.never (pt_cmpR op_ne (pv 5) (pe_callB call_len_seq (by rfl) B.len PySem.boot_len (pa_cons (pv 4) pa_nil)) (nomark _))
        (pss_cons (ps_set (i := 5) sc_greatF.nd rfl (Or.inl rfl) (pe_callB call_len_seq (by rfl) B.len PySem.boot_len (pa_cons (pv 4) pa_nil)))
        (pss_one (ps_set (i := 4) sc_greatF.nd rfl (Or.inl rfl) (pe_call G2 hr rfl D2.g D2.F.kp D2.b .nil pass0 (pa_cons (pv 2) (pa_cons (pe_call G1 hr rfl D1.g D1.F.kp D1.b .nil pass0 (pa_cons (pv 1) (pa_cons (pv 4) (pa_cons (pv 3) pa_nil)))) (pa_cons (pv 3) pa_nil))))))))
      (pss_one (ps_ret (pe_callB cr_sortedIA (by rfl) B.sorted PyProof.Rows.boot_sorted (pa_cons (pv 4) pa_nil))))), ?_⟩
    refine ⟨_, rfl, n, rfl, RgOk.of_le (by omega) (by omega) (by omega) (by omega), fun pl hpl => ⟨_, rfl, _, _, rfl, rfl, _, _, rfl, ?_⟩⟩
    rw [rgV_things]
    refine ⟨fun m σ G => ∃ (pl : Addr) (L : List Int) (k : Nat), σ = [some (V.int n), some (V.ref a), some (V.ref b), some (V.int x), some (V.ref pl), some (V.int (k : Int))] ∧ Same H G ∧ G pl = some (.lst (L.map V.int)) ∧ L.Nodup ∧ (∀ y ∈ L, y ∈ things n) ∧ x ∈ L ∧ (∀ T, Good n as ts x T → ∀ y ∈ T, y ∈ L) ∧
        (k = L.length → ∃ l fo : List Int, OStep as ts x l fo L ∧ x ∈ l ∧ ∀ y ∈ l, y ∈ L) ∧ m = 2 * L.length + (if k = L.length then 0 else 1),
      ⟨_, pl, things n, n + 1, rfl, same_new hpl, upd_same, things_nodup n, fun _ h => h, hx, fun T g y hy => g.lot.2 y hy, (fun e => by rw [things_len] at e; omega), rfl⟩, ?_⟩
    rintro m σ G ⟨pl, L, k, rfl, sG, hL, nd, th, xL, all, fix, rfl⟩
    have lL : L.length ≤ n := by
      have := nodup_le nd (m := things n) th
      rwa [things_len] at this
    refine ⟨_, rfl, _, rfl, pl, _, rfl, .inl (sl_of hL), rfl, _, ne_bl, ?_⟩
    rw [List.length_map]
    by_cases c : k = L.length
    · rw [decide_eq_true (show (k : Int) = (L.length : Nat) by omega)]
      obtain ⟨l, fo, st, xl, sub⟩ := fix c
      refine iteF ⟨_, rfl, pl, L, rfl, .inl (sl_of hL), fun ns r pm so hr0 => ?_⟩
      have lot : Lot n ns := ⟨le_lt so (pm.nodup_iff.mpr nd), fun y hy => th y (pm.mem_iff.mp hy)⟩
      have good : Good n as ts x ns := ostep_fix st sub lot (fun y => pm.mem_iff) xl
      have e := gl_eq good fun T g y hy => pm.mem_iff.mpr (all T g y hy)
      rw [e]
      exact q _ r (sG.trans (same_new hr0)) (sG.free hr0) upd_same
    · rw [decide_eq_false (show ¬ (k : Int) = (L.length : Nat) by omega)]
      refine ⟨_, fun σ' H' z => z, ?_⟩
      refine ⟨_, rfl, pl, _, rfl, .inl (sl_of hL), ?_⟩
      rw [List.length_map]
      refine ⟨_, rfl, _, rfl, _, rfl, _, rfl, a, pl, as, L, x, rfl, pl_s hA sG, sl_of hL, by omega, xL, fun G2 r1 fo s2 hr10 hr1 nd1 re1 => ?_⟩
      have sub1 : ∀ y ∈ fo, y ∈ L := fun y hy => up_in ((re1 y).mp hy) xL
      have lfo := nodup_le nd1 sub1
      refine ⟨_, rfl, b, r1, ts, fo, x, rfl, pl_s hT (sG.trans s2), sl_of hr1, by omega, (re1 x).mpr .refl, fun G3 r2 M s3 hr20 hr2 nd2 re2 => ?_⟩
      have st : OStep as ts x L fo M := ⟨re1, re2⟩
      obtain ⟨u1, u2, u3, u4⟩ := ostep_sub st xL
      have subM : ∀ y ∈ M, y ∈ L := fun y hy => u1 y (u2 y hy)
      have lM := nodup_le nd2 subM
      refine ⟨_, ?_, r2, M, L.length, rfl, sG.trans (s2.trans s3), hr2, nd2, fun y hy => th y (subM y hy), u4, fun T g y hy => ostep_keep st g (all T g) y hy, fun e => ⟨L, fo, st, xL, nd_all nd2 subM nd e.symm⟩, rfl⟩
      rw [if_neg c]
      by_cases d : L.length = M.length
      · rw [if_pos d]; omega
      · rw [if_neg d]; omega
theorem sc_plainF : FnScope ["_law_size", "_law_arrows", "_law_ties", "_law_thing"] ["_law_size", "_law_arrows", "_law_ties"] (defScope sPlainF) := ⟨rfl, rfl, rfl, by decide +kernel, rfl, by decide +kernel, by decide +kernel⟩
theorem ok_plainF {f f1 : Addr} {fd fd1 : FuncData} (F : Fun K "_law_plain" "_law_plain" sPlainF f fd) (D1 : Df K mg "_law_greatest" sGreatF ["_law_size", "_law_arrows", "_law_ties", "_law_thing"] f1 fd1) (G1 : FnOk P w K mg base CX0 2 f1 fd1 ["_law_size", "_law_arrows", "_law_ties", "_law_thing"] (spGreatF K)) (B : Bl mg) :
    FnOk P w K mg base CX0 3 f fd ["_law_size", "_law_arrows", "_law_ties"] (spPlainF K) := by
  refine F.ok sc_plainF (fun vs H Q E h => ?_) (fun cdv A outer s H vs Q E hr h => ?_)
  · obtain ⟨n, a, b, as, ts, rfl, _⟩ := h
    rfl
  · obtain ⟨n, a, b, as, ts, rfl, hA, hT, n6, q⟩ := h
    refine ⟨_, pss_one (ps_ret (pe_callB (cr_all rfl) (by rfl) B.all PyProof.Rows.boot_all (pa_cons
      (pe_lc (own := [("_law_thing", 3)]) (g := gName 3) (tt := tYes) (te := tOp rEq (tCB (fun xs H Q => ∃ p ys, xs = [V.ref p] ∧ (SqL K H p ys ∨ SqT K H p ys) ∧ Q (V.int ys.length) H) (tCons (tCall (spGreatF K) [] E0 (tCons (tVar 0) (tCons (tVar 1) (tCons (tVar 2) (tCons (tVar 3) tNil))))) tNil)) (tC (.int 1)))
          rfl sc_plainF.nd (pi_range1 rfl B.range (pa_cons (pv 0) pa_nil)) (blkOk_by (N := ["_law_size", "_law_arrows", "_law_ties", "_law_thing"]) (sc := defScope sPlainF) (by decide +kernel))
          (fun _ _ _ _ _ => pg_name (i := 3) sc_plainF.nd rfl (Or.inl rfl)) (fun _ _ _ _ _ => pts_nil)
          (fun _ _ _ _ _ => pe_cmpR op_eq (pe_callB call_len_seq (by rfl) B.len PySem.boot_len (pa_cons (pe_call G1 hr rfl D1.g D1.F.kp D1.b .nil pass0 (pa_cons (pv 0) (pa_cons (pv 1) (pa_cons (pv 2) (pa_cons (pv 3) pa_nil))))) pa_nil)) pe_int (nomark _))) pa_nil))), ?_⟩
    refine ⟨_, rfl, n, rfl, by omega, by omega, fun D hD => ?_⟩
    refine lc_range (lo := 0) (n := ((n : Nat) : Int).toNat) (LcP H D fun i => (((things n).take i).map fun x => decide (((gl n as ts x).length : Int) = 1)).map V.bl) (lcp_0 hD rfl) ?_ ?_
    · rintro i G hi z
      have hi' : i < n := by omega
      have hz : (things n)[i]? = some (0 + (i : Int)) := by
        unfold things
        rw [List.getElem?_map, List.getElem?_range hi', Int.zero_add]
        rfl
      refine ⟨rfl, _, rfl, _, rfl, _, rfl, _, rfl, n, a, b, as, ts, 0 + (i : Int), rfl, pl_s hA z.1, pl_s hT z.1, n6, List.mem_of_getElem? hz, fun G2 r s2 _ hr' => ?_⟩
      refine ⟨r, _, rfl, .inl (sl_of hr'), rfl, ?_⟩
      rw [List.length_map]
      refine lcp_put hD (lcp_s z s2) ?_ (by rw [List.length_map, List.length_map, List.length_take, things_len]; omega)
      rw [take_at hz, List.map_append, List.map_append, dec_bl]
      rfl
    · rintro G z
      have h2 := z.2
      dsimp only at h2
      rw [take_all (by rw [things_len]; omega)] at h2
      refine ⟨D, _, rfl, sl_of h2, ?_⟩
      rw [all_one]
      exact q G z.1
end
end Tk

namespace Tk
/-! the order, exactly; all lists of all things -/
def ordGo (ps : List (Int × Int)) : Nat → List Int → List Int
  | 0, _ => []
  | k + 1, l => match freeL ps l with
    | [] => []
    | x :: _ => x :: ordGo ps k (l.erase x)
def ordL (n : Nat) (ps : List (Int × Int)) : List Int := ordGo ps n (things n)
theorem ordGo_stop {ps : List (Int × Int)} {l : List Int} (h : freeL ps l = []) : ∀ k, ordGo ps k l = []
  | 0 => rfl
  | k + 1 => by unfold ordGo; rw [h]
theorem ordGo_nil {ps : List (Int × Int)} (k : Nat) : ordGo ps k [] = [] := ordGo_stop rfl k
theorem ordGo_step {ps : List (Int × Int)} {l fr : List Int} {x : Int} (h : freeL ps l = x :: fr) : ordGo ps l.length l = x :: ordGo ps (l.erase x).length (l.erase x) := by
  have hx : x ∈ l := (mem_freeL.mp (by rw [h]; exact List.mem_cons_self ..)).1
  have e := List.length_erase_of_mem hx
  have hp : 0 < l.length := List.length_pos_of_mem hx
  obtain ⟨k, hk⟩ : ∃ k, l.length = k + 1 := ⟨l.length - 1, by omega⟩
  rw [hk, e, hk]
  show (match freeL ps l with | [] => [] | x :: _ => x :: ordGo ps k (l.erase x)) = _
  rw [h]; rfl
def ext (n : Nat) (o : List Int) : List (List Int) := ((things n).filter (fun x => !decide (x ∈ o))).map (fun x => o ++ [x])
def lsts (n : Nat) : Nat → List (List Int)
  | 0 => [[]]
  | k + 1 => (lsts n k).flatMap (ext n)
def ex (n : Nat) : Nat → List Int → List (List Int)
  | 0, o => [o]
  | k + 1, o => (ext n o).flatMap (ex n k)
theorem ex_snoc (n : Nat) : ∀ (k : Nat) (o : List Int), ex n (k + 1) o = (ex n k o).flatMap (ext n)
  | 0, o => by
    show (ext n o).flatMap (fun o => [o]) = [o].flatMap (ext n)
    simp
  | k + 1, o => by
    show (ext n o).flatMap (ex n (k + 1)) = ((ext n o).flatMap (ex n k)).flatMap (ext n)
    rw [List.flatMap_assoc]
    congr 1
    funext o'
    exact ex_snoc n k o'
theorem lsts_ex (n : Nat) : ∀ k : Nat, lsts n k = ex n k []
  | 0 => rfl
  | k + 1 => by
    rw [ex_snoc, ← lsts_ex n k]; rfl
def tOk (ps : List (Int × Int)) (o : List Int) : Bool := ps.all fun p => decide (o.idxOf p.1 < o.idxOf p.2)
theorem tOk_iff {ps : List (Int × Int)} {o : List Int} : tOk ps o = true ↔ ∀ p ∈ ps, o.idxOf p.1 < o.idxOf p.2 := by
  unfold tOk
  simp [List.all_eq_true]
theorem tOk_acy {ps : List (Int × Int)} {o : List Int} (h : tOk ps o = true) : Acy ps := ⟨fun x => o.idxOf x, tOk_iff.mp h⟩
theorem find_none {ps : List (Int × Int)} (h : ¬ Acy ps) (ls : List (List Int)) : ls.find? (tOk ps) = none := by
  rw [List.find?_eq_none]
  intro o _ c
  exact h (tOk_acy c)
theorem idx_at {o : List Int} {x : Int} (h : x ∈ o) : o[o.idxOf x]? = some x := by
  have hl := List.idxOf_lt_length_iff.mpr h
  rw [List.getElem?_eq_getElem hl, List.getElem_idxOf]
theorem topo_ok {n : Nat} {ps : List (Int × Int)} {o : List Int} (h : OInv n ps o []) (hr : ∀ p ∈ ps, p.1 ∈ things n ∧ p.2 ∈ things n) : tOk ps o = true := by
  refine tOk_iff.mpr fun p hp => ?_
  have mem : ∀ x, x ∈ things n → x ∈ o := fun x hx => by
    rcases (h.al x).mp hx with q | q
    · exact q
    · exact nomatch q
  exact h.at_ p hp _ _ (idx_at (mem _ (hr p hp).1)) (idx_at (mem _ (hr p hp).2))
theorem ex_pre {n : Nat} : ∀ {k : Nat} {o o' : List Int}, o' ∈ ex n k o → ∃ r, o' = o ++ r
  | 0, o, o', h => by
    have : o' = o := by simpa [ex] using h
    exact ⟨[], by simp [this]⟩
  | k + 1, o, o', h => by
    obtain ⟨o1, h1, h2⟩ := List.mem_flatMap.mp h
    obtain ⟨x, _, rfl⟩ := List.mem_map.mp h1
    obtain ⟨r, rfl⟩ := ex_pre h2
    exact ⟨[x] ++ r, by simp⟩
theorem erase_is {l : List Int} (hn : l.Nodup) (x : Int) : l.erase x = l.filter fun y => !decide (y = x) := by
  induction l with
  | nil => rfl
  | cons y l ih =>
    have hn' := List.nodup_cons.mp hn
    rw [List.erase_cons, List.filter_cons]
    by_cases e : y = x
    · subst e
      have e1 : (y == y) = true := by simp
      rw [if_pos e1]
      have e2 : (!decide (y = y)) = false := by simp
      rw [e2]
      simp only [Bool.false_eq_true, if_false]
      symm
      rw [List.filter_eq_self]
      intro a ha
      simp
      intro c
      subst c
      exact hn'.1 ha
    · have e1 : (y == x) = false := by simpa using e
      have e2 : (!decide (y = x)) = true := by simp [e]
      rw [e1, e2]
      simp only [Bool.false_eq_true, if_false, if_true]
      rw [ih hn'.2]
theorem find_some {n : Nat} {ps : List (Int × Int)} (ha : Acy ps) (hr : ∀ p ∈ ps, p.1 ∈ things n ∧ p.2 ∈ things n) : ∀ (k : Nat) (o l : List Int), OInv n ps o l → l.length = k → l = (things n).filter (fun x => !decide (x ∈ o)) →
    (ex n k o).find? (tOk ps) = some (o ++ ordGo ps k l) ∧ (ordGo ps k l).length = k
  | 0, o, l, inv, hl, _ => by
    have : l = [] := List.length_eq_zero_iff.mp hl
    subst this
    refine ⟨?_, rfl⟩
    show [o].find? (tOk ps) = some (o ++ [])
    rw [List.find?_cons, topo_ok inv hr, List.append_nil]
  | k + 1, o, l, inv, hl, hf => by
    have lne : l ≠ [] := by intro e; rw [e] at hl; cases hl
    obtain ⟨x, fr, hfr⟩ : ∃ x fr, freeL ps l = x :: fr := by
      cases e : freeL ps l with
      | nil => exact absurd e (freeL_ne ha lne)
      | cons x fr => exact ⟨x, fr, rfl⟩
    have hxf : x ∈ freeL ps l := by rw [hfr]; exact List.mem_cons_self ..
    have hx : x ∈ l := (mem_freeL.mp hxf).1
    have le := List.length_erase_of_mem hx
    have inv' := oinv_step inv (fun p hp => (hr p hp).1) hxf
    have hf' : l.erase x = (things n).filter (fun y => !decide (y ∈ o ++ [x])) := by
      rw [erase_is inv.nl, hf, List.filter_filter]
      refine List.filter_congr fun y _ => ?_
      simp only [List.mem_append, List.mem_singleton]
      by_cases c : y = x <;> by_cases d : y ∈ o <;> simp [c, d]
    obtain ⟨ih, ihl⟩ := find_some ha hr k (o ++ [x]) (l.erase x) inv' (by omega) hf'
    have eg : ordGo ps (k + 1) l = x :: ordGo ps k (l.erase x) := by
      have := ordGo_step hfr
      rw [hl, le, hl] at this
      exact this
    rw [eg]
    refine ⟨?_, by simp [ihl]⟩
    have hfr' := hfr
    unfold freeL at hfr'
    obtain ⟨l1, l2, e, h1, _, _⟩ := List.filter_eq_cons_iff.mp hfr'
    show ((ext n o).flatMap (ex n k)).find? (tOk ps) = _
    have ee : ext n o = l.map fun x => o ++ [x] := by
      unfold ext
      rw [← hf]
    rw [List.find?_flatMap, ee, e, List.map_append, List.findSome?_append, List.map_cons, List.findSome?_cons, ih]
    have none1 : (l1.map fun x => o ++ [x]).findSome? (fun o' => (ex n k o').find? (tOk ps)) = none := by
      rw [List.findSome?_eq_none_iff]
      intro o1 ho1
      obtain ⟨y, hy, rfl⟩ := List.mem_map.mp ho1
      have hyl : y ∈ l := by rw [e]; exact List.mem_append_left _ hy
      have hnf := h1 y hy
      have hpu : y ∈ pushedL ps l := by simpa using hnf
      obtain ⟨p, hpm, hs, ey⟩ := mem_pushedL.mp hpu
      rw [List.find?_eq_none]
      intro o2 ho2 c
      obtain ⟨r, rfl⟩ := ex_pre ho2
      have lt := tOk_iff.mp c p hpm
      rw [ey] at lt
      have n1 : p.1 ∉ o := fun q => inv.dj _ q hs
      have n2 : y ∉ o := fun q => inv.dj _ q hyl
      rw [List.append_assoc] at lt
      have e1 : List.idxOf p.1 (o ++ ([y] ++ r)) = List.idxOf p.1 ([y] ++ r) + o.length := by rw [List.idxOf_append, if_neg n1]
      have e2 : List.idxOf y (o ++ ([y] ++ r)) = List.idxOf y ([y] ++ r) + o.length := by rw [List.idxOf_append, if_neg n2]
      have z : List.idxOf y ([y] ++ r) = 0 := by simp
      rw [e1, e2, z] at lt
      omega
    rw [none1]
    simp
    rw [← e]
theorem go_end {n : Nat} {ps : List (Int × Int)} (hr : ∀ p ∈ ps, p.1 ∈ things n ∧ p.2 ∈ things n) : ∀ (k : Nat) (o l : List Int), OInv n ps o l → l.length = k → (ordGo ps k l).length = k → OInv n ps (o ++ ordGo ps k l) []
  | 0, o, l, inv, hl, _ => by
    have : l = [] := List.length_eq_zero_iff.mp hl
    subst this
    show OInv n ps (o ++ []) []
    rw [List.append_nil]; exact inv
  | k + 1, o, l, inv, hl, hg => by
    cases hfr : freeL ps l with
    | nil =>
      rw [ordGo_stop hfr] at hg
      cases hg
    | cons x fr =>
      have hxf : x ∈ freeL ps l := by rw [hfr]; exact List.mem_cons_self ..
      have hx : x ∈ l := (mem_freeL.mp hxf).1
      have le := List.length_erase_of_mem hx
      have eg : ordGo ps (k + 1) l = x :: ordGo ps k (l.erase x) := by
        have := ordGo_step hfr
        rw [hl, le, hl] at this
        exact this
      rw [eg] at hg ⊢
      have := go_end hr k (o ++ [x]) (l.erase x) (oinv_step inv (fun p hp => (hr p hp).1) hxf) (by omega) (by simpa using hg)
      rw [List.append_assoc] at this
      exact this
section
variable {n : Nat} {ps : List (Int × Int)} (hr : ∀ p ∈ ps, p.1 ∈ things n ∧ p.2 ∈ things n)
include hr
theorem full_acy : (ordL n ps).length = n ↔ Acy ps := by
  constructor
  · intro h
    have := go_end hr n [] (things n) (oinv_0 n ps) (things_len n) h
    exact tOk_acy (topo_ok this hr)
  · intro h
    exact (find_some h hr n [] (things n) (oinv_0 n ps) (things_len n) (List.filter_eq_self.mpr (by simp)).symm).2
theorem find_ord : (lsts n n).find? (tOk ps) = if (ordL n ps).length = n then some (ordL n ps) else none := by
  by_cases c : (ordL n ps).length = n
  · rw [if_pos c, lsts_ex, (find_some ((full_acy hr).mp c) hr n [] (things n) (oinv_0 n ps) (things_len n) (List.filter_eq_self.mpr (by simp)).symm).1]
    rfl
  · rw [if_neg c]
    exact find_none (fun h => c ((full_acy hr).mpr h)) _
end
theorem freeL_congr {ps qs : List (Int × Int)} (h : ∀ p, p ∈ ps ↔ p ∈ qs) (l : List Int) : freeL ps l = freeL qs l := by
  unfold freeL
  refine List.filter_congr fun x _ => ?_
  have : x ∈ pushedL ps l ↔ x ∈ pushedL qs l := by
    rw [mem_pushedL, mem_pushedL]
    constructor
    · rintro ⟨p, a, b⟩; exact ⟨p, (h p).mp a, b⟩
    · rintro ⟨p, a, b⟩; exact ⟨p, (h p).mpr a, b⟩
  by_cases c : x ∈ pushedL ps l
  · simp [c, this.mp c]
  · have d : x ∉ pushedL qs l := fun q => c (this.mpr q)
    simp [c, d]
theorem ordGo_congr {ps qs : List (Int × Int)} (h : ∀ p, p ∈ ps ↔ p ∈ qs) : ∀ (k : Nat) (l : List Int), ordGo ps k l = ordGo qs k l
  | 0, _ => rfl
  | k + 1, l => by
    unfold ordGo
    rw [freeL_congr h l]
    cases freeL qs l with
    | nil => rfl
    | cons x fr =>
      show x :: _ = x :: _
      rw [ordGo_congr h k]
theorem ordL_congr {n : Nat} {ps qs : List (Int × Int)} (h : ∀ p, p ∈ ps ↔ p ∈ qs) : ordL n ps = ordL n qs := ordGo_congr h n _
theorem ext_mem {n : Nat} {o o' : List Int} (h : o' ∈ ext n o) : ∃ x ∈ things n, x ∉ o ∧ o' = o ++ [x] := by
  obtain ⟨x, hx, rfl⟩ := List.mem_map.mp h
  obtain ⟨h1, h2⟩ := List.mem_filter.mp hx
  exact ⟨x, h1, by simpa using h2, rfl⟩
theorem lsts_mem {n : Nat} : ∀ {k : Nat} {o : List Int}, o ∈ lsts n k → o.Nodup ∧ (∀ x ∈ o, x ∈ things n) ∧ o.length = k
  | 0, o, h => by
    have : o = [] := by simpa [lsts] using h
    subst this
    exact ⟨List.nodup_nil, (fun _ h => nomatch h), rfl⟩
  | k + 1, o, h => by
    obtain ⟨o1, h1, h2⟩ := List.mem_flatMap.mp h
    obtain ⟨x, hx, nx, rfl⟩ := ext_mem h2
    obtain ⟨a, b, c⟩ := lsts_mem h1
    refine ⟨?_, ?_, by simp [c]⟩
    · rw [List.nodup_append]
      refine ⟨a, by simp, ?_⟩
      intro y hy z hz e
      simp at hz
      subst hz
      subst e
      exact nx hy
    · intro y hy
      rcases List.mem_append.mp hy with q | q
      · exact b y q
      · simp at q
        exact q ▸ hx
theorem lsts_all {n : Nat} {o : List Int} (h : o ∈ lsts n n) {x : Int} (hx : x ∈ things n) : x ∈ o := by
  obtain ⟨a, b, c⟩ := lsts_mem h
  by_cases d : x ∈ o
  · exact d
  · have := nodup_le (l := x :: o) (m := things n) (List.nodup_cons.mpr ⟨d, a⟩) (fun y hy => by
      rcases List.mem_cons.mp hy with q | q
      · exact q ▸ hx
      · exact b y q)
    rw [things_len, List.length_cons, c] at this
    omega
theorem flat_len {α β : Type} {f : α → List β} {m : Nat} : ∀ {l : List α}, (∀ x ∈ l, (f x).length ≤ m) → (l.flatMap f).length ≤ l.length * m
  | [], _ => by simp
  | x :: l, h => by
    have h1 := h x (List.mem_cons_self ..)
    have h2 := flat_len (l := l) fun y hy => h y (List.mem_cons_of_mem _ hy)
    rw [List.flatMap_cons, List.length_append, List.length_cons, Nat.succ_mul]
    omega
theorem ext_len {n : Nat} (o : List Int) : (ext n o).length ≤ n := by
  unfold ext
  rw [List.length_map]
  have := List.length_filter_le (fun x => !decide (x ∈ o)) (things n)
  rw [things_len] at this
  exact this
theorem lsts_len {n : Nat} : ∀ k : Nat, (lsts n k).length ≤ n ^ k
  | 0 => by simp [lsts]
  | k + 1 => by
    have h1 := flat_len (l := lsts n k) (f := ext n) (m := n) fun x _ => ext_len x
    have h2 := lsts_len k (n := n)
    have h3 := Nat.mul_le_mul_right n h2
    rw [Nat.pow_succ]
    exact Nat.le_trans h1 h3
theorem lsts_few {n k : Nat} (hn : n ≤ 5) (hk : k ≤ 5) : (lsts n k).length ≤ 3125 := by
  have h1 := lsts_len k (n := n)
  have h2 : n ^ k ≤ 5 ^ k := Nat.pow_le_pow_left hn k
  have h3 : 5 ^ k ≤ 5 ^ 5 := Nat.pow_le_pow_right (by decide) hk
  have h4 : (5 : Nat) ^ 5 = 3125 := by decide
  omega
end Tk

namespace Tk
open PySem PySem.Spec PyProof.Rows L2
def spOrdG (K : PySem.W.Frag) : Sp := fun vs H Q _ => ∃ (n : Nat) (a : Addr) (ps : List (Int × Int)), vs = [.int n, .ref a] ∧ PL K H a ps ∧ n ≤ 60 ∧ Prs n ps ∧
  ∀ H' p, Same H H' → H p = none → H' p = some (.lst ((ordL n ps).map V.int)) → Q (.ref p) H'
section
variable {P : Program} {w : World} {K : PySem.W.Frag} {mg : Str → Option Value} {base : Heap}
abbrev nOrdG : List Str := ["size", "arrows", "order", "left", "pushed", "free", "start", "end", "thing"]
theorem sc_ordG : FnScope nOrdG ["size", "arrows"] (defScope sOrdOf) := ⟨rfl, rfl, rfl, by decide +kernel, rfl, by decide +kernel, by decide +kernel⟩
theorem ok_ordG {f : Addr} {fd : FuncData} (F : Fun K "order_of" "order_of" sOrdOf f fd) (B : Bl mg) : FnOk P w K mg base CX0 1 f fd ["size", "arrows"] (spOrdG K) := by
  refine F.ok sc_ordG (fun vs H Q E h => ?_) (fun cdv A outer s H vs Q E hr h => ?_)
  · obtain ⟨n, a, ps, rfl, _⟩ := h
    rfl
  · obtain ⟨n, a, ps, rfl, ⟨xs, hxs, hd⟩, hn, hps, q⟩ := h
    refine ⟨_, pss_cons (ps_asg (pe_tup (pa_cons (pe_lst pa_nil) (pa_cons (pe_listRg rfl (by rfl) B.list (prg_1 (by rfl) B.range (pv 0))) pa_nil)))
        (pg_tup rfl (pgs_cons (pg_name (i := 2) sc_ordG.nd rfl (Or.inl rfl)) (pgs_cons (pg_name (i := 3) sc_ordG.nd rfl (Or.inr rfl)) pgs_nil))))
      (pss_cons (ps_while PassesOwn.never (pt_truth (pv 3) (fun _ => rfl))
        (pss_cons (ps_set (i := 4) sc_ordG.nd rfl (Or.inr rfl)
          (pe_lc (own := [("start", 6), ("end", 7)]) (g := gTup K 2 (gCons (gName 6) (gCons (gName 7) gNil))) (tt := tTest (tOp (rIn K false) (tVar 6) (tVar 3))) rfl sc_ordG.nd (pi_list (pv 1)) (blkOk_by (N := nOrdG) (sc := defScope sOrdOf) (by decide +kernel))
            (fun _ _ _ _ _ => pg_tup rfl (pgs_cons (pg_name (i := 6) sc_ordG.nd rfl (Or.inl rfl)) (pgs_cons (pg_name (i := 7) sc_ordG.nd rfl (Or.inl rfl)) pgs_nil)))
            (fun _ _ _ _ _ => pts_one (pt_cmpR op_in_seq (pv 6) (pv 3) (by rfl)))
            (fun _ _ _ _ _ => pv 7)))
        (pss_cons (ps_setLc (i := 5) (own := [("thing", 8)]) (g := gName 8) (tt := tTest (tOp (rIn K true) (tVar 8) (tVar 4))) rfl sc_ordG.nd rfl rfl (sw_true rfl rfl rfl (by decide +kernel)) (pi_list (pv 3)) (blkOk_by (N := nOrdG) (sc := defScope sOrdOf) (by decide +kernel))
            (fun _ _ _ _ _ => pg_name (i := 8) sc_ordG.nd rfl (Or.inl rfl))
            (fun _ _ _ _ _ => pts_one (pt_cmpR op_notIn_seq (pv 8) (pv 4) (by rfl)))
            (fun _ _ _ _ _ => pv 8))
        (pss_cons (ps_if (pt_not (pt_truth (pv 5) (fun _ => rfl))) (pss_one (ps_ret (pv 2))) pss_nil)
        (pss_cons (ps_expr (pe_bm PySem.F.plainAttrs_list PySem.F.slot_list_append PySem.F.type_list_append mt_append (pv 2) (pa_cons (pe_ix ix_list (pv 5) pe_int (fun _ _ => rfl)) pa_nil)))
        (pss_one (ps_expr (pe_bm PySem.F.plainAttrs_list PySem.F.slot_list_remove PySem.F.type_list_remove mt_remove (pv 3) (pa_cons (pe_ix ix_list (pv 5) pe_int (fun _ _ => rfl)) pa_nil)))))))))
      (pss_one (ps_ret (pv 2)))), ?_⟩
    have hl : xs.length = ps.length := by rw [dps_len hd, List.length_map]
    -- order, left = ([], list(range(size)))
    refine ⟨szle (by decide), fun po hpo => ?_⟩
    refine ⟨_, rfl, n, rfl, RgOk.of_le (by omega) (by omega) (by omega) (by omega), fun pl hpl => ⟨szle (by show 2 ≤ 100000; decide), fun pt hpt => ?_⟩⟩
    have npl : po ≠ pl := fun e => by rw [e, upd_same] at hpl; cases hpl
    have hpl0 : H pl = none := by rw [upd_ne npl.symm] at hpl; exact hpl
    have npt : pt ≠ po ∧ pt ≠ pl := ⟨(fun e => by rw [e, upd_ne npl, upd_same] at hpt; cases hpt), (fun e => by rw [e, upd_same] at hpt; cases hpt)⟩
    refine ⟨pt, _, rfl, st_of upd_same, rfl, _, _, rfl, _, _, rfl, rfl, ?_⟩
    refine ⟨fun m σ H1 => ∃ o l v4 v5 v6 v7 v8, σ = [some (V.int n), some (V.ref a), some (V.ref po), some (V.ref pl), v4, v5, v6, v7, v8] ∧ Same H H1 ∧ H1 po = some (.lst (o.map V.int)) ∧ H1 pl = some (.lst (l.map V.int)) ∧ OInv n ps o l ∧ o ++ ordGo ps l.length l = ordL n ps ∧ l.length = m,
      ⟨n, [], things n, none, none, none, none, none, rfl, ?_, ?_, ?_, oinv_0 n ps, by rw [things_len]; rfl, things_len n⟩, ?_⟩
    · exact ((same_new hpo).trans (same_new hpl)).trans (same_new hpt)
    · rw [upd_ne npt.1.symm, upd_ne npl, upd_same]; rfl
    · rw [upd_ne npt.2.symm, upd_same, rgV_things]
    rintro m σ H1 ⟨o, l, v4, v5, v6, v7, v8, rfl, s1, ho, hll, inv, eo, rfl⟩
    refine ⟨_, rfl, _, .inl ⟨_, sl_of hll, rfl⟩, ?_⟩
    cases l with
    | nil =>
      refine ⟨_, rfl, q H1 po s1 hpo ?_⟩
      rw [ho, ← eo, ordGo_nil, List.append_nil]
    | cons y l0 =>
      generalize hL : y :: l0 = l at *
      have lne : l ≠ [] := by rw [← hL]; simp
      have lem : (!(l.map V.int).isEmpty) = true := by rw [← hL]; rfl
      rw [lem]
      refine ⟨_, fun σ' H' z => z, ?_⟩
      -- pushed
      refine ⟨_, rfl, a, rfl, ⟨xs, same_l s1 hxs⟩, fun D hD => ?_⟩
      refine lc_list (xs := xs) (LcP H1 D fun k => (pushedL (ps.take k) l).map V.int) (lcp_0 hD rfl) (fun k H2 _ p => same_l (s1.trans p.1) hxs) ?_ ?_
      · intro k x H2 hx p
        obtain ⟨⟨i, j⟩, t, hpk, rfl, ht⟩ := pl_at (dps_s hd (s1.trans p.1)) hx
        have short : ((pushedL (ps.take k) l).map V.int).length < 100000 := by
          have h1 := hps.2.1
          have h2 : (pushedL (ps.take k) l).length ≤ (ps.take k).length := by unfold pushedL; rw [List.length_map]; exact List.length_filter_le ..
          rw [List.length_take] at h2
          rw [List.length_map]; omega
        refine ⟨t, _, rfl, ht, rfl, _, _, rfl, _, _, rfl, rfl, rfl, _, rfl, _, rfl, pl, _, rfl, .inl (sl_of (p.1 _ _ hll)), rfl, flat_ints l, _, in_bl, ?_⟩
        have et := pushed_take (l := l) hpk
        by_cases c : i ∈ l
        · rw [decide_eq_true c]
          refine ⟨_, rfl, ?_⟩
          refine lcp_put hD p ?_ short
          rw [et, if_pos c, List.map_append]; rfl
        · rw [decide_eq_false c]
          refine iteF (lcp_no p ?_)
          rw [et, if_neg c]
      · intro H2 p
        have hD2 : H2 D = some (.lst ((pushedL (ps.take xs.length) l).map V.int)) := p.2
        rw [take_all hl.symm] at hD2
        have s2 : Same H1 H2 := p.1
        have hDn : H D = none := s1.free hD
        -- free
        refine ⟨_, rfl, pl, rfl, ⟨_, sl_of (s2 _ _ hll)⟩, fun G hG => ?_⟩
        refine lc_list (xs := l.map V.int) (LcP H2 G fun k => ((l.take k).filter fun x => !decide (x ∈ pushedL ps l)).map V.int) (lcp_0 hG rfl) (fun k H3 _ p3 => sl_of (p3.1 _ _ (s2 _ _ hll))) ?_ ?_
        · intro k x H3 hx p3
          obtain ⟨z, hz, rfl⟩ := int_at hx
          have et := filter_take (f := fun x => !decide (x ∈ pushedL ps l)) hz
          have short : (((l.take k).filter fun x => !decide (x ∈ pushedL ps l)).map V.int).length < 100000 := by
            have h2 : ((l.take k).filter fun x => !decide (x ∈ pushedL ps l)).length ≤ (l.take k).length := List.length_filter_le ..
            have h3 := nodup_le inv.nl (fun x hx => (inv.al x).mpr (.inr hx))
            rw [things_len] at h3
            rw [List.length_take] at h2
            rw [List.length_map]; omega
          refine ⟨rfl, _, rfl, _, rfl, D, _, rfl, .inl (sl_of (p3.1 _ _ hD2)), rfl, flat_ints _, _, notin_bl, ?_⟩
          by_cases c : z ∈ pushedL ps l
          · rw [decide_eq_true c]
            refine iteF (lcp_no p3 ?_)
            rw [et, if_neg (by simp [c])]
          · rw [decide_eq_false c]
            refine ⟨_, rfl, ?_⟩
            refine lcp_put hG p3 ?_ short
            rw [et, if_pos (by simp [c]), List.map_append]; rfl
        · intro H3 p3
          have hG3 : H3 G = some (.lst (((l.take (l.map V.int).length).filter fun x => !decide (x ∈ pushedL ps l)).map V.int)) := p3.2
          rw [take_all (by simp)] at hG3
          have s3 : Same H2 H3 := p3.1
          have eF : (l.filter fun x => !decide (x ∈ pushedL ps l)) = freeL ps l := rfl
          rw [eF] at hG3
          by_cases fne : freeL ps l = []
          · rw [fne] at hG3
            refine ⟨_, rfl, _, .inl ⟨_, sl_of hG3, rfl⟩, ?_⟩
            show if (!!(([] : List Int).map V.int).isEmpty) = true then _ else _
            refine iteT ?_
            refine ⟨_, rfl, ?_⟩
            refine q _ po (s1.trans (s2.trans s3)) hpo ?_
            rw [s3 _ _ (s2 _ _ ho), ← eo, ordGo_stop fne, List.append_nil]
          obtain ⟨x, fr, hfr⟩ : ∃ x fr, freeL ps l = x :: fr := by
            cases e : freeL ps l with
            | nil => exact absurd e fne
            | cons x fr => exact ⟨x, fr, rfl⟩
          have hxf : x ∈ freeL ps l := by rw [hfr]; exact List.mem_cons_self ..
          rw [hfr] at hG3
          refine ⟨_, rfl, _, .inl ⟨_, sl_of hG3, rfl⟩, iteF ?_⟩
          have ho3 : H3 po = some (.lst (o.map V.int)) := s3 _ _ (s2 _ _ ho)
          have hl3 : H3 pl = some (.lst (l.map V.int)) := s3 _ _ (s2 _ _ hll)
          have nG : H1 G = none := s2.free hG
          have nGo : G ≠ po := fun e => by rw [e, ho] at nG; cases nG
          have nGl : G ≠ pl := fun e => by rw [e, hll] at nG; cases nG
          have olen : (o.map V.int).length < 100000 := by
            have h3 := nodup_le inv.no (fun x hx => (inv.al x).mpr (.inl hx))
            rw [things_len] at h3
            rw [List.length_map]; omega
          refine ⟨_, rfl, .inl ⟨rfl, _, sl_of ho3⟩, _, rfl, G, _, _, _, rfl, rfl, sl_of hG3, at0, po, _, _, rfl, rfl, ho3, szlt olen, ?_⟩
          have hl4 : (upd H3 po (.lst (o.map V.int ++ [V.int x]))) pl = some (.lst (l.map V.int)) := by rw [upd_ne npl.symm]; exact hl3
          obtain ⟨j, hj1, hj2, hj3⟩ := erase_ix (mem_freeL.mp hxf).1
          refine ⟨_, rfl, .inl ⟨rfl, _, sl_of hl4⟩, _, rfl, G, _, _, _, rfl, rfl, sl_of (by rw [upd_ne nGo]; exact hG3), at0, pl, l, x, j, rfl, rfl, hl4, hj1, hj2, ?_⟩
          refine ⟨(l.erase x).length, ?_, o ++ [x], l.erase x, _, _, _, _, _, rfl, ?_, ?_, ?_, oinv_step inv (fun p hp => mem_things.mpr ⟨(hps.2.2 p hp).1, (hps.2.2 p hp).2.1⟩) hxf, (by rw [← eo, ordGo_step hfr, List.append_assoc]; rfl), rfl⟩
          · have := List.length_erase_of_mem (mem_freeL.mp hxf).1
            have hp : 0 < l.length := List.length_pos_of_mem (mem_freeL.mp hxf).1
            omega
          · exact same_mut (same_mut (s1.trans (s2.trans s3)) hpo) hpl0
          · rw [upd_ne npl, upd_same, List.map_append]; rfl
          · rw [upd_same, hj3]
end
end Tk

namespace Tk
open PySem PySem.Spec PyProof.Rows L2
/-! ## the law's own draws -/
def PotOk (x y : Int) : Prop := 0 ≤ x ∧ 0 ≤ y ∧ y < 4294967296
/-- all but what stands at a is as it was -/
def SmX (a : Addr) (H H' : Hp) : Prop := ∀ b o, b ≠ a → H b = some o → H' b = some o
theorem SmX.refl (a : Addr) (H : Hp) : SmX a H H := fun _ _ _ h => h
theorem SmX.trans {a : Addr} {H H1 H2 : Hp} (h : SmX a H H1) (g : SmX a H1 H2) : SmX a H H2 := fun b o hb e => g b o hb (h b o hb e)
theorem smx_of {a : Addr} {H H1 : Hp} (h : Same H H1) : SmX a H H1 := fun b o _ e => h b o e
theorem smx_upd {a : Addr} {H : Hp} {o : HO} : SmX a H (upd H a o) := fun b o hb e => by rw [upd_ne hb]; exact e
theorem smx_mut {a p : Addr} {H H' : Hp} {o : HO} (e : SmX a H H') (h : H p = none) : SmX a H (upd H' p o) := by
  intro b u hb hu
  rw [upd_ne (ne_of_none hu h)]
  exact e b u hb hu
theorem smx_free {a p : Addr} {H H' : Hp} (e : SmX a H H') (hp : p ≠ a) (h : H' p = none) : H p = none := by
  cases q : H p with
  | none => rfl
  | some o => rw [e p o hp q] at h; cases h
/-- a pot of draws at a -/
def Pot (H : Hp) (a : Addr) : Prop := ∃ x y, H a = some (.lst [.int x, .int y]) ∧ PotOk x y
theorem smx_l {K : PySem.W.Frag} {a : Addr} {H H' : Hp} {p : Addr} {xs : List V} (e : SmX a H H') (n : p ≠ a) (h : SqL K H p xs) : SqL K H' p xs := by
  rcases h with (h | ⟨o, h⟩) | h
  · exact .inl (.inl (e _ _ n h))
  · exact .inl (.inr ⟨o, e _ _ n h⟩)
  · exact .inr h
theorem smx_t {K : PySem.W.Frag} {a : Addr} {H H' : Hp} {p : Addr} {xs : List V} (pa : Pot H a) (e : SmX a H H') (h : SqT K H p xs) : SqT K H' p xs := by
  obtain ⟨x, y, ha, _⟩ := pa
  rcases h with (h | ⟨o, h⟩) | h
  · exact .inl (.inl (e _ _ (fun q => by rw [q, ha] at h; cases h) h))
  · exact .inl (.inr ⟨o, e _ _ (fun q => by rw [q, ha] at h; cases h) h⟩)
  · exact .inr h
theorem fnok_weak {P : Program} {w : World} {K : PySem.W.Frag} {mg : Str → Option Value} {base : Heap} {cx : CXT} {k : Nat} {f : Addr} {fd : FuncData} {ps : List Str} {sp sp' : Sp} (h : FnOk P w K mg base cx k f fd ps sp) (wk : ∀ vs H Q E, sp' vs H Q E → sp vs H Q E) : FnOk P w K mg base cx k f fd ps sp' :=
  ⟨fun vs H Q E z => h.len vs H Q E (wk _ _ _ _ z), fun A outer s H args us vs Q E r e b v z => h.run A outer s H args us vs Q E r e b v (wk _ _ _ _ z)⟩
def spPot (K : PySem.W.Frag) : Sp := fun vs H Q _ => ∃ (a : Addr) (ns : List Int), vs = [.ref a, .int 0] ∧ SqL K H a (ns.map V.int) ∧
  ∀ (H' : Hp) (p : Addr), Same H H' → H p = none → Pot H' p → Q (.ref p) H'
def spDraw : Sp := fun vs H Q _ => ∃ (a : Addr) (m : Int), vs = [.ref a, .int m] ∧ Pot H a ∧ 0 < m ∧ m < 1073741824 ∧
  ∀ (H' : Hp) (d : Int), SmX a H H' → Pot H' a → 0 ≤ d → d < m → Q (.int d) H'
section
variable {P : Program} {w : World} {K : PySem.W.Frag} {mg : Str → Option Value} {base : Heap}
abbrev nPot : List Str := ["_law_script", "_law_k", "_law_cell"]
theorem sc_pot : FnScope nPot ["_law_script", "_law_k"] (defScope sPot) := ⟨rfl, rfl, rfl, by decide +kernel, rfl, by decide +kernel, by decide +kernel⟩
theorem potok_end (c j : Int) (m : Int) (h0 : 0 < m) (h1 : m < 4294967295) : PotOk (if j > 0 then j else 0) (c % m + 1) := by
  have a := Int.emod_nonneg c (show m ≠ 0 by omega)
  have b := Int.emod_lt_of_pos c h0
  refine ⟨?_, by omega, by omega⟩
  split <;> omega
theorem ok_pot {f : Addr} {fd : FuncData} (F : Fun K "_law_pot" "_law_pot" sPot f fd) (B : Bl mg) : FnOk P w K mg base CX0 1 f fd ["_law_script", "_law_k"] (spPot K) := by
  refine F.ok sc_pot (fun vs H Q E h => ?_) (fun cdv A outer s H vs Q E hr h => ?_)
  · obtain ⟨a, ns, rfl, _⟩ := h
    rfl
  · obtain ⟨a, ns, rfl, ha, q⟩ := h
    refine ⟨_, pss_cons (ps_set (i := 2) sc_pot.nd rfl (Or.inl rfl) (pe_ifExp (pt_cmpR op_lt (pv 1) (pe_callB call_len_seq (by rfl) B.len PySem.boot_len (pa_cons (pv 0) pa_nil)) (nomark _))
          (pe_callB call_abs (by rfl) B.abs PyProof.Rows.boot_abs (pa_cons (pe_ix ix_list (pv 0) (pv 1) (fun _ _ => rfl)) pa_nil))
          (pe_op op_add (pe_op op_mul pe_int (pv 1)) pe_int)))
      (pss_one (ps_ret (pe_lst (pa_cons (pe_callB (call_max2 rfl) (by rfl) B.max PyProof.Rows.boot_max (pa_cons pe_int (pa_cons (pe_op op_sub (pv 2) (pe_op op_pow pe_int pe_int)) pa_nil)))
        (pa_cons (pe_op op_add (pe_op op_mod (pe_callTy call_int1 (by rfl) B.int PyProof.Rows.boot_int (pa_cons (pe_op op_add (pe_op op_add (pe_op op_mul (pe_op op_mod (pe_callTy call_int1 (by rfl) B.int PyProof.Rows.boot_int (pa_cons (pv 2) pa_nil)) pe_int) pe_int) (pe_op op_mul pe_int (pv 1))) pe_int) pa_nil)) pe_int) pe_int) pa_nil))))), ?_⟩
    refine ⟨_, rfl, _, rfl, a, _, rfl, .inl ha, _, _, rfl, rfl, _, rfl, ?_⟩
    refine ite2 (fun hk => ?_) (fun hk => ?_)
    · cases ns with
      | nil => simp at hk
      | cons n ns =>
        refine ⟨_, rfl, _, rfl, a, _, _, _, rfl, rfl, ha, at0, n, rfl, ?_⟩
        refine ⟨_, rfl, _, _, rfl, rfl, ⟨by decide, by decide, by decide⟩, _, _, rfl, rfl, _, _, rfl, ?_⟩
        have b0 := Int.emod_nonneg (if n < 0 then -n else n) (show (2147483549 : Int) ≠ 0 by decide)
        have b1 := Int.emod_lt_of_pos (if n < 0 then -n else n) (show (0 : Int) < 2147483549 by decide)
        refine ⟨_, rfl, .inl ⟨_, rfl, _, _, rfl, rfl, (show (0 : Int) < 2147483549 by decide), _, _, rfl, rfl, .inl ⟨by omega, by omega⟩, _, rfl, _, _, rfl, rfl, .inl ⟨by decide, by decide⟩, _, _, rfl, rfl, _, _, rfl, rfl, .inl ⟨_, rfl, ?_⟩⟩⟩
        refine ⟨_, _, rfl, rfl, (show (0 : Int) < 2147483563 by decide), _, _, rfl, rfl, ?_⟩
        refine ⟨szle (by show 2 ≤ 100000; decide), fun r hr => ?_⟩
        exact q _ r (same_new hr) hr ⟨_, _, upd_same, potok_end _ _ 2147483563 (by decide) (by decide)⟩
    · refine ⟨_, rfl, _, _, rfl, rfl, .inl ⟨by decide, by decide⟩, _, _, rfl, rfl, ?_⟩
      refine ⟨_, rfl, _, _, rfl, rfl, ⟨by decide, by decide, by decide⟩, _, _, rfl, rfl, _, _, rfl, ?_⟩
      refine ⟨_, rfl, .inl ⟨_, rfl, _, _, rfl, rfl, (show (0 : Int) < 2147483549 by decide), _, _, rfl, rfl, .inl ⟨by decide, by decide⟩, _, rfl, _, _, rfl, rfl, .inl ⟨by decide, by decide⟩, _, _, rfl, rfl, _, _, rfl, rfl, .inl ⟨_, rfl, ?_⟩⟩⟩
      refine ⟨_, _, rfl, rfl, (show (0 : Int) < 2147483563 by decide), _, _, rfl, rfl, ?_⟩
      refine ⟨szle (by show 2 ≤ 100000; decide), fun r hr => ?_⟩
      exact q _ r (same_new hr) hr ⟨_, _, upd_same, potok_end _ _ 2147483563 (by decide) (by decide)⟩
abbrev nDraw : List Str := ["_law_pot_here", "_law_many", "_law_digit"]
theorem sc_draw : FnScope nDraw ["_law_pot_here", "_law_many"] (defScope sDraw) := ⟨rfl, rfl, rfl, by decide +kernel, rfl, by decide +kernel, by decide +kernel⟩
theorem at_0 {x y : V} : atI [x, y] (0 : Int) = some x := rfl
theorem at_1 {x y : V} : atI [x, y] (1 : Int) = some y := rfl
theorem ok_draw {f : Addr} {fd : FuncData} (F : Fun K "_law_draw" "_law_draw" sDraw f fd) (B : Bl mg) : FnOk P w K mg base CX0 1 f fd ["_law_pot_here", "_law_many"] spDraw := by
  refine F.ok sc_draw (fun vs H Q E h => ?_) (fun cdv A outer s H vs Q E hr h => ?_)
  · obtain ⟨a, m, rfl, _⟩ := h
    rfl
  · obtain ⟨a, m, rfl, ⟨x, y, ha, hx, hy0, hy1⟩, m0, m1, q⟩ := h
    refine ⟨_, pss_cons (ps_if (pt_cmpR op_gt (pe_ix ix_list (pv 0) pe_int (fun _ _ => rfl)) pe_int (nomark _))
        (pss_cons (ps_asg (pe_callB call_divmod (by rfl) B.divmod PyProof.Rows.boot_divmod (pa_cons (pe_ix ix_list (pv 0) pe_int (fun _ _ => rfl)) (pa_cons (pv 1) pa_nil)))
            (pg_tup rfl (pgs_cons (pg_sub (pv 0) pe_int set_list) (pgs_cons (pg_name (i := 2) sc_draw.nd rfl (Or.inl rfl)) pgs_nil))))
          (pss_one (ps_ret (pv 2)))) pss_nil)
      (pss_cons (ps_asg (pe_op op_mod (pe_callTy call_int1 (by rfl) B.int PyProof.Rows.boot_int (pa_cons (pe_op op_add (pe_op op_mul (pe_ix ix_list (pv 0) pe_int (fun _ _ => rfl)) pe_int) pe_int) pa_nil)) pe_int) (pg_sub (pv 0) pe_int set_list))
      (pss_one (ps_ret (pe_op op_mod (pe_callTy call_int1 (by rfl) B.int PyProof.Rows.boot_int (pa_cons (pe_op op_fdiv (pe_op op_mod (pe_callTy call_int1 (by rfl) B.int PyProof.Rows.boot_int (pa_cons (pe_op op_mul (pe_ix ix_list (pv 0) pe_int (fun _ _ => rfl)) (pe_ix ix_list (pv 0) pe_int (fun _ _ => rfl))) pa_nil)) pe_int) pe_int) pa_nil)) (pv 1))))), ?_⟩
    refine ⟨_, rfl, a, _, _, _, rfl, rfl, sl_of ha, at_0, _, _, rfl, rfl, _, rfl, ?_⟩
    refine ite2 (fun h => ?_) (fun h => ?_)
    · refine ⟨_, rfl, a, _, _, _, rfl, rfl, sl_of ha, at_0, _, rfl, _, _, rfl, ⟨m0, m1⟩, fun t ht => ?_⟩
      have nta : t ≠ a := fun e => by rw [e, ha] at ht; cases ht
      refine ⟨t, _, rfl, st_of upd_same, rfl, _, _, rfl, _, rfl, a, _, _, 0, rfl, rfl, (by rw [upd_ne nta.symm]; exact ha), rfl, _, _, rfl, rfl, ?_⟩
      refine ⟨_, rfl, q _ _ ((smx_of (same_new ht)).trans smx_upd) ⟨_, _, upd_same, ?_, hy0, hy1⟩ (Int.emod_nonneg x (by omega)) (Int.emod_lt_of_pos x m0)⟩
      exact Int.ediv_nonneg hx (by omega)
    · refine ⟨_, rfl, a, _, _, _, rfl, rfl, sl_of ha, at_1, _, _, rfl, rfl, .inl ⟨by omega, by omega⟩, _, _, rfl, rfl, .inl ⟨_, rfl, _, _, rfl, rfl, (show (0 : Int) < 2147483587 by decide), _, rfl, a, _, _, 1, rfl, rfl, ha, rfl, ?_⟩⟩
      have b0 := Int.emod_nonneg (y * 39373 + 547) (show (2147483587 : Int) ≠ 0 by decide)
      have b1 := Int.emod_lt_of_pos (y * 39373 + 547) (show (0 : Int) < 2147483587 by decide)
      refine ⟨_, rfl, a, _, _, _, rfl, rfl, sl_of upd_same, at_1, _, rfl, a, _, _, _, rfl, rfl, sl_of upd_same, at_1, _, _, rfl, rfl, .inl ⟨by omega, by omega⟩, .inl ⟨_, rfl, _, _, rfl, rfl, (show (0 : Int) < 2147483563 by decide), _, _, rfl, rfl, ⟨by decide, by decide⟩, .inl ⟨_, rfl, _, rfl, _, _, rfl, rfl, m0, ?_⟩⟩⟩
      exact q _ _ smx_upd ⟨_, _, upd_same, hx, b0, by omega⟩ (Int.emod_nonneg _ (by omega)) (Int.emod_lt_of_pos _ m0)
end
end Tk

namespace Tk
open PySem PySem.Spec PyProof.Rows L2
/-! ## the law's own walks within a lot -/
def freshU (as : List (Int × Int)) (l fo : List Int) (x : Int) : List Int := (as.filter fun p => decide (p.2 = x) && decide (p.1 ∈ l) && !decide (p.1 ∈ fo)).map (·.1)
theorem mem_freshU {as : List (Int × Int)} {l fo : List Int} {x y : Int} : y ∈ freshU as l fo x ↔ (x, y) ∈ upLaw as l ∧ y ∉ fo := by
  rw [mem_upLaw]
  unfold freshU
  simp only [List.mem_map, List.mem_filter, Bool.and_eq_true, decide_eq_true_eq, Bool.not_eq_true', decide_eq_false_iff_not]
  constructor
  · rintro ⟨⟨a, b⟩, ⟨h1, ⟨h2, h3⟩, h4⟩, rfl⟩
    simp at h2
    subst h2
    exact ⟨⟨h1, h3⟩, h4⟩
  · rintro ⟨⟨h1, h2⟩, h3⟩
    exact ⟨(y, x), ⟨h1, ⟨rfl, h2⟩, h3⟩, rfl⟩
theorem freshU_nd {as : List (Int × Int)} (hn : as.Nodup) (l fo : List Int) (x : Int) : (freshU as l fo x).Nodup := by
  unfold freshU
  show List.Pairwise _ _
  rw [List.pairwise_map]
  have h : (as.filter fun p => decide (p.2 = x) && decide (p.1 ∈ l) && !decide (p.1 ∈ fo)).Nodup := hn.filter _
  refine List.Pairwise.imp_of_mem (fun {a b} ha hb hne e => hne ?_) h
  have h1 := (List.mem_filter.mp ha).2
  have h2 := (List.mem_filter.mp hb).2
  simp at h1 h2
  exact Prod.ext e (h1.1.1.trans h2.1.1.symm)
theorem freshU_len (as : List (Int × Int)) (l fo : List Int) (x : Int) : (freshU as l fo x).length ≤ as.length := by
  unfold freshU
  rw [List.length_map]
  exact List.length_filter_le ..
theorem freshU_take {as : List (Int × Int)} {l fo : List Int} {x : Int} {i : Nat} {p : Int × Int} (h : as[i]? = some p) :
    freshU (as.take (i + 1)) l fo x = if p.2 = x ∧ p.1 ∈ l ∧ p.1 ∉ fo then freshU (as.take i) l fo x ++ [p.1] else freshU (as.take i) l fo x := by
  unfold freshU
  rw [take_at h, List.filter_append, List.map_append]
  by_cases c : p.2 = x ∧ p.1 ∈ l ∧ p.1 ∉ fo
  · rw [if_pos c]
    simp [c.1, c.2.1, c.2.2]
  · rw [if_neg c]
    by_cases c1 : p.2 = x
    · by_cases c2 : p.1 ∈ l
      · have c3 : p.1 ∈ fo := Classical.byContradiction fun z => c ⟨c1, c2, z⟩
        simp [c3]
      · simp [c2]
    · simp [c1]
theorem range_up {n : Nat} {as : List (Int × Int)} {l : List Int} (lot : Lot n l) : ∀ p ∈ upLaw as l, p.2 ∈ things n := fun ⟨x, y⟩ hp => lot.2 y (mem_upLaw.mp hp).2
theorem at_nat {l : List Int} {k : Nat} {x : Int} (h : l[k]? = some x) : atI (l.map V.int) ((k : Nat) : Int) = some (V.int x) := atI_nat (by rw [List.getElem?_map, h]; rfl)
def spLeaders (K : PySem.W.Frag) : Sp := fun vs H Q _ => ∃ (a b : Addr) (n : Nat) (as : List (Int × Int)) (l : List Int) (x : Int), vs = [.ref a, .ref b, .int x] ∧ PL K H a as ∧ n ≤ 60 ∧ Prs n as ∧ SqL K H b (l.map V.int) ∧ Lot n l ∧ x ∈ l ∧
  ∀ (H' : Hp) (r : Addr) (ns : List Int), Same H H' → H r = none → H' r = some (.lst (ns.map V.int)) → (ns = l ↔ IsHead as l x) → Q (.ref r) H'
def spHeads (K : PySem.W.Frag) : Sp := fun vs H Q _ => ∃ (a b : Addr) (n : Nat) (as : List (Int × Int)) (l : List Int), vs = [.ref a, .ref b] ∧ PL K H a as ∧ n ≤ 60 ∧ Prs n as ∧ SqL K H b (l.map V.int) ∧ Lot n l ∧
  ∀ (H' : Hp) (r : Addr), Same H H' → H r = none → H' r = some (.lst ((headsL as l).map V.int)) → Q (.ref r) H'
section
variable {P : Program} {w : World} {K : PySem.W.Frag} {mg : Str → Option Value} {base : Heap}
abbrev nLead : List Str := ["_law_arrows", "_law_lot", "_law_thing", "_law_found", "_law_ahead", "_law_one", "_law_other"]
theorem headsL_take {as : List (Int × Int)} {l : List Int} {i : Nat} {x : Int} (h : l[i]? = some x) : (l.take (i + 1)).filter (headB as l) = if headB as l x = true then (l.take i).filter (headB as l) ++ [x] else (l.take i).filter (headB as l) := by
  rw [take_at h, List.filter_append]
  by_cases c : headB as l x = true
  · rw [if_pos c, List.filter_cons_of_pos c]; rfl
  · rw [if_neg c, List.filter_cons_of_neg c]; simp
end
end Tk

namespace Tk
open PySem PySem.Spec PyProof.Rows L2
def one1 (l : List Int) (p : Int × Int) : List (Int × Int) := if p.2 ∈ l then [p] else []
def dnT (l : List Int) (ts : List (Int × Int)) : List (Int × Int) := ts.flatMap fun p => one1 l p ++ one1 l (swp p)
theorem dnT_take {l : List Int} {ts : List (Int × Int)} {i : Nat} {p : Int × Int} (h : ts[i]? = some p) : dnT l (ts.take (i + 1)) = dnT l (ts.take i) ++ one1 l p ++ one1 l (swp p) := by
  unfold dnT
  rw [take_at h, List.flatMap_append]
  simp
theorem dnT_full {l : List Int} {ts : List (Int × Int)} {p : Int × Int} (h : p ∈ tieLaw ts l) : p ∈ dnT l ts := by
  obtain ⟨x, y⟩ := p
  obtain ⟨h1, h2⟩ := mem_tieLaw.mp h
  unfold dnT
  rw [List.mem_flatMap]
  rcases h1 with h1 | h1
  · refine ⟨(x, y), h1, List.mem_append_left _ ?_⟩
    unfold one1
    rw [if_pos h2]; simp
  · refine ⟨(y, x), h1, List.mem_append_right _ ?_⟩
    unfold one1
    rw [if_pos (show (swp (y, x)).2 ∈ l from h2)]
    simp [swp]
theorem hinv_len {n : Nat} {ps : List (Int × Int)} {st x : Int} {fo0 fo : List Int} {dn : List (Int × Int)} (h : HInv n ps st x fo0 fo dn) : fo.length ≤ n := by
  have := nodup_le h.nd (m := things n) (fun x hx => h.th x hx)
  rw [things_len] at this
  exact this
/-- one of the two looks at a tie -/
theorem half {K : PySem.W.Frag} {D : Ends} {σ : L2.St} {G : Hp} {i k : Nat} {T : String} {b pf : Addr} {n ka : Nat} {ps dn : List (Int × Int)} {st x u v : Int} {fo0 fo1 l : List Int}
    (h1 : σ[1]? = some (some (.ref b))) (h3 : σ[3]? = some (some (.ref pf))) (h4 : σ[4]? = some (some (.int (ka : Int)))) (hi : σ[i]? = some (some (.int u))) (hk : σ[k]? = some (some (.int v)))
    (hl : SqL K G b (l.map V.int)) (hf : G pf = some (.lst (fo1.map V.int))) (e0 : fo0[ka]? = some x) (inv : HInv n ps st x fo0 fo1 dn) (hx : Reach ps st x) (hn : n ≤ 60)
    (hp : v ∈ l → (u, v) ∈ ps) (lv : ∀ y ∈ l, y ∈ things n) (hT : T = "list")
    (q : ∀ (G' : Hp) (fo2 : List Int), (G' = G ∨ ∃ o, G' = upd G pf o) → G' pf = some (.lst (fo2.map V.int)) → HInv n ps st x fo0 fo2 (dn ++ one1 l (u, v)) → D.nx σ G') :
    tIfS (tAnd (tTest (tOp rEq (tVar i) (tOp (rIxL K) (tVar 3) (tVar 4)))) (tAnd (tTest (tOp (rIn K false) (tVar k) (tVar 1))) (tTest (tOp (rIn K true) (tVar k) (tVar 3)))))
      (tDrop (tBM K T rAppend (tVar 3) (tCons (tVar k) tNil))) tNext D σ G := by
  subst hT
  have at1 : fo1[ka]? = some x := pre_at inv.pre e0
  have few := hinv_len inv
  refine ⟨_, hi, _, h3, _, h4, pf, _, _, _, rfl, rfl, sl_of hf, at_nat at1, rfl, decide (u = x), dec_bl, ?_⟩
  by_cases c1 : u = x
  · rw [decide_eq_true c1]
    refine ⟨_, hk, _, h1, b, _, rfl, .inl hl, rfl, flat_ints l, _, in_bl, ?_⟩
    by_cases c2 : v ∈ l
    · rw [decide_eq_true c2]
      have eo : one1 l (u, v) = [(u, v)] := if_pos c2
      rw [eo] at q
      refine ⟨_, hk, _, h3, pf, _, rfl, .inl (sl_of hf), rfl, flat_ints fo1, _, notin_bl, ?_⟩
      by_cases c3 : v ∈ fo1
      · rw [decide_eq_true c3]
        exact iteF (q G fo1 (.inl rfl) hf (hinv_no inv fun _ => c3))
      · rw [decide_eq_false c3]
        refine ⟨_, h3, .inl ⟨rfl, _, sl_of hf⟩, _, hk, pf, _, _, rfl, rfl, hf, szlt (by rw [List.length_map]; omega), ?_⟩
        refine q _ (fo1 ++ [v]) (.inr ⟨_, rfl⟩) (by rw [upd_same, List.map_append]; rfl) ?_
        have := hinv_put inv hx (y := v) (by rw [← c1]; exact hp c2) (lv v c2) c3
        rw [← c1] at this
        rw [← c1]
        exact this
    · rw [decide_eq_false c2]
      have eo : one1 l (u, v) = [] := if_neg c2
      rw [eo, List.append_nil] at q
      exact iteF (q G fo1 (.inl rfl) hf inv)
  · rw [decide_eq_false c1]
    refine iteF (q G fo1 (.inl rfl) hf ?_)
    unfold one1
    by_cases c2 : v ∈ l
    · rw [if_pos c2]
      exact hinv_no inv fun e => absurd e c1
    · rw [if_neg c2, List.append_nil]
      exact inv
theorem range_tie {n : Nat} {ts : List (Int × Int)} {l : List Int} (lot : Lot n l) : ∀ p ∈ tieLaw ts l, p.2 ∈ things n := fun ⟨x, y⟩ hp => lot.2 y (mem_tieLaw.mp hp).2
def spHungX (K : PySem.W.Frag) : Sp := fun vs H Q _ => ∃ (a b : Addr) (n : Nat) (ts : List (Int × Int)) (l : List Int) (x : Int), vs = [.ref a, .ref b, .int x] ∧ PL K H a ts ∧ n ≤ 60 ∧ SqL K H b (l.map V.int) ∧ Lot n l ∧ x ∈ l ∧
  ∀ (H' : Hp) (r : Addr) (ns : List Int), Same H H' → H r = none → H' r = some (.lst (ns.map V.int)) → (ns = l ↔ ∀ y ∈ l, Reach (tieIn ts l) x y) → (∀ y, y ∈ ns ↔ Reach (tieIn ts l) x y) → Q (.ref r) H'
def spHung (K : PySem.W.Frag) : Sp := fun vs H Q _ => ∃ (a b : Addr) (n : Nat) (ts : List (Int × Int)) (l : List Int) (x : Int), vs = [.ref a, .ref b, .int x] ∧ PL K H a ts ∧ n ≤ 60 ∧ SqL K H b (l.map V.int) ∧ Lot n l ∧ x ∈ l ∧
  ∀ (H' : Hp) (r : Addr) (ns : List Int), Same H H' → H r = none → H' r = some (.lst (ns.map V.int)) → (ns = l ↔ ∀ y ∈ l, Reach (tieIn ts l) x y) → Q (.ref r) H'
def spLHangs (K : PySem.W.Frag) : Sp := fun vs H Q _ => ∃ (a b : Addr) (n : Nat) (ts : List (Int × Int)) (l : List Int), vs = [.ref a, .ref b] ∧ PL K H a ts ∧ n ≤ 60 ∧ SqL K H b (l.map V.int) ∧ Lot n l ∧
  ∀ (H' : Hp), Same H H' → Q (.bl (hangB ts l)) H'
section
variable {P : Program} {w : World} {K : PySem.W.Frag} {mg : Str → Option Value} {base : Heap}
abbrev nHung : List Str := ["_law_ties", "_law_lot", "_law_thing", "_law_found", "_law_ahead", "_law_one", "_law_other"]
theorem eqv_lnil (l : List Int) : PyData.eqv (.list (l.map .int)) (.list []) = decide (l = []) := by
  have := @eqv_lints l []
  exact this
end
end Tk

namespace Tk
open PySem PySem.Spec PyProof.Rows L2
/-! ## sorted, of lists of ints -/
section
open PySem.W
variable {X : Cx}
def rSortedR (K : PySem.W.Frag) : List V → Hp → VK → Prop := fun vs H Q => ∃ (a : Addr) (xs : List V) (os : List (List Int)), vs = [V.ref a] ∧ SqL K H a xs ∧ LsAt H xs os ∧
  ∀ (ys : List V) (os' : List (List Int)) (p : Addr), os'.Perm os → os'.Pairwise (· ≤ ·) → LsAt H ys os' → (∀ y ∈ ys, y ∈ xs) → H p = none → Q (.ref p) (upd H p (.lst ys))
theorem ls_zip {G : Hp} : ∀ {xs : List V} {os : List (List Int)}, LsAt G xs os → xs = (xs.zip os).map Prod.fst ∧ os = (xs.zip os).map Prod.snd ∧ ∀ b ∈ xs.zip os, ∃ r : Addr, b.1 = .ref r ∧ G r = some (.lst (b.2.map V.int))
  | [], [], _ => ⟨rfl, rfl, fun _ h => nomatch h⟩
  | x :: xs, o :: os, ⟨h1, h3⟩ => by
    obtain ⟨a, b, c⟩ := ls_zip h3
    refine ⟨by simp only [List.zip_cons_cons, List.map_cons]; rw [← a], by simp only [List.zip_cons_cons, List.map_cons]; rw [← b], fun z hz => ?_⟩
    simp only [List.zip_cons_cons] at hz
    rcases List.mem_cons.mp hz with e | e
    · rw [e]; exact h1
    · exact c z e
  | [], _ :: _, h => h.elim
  | _ :: _, [], h => h.elim
theorem ls_of {G : Hp} : ∀ {bs : List (V × List Int)}, (∀ b ∈ bs, ∃ r : Addr, b.1 = .ref r ∧ G r = some (.lst (b.2.map V.int))) → LsAt G (bs.map Prod.fst) (bs.map Prod.snd)
  | [], _ => trivial
  | b :: bs, h => ⟨h b (List.mem_cons_self ..), ls_of fun c hc => h c (List.mem_cons_of_mem _ hc)⟩
theorem each_vals : ∀ {bs : List (V × List Int)} {us : List Value}, Vals (bs.map Prod.fst) us → EachIs (fun (v : Value) (b : V × List Int) => RelV b.1 v) us bs
  | [], _, h => by cases h; exact .nil
  | b :: bs, _, h => by
    cases h with
    | cons h1 h2 => exact .cons h1 (each_vals h2)
theorem vals_each : ∀ {bs : List (V × List Int)} {us : List Value}, EachIs (fun (v : Value) (b : V × List Int) => RelV b.1 v) us bs → Vals (bs.map Prod.fst) us
  | _, _, .nil => .nil
  | _, _, .cons h1 h2 => .cons h1 (vals_each h2)
theorem cr_sortedR (hu : X.A.units + 64 < cLine) : CallR X (.builtin "sorted") (rSortedR X.K) := by
  intro pins s σ H vs us Q I r h
  obtain ⟨a, xs, os, rfl, hs, ls, q⟩ := h
  obtain ⟨its, rv, hl, hz⟩ := I.list hs
  rw [Vals.ref1 r]
  obtain ⟨e1, e2, e3⟩ := ls_zip ls
  generalize xs.zip os = bs at e1 e2 e3
  subst e1
  subst e2
  have each := each_vals rv
  have reads : EachIs (fun (v : Value) (b : V × List Int) => ∃ as, Reads s.heap v (PyData.list (b.2.map .int)) as) its bs := by
    clear q hs ls hl hz r
    induction each with
    | nil => exact .nil
    | @cons v b vs' bs' h1 h2 ih =>
      refine .cons ?_ (ih (fun c hc => e3 c (List.mem_cons_of_mem _ hc)) (by cases rv with | cons _ r2 => exact r2))
      obtain ⟨r0, er, hr⟩ := e3 b (List.mem_cons_self ..)
      rw [er] at h1
      exact Dp.reads I _ (.ref r0) v (.lst (sl_of hr) (dps_ints b.2)) h1
  refine sorted_data (enc := fun b : V × List Int => PyData.list (b.2.map .int)) (R := fun (v : Value) (b : V × List Int) => RelV b.1 v) hl.isList each reads (AllAlike.of fun b b' => by simp [alike, alike_ints]) (Sortable.others fun b => ⟨by simp, by simp⟩) (by rw [List.length_map] at hz; exact hz) (fun b hb => ?_) fun out hlen ho => ?_
  · have : PyData.depth (PyData.list (b.2.map .int)) ≤ 1 := by rw [PyData.depth, depth_ints]; exact Nat.le_refl _
    omega
  · rw [dataLe_rows (fun b : V × List Int => b.2)] at ho
    obtain ⟨ep, he'⟩ := PyProof.Rows.sortedAll_at s.heap its out.toArray
    have vo := vals_each ho
    generalize hbs : bs.mergeSort (fun p q => decide (p.2 ≤ q.2)) = bs' at ho vo
    have pm : bs'.Perm bs := by rw [← hbs]; exact List.mergeSort_perm ..
    have srt : bs'.Pairwise (fun p q => decide (p.2 ≤ q.2) = true) := by
      rw [← hbs]
      refine List.pairwise_mergeSort (fun a b c h1 h2 => ?_) (fun a b => ?_) bs
      · simp only [decide_eq_true_eq] at h1 h2 ⊢
        exact List.le_trans h1 h2
      · simp only [Bool.or_eq_true, decide_eq_true_eq]
        exact List.le_total _ _
    refine ⟨.ref _, upd H (s.heap.objs.size + 1) (.lst (bs'.map Prod.fst)), I.laid (t' := s.toks) (fun _ _ => PyProof.Rows.sortedAll_old) (Nat.le_succ _) ⟨by rw [List.length_map, pm.length_eq]; rw [List.length_map] at hz; exact hz, out, ep, vo, he'⟩, rfl, ?_⟩
    refine q _ (bs'.map Prod.snd) _ (pm.map _) ?_ (ls_of fun b hb => e3 b (pm.mem_iff.mp hb)) (fun y hy => ?_) (I.hok.fresh (Nat.le_succ _))
    · rw [List.pairwise_map]
      exact srt.imp fun h => of_decide_eq_true h
    · obtain ⟨b, hb, rfl⟩ := List.mem_map.mp hy
      exact List.mem_map.mpr ⟨b, pm.mem_iff.mp hb, rfl⟩
end
theorem perm_erase {α : Type} : ∀ {l : List α} {i : Nat} (h : i < l.length), ([l[i]] ++ l.eraseIdx i).Perm l
  | [], _, h => by simp at h
  | x :: l, 0, _ => by simp
  | x :: l, i + 1, h => by
    have ih := perm_erase (l := l) (i := i) (by simpa using h)
    simp only [List.getElem_cons_succ, List.eraseIdx_cons_succ]
    refine List.Perm.trans (List.Perm.swap x _ _) ?_
    exact List.Perm.cons x ih

/-! ## all lots, a drawn order -/
def FreshA (H : Hp) (D : Addr) (xs : List V) : Prop := ∀ x ∈ xs, ∃ r : Addr, x = .ref r ∧ H r = none ∧ r ≠ D
def spLots : Sp := fun vs H Q _ => ∃ n : Nat, vs = [.int n] ∧ n ≤ 5 ∧
  ∀ (H' : Hp) (r : Addr) (xs : List V) (os : List (List Int)), Same H H' → H r = none → H' r = some (.lst xs) → LsAt H' xs os → (∀ x ∈ xs, ∃ q : Addr, x = .ref q ∧ H q = none) → os.Perm (allLots n) → os.Pairwise (· ≤ ·) → Q (.ref r) H'
def spOrder : Sp := fun vs H Q _ => ∃ (a : Addr) (n : Nat), vs = [.ref a, .int n] ∧ Pot H a ∧ n ≤ 60 ∧
  ∀ (H' : Hp) (p : Addr) (o : List Int), SmX a H H' → Pot H' a → H p = none → p ≠ a → H' p = some (.lst (o.map V.int)) → o.Perm (things n) → Q (.ref p) H'
theorem ints_of {ys : List V} {l : List Int} (h : ys.Perm (l.map V.int)) : ∃ o : List Int, ys = o.map V.int ∧ o.Perm l := by
  refine ⟨ys.map (fun v => match v with | .int i => i | _ => 0), ?_, ?_⟩
  · rw [List.map_map]
    refine (List.map_id ys).symm.trans (List.map_congr_left fun v hv => ?_)
    obtain ⟨i, _, rfl⟩ := List.mem_map.mp (h.mem_iff.mp hv)
    rfl
  · have := h.map (fun v => match v with | V.int i => i | _ => 0)
    rw [List.map_map] at this
    have e : ((fun v => match v with | V.int i => i | _ => 0) ∘ V.int) = (id : Int → Int) := by funext z; rfl
    rw [e, List.map_id] at this
    exact this
theorem pow5 {k : Nat} (h : k ≤ 5) : 2 ^ k ≤ 32 := Nat.le_trans (Nat.pow_le_pow_right (by decide) h) (by decide)
section
variable {P : Program} {w : World} {K : PySem.W.Frag} {mg : Str → Option Value} {base : Heap}
abbrev nLots : List Str := ["_law_many", "_law_found", "_law_thing", "_law_lot"]
abbrev nOrder : List Str := ["_law_pot_here", "_law_many", "_law_left", "_law_found", "_law_turn"]
end
end Tk

namespace Tk
/-- places told so far: before (i, j) -/
structure Sn (n i j : Nat) (ix : List (Nat × Nat)) : Prop where
  nd : ix.Nodup
  bd : ∀ q ∈ ix, q.1 < q.2 ∧ q.2 < n ∧ (q.1 < i ∨ (q.1 = i ∧ q.2 < j))
theorem sn_0 (n i j : Nat) : Sn n i j [] := ⟨List.nodup_nil, (fun _ h => nomatch h)⟩
theorem sn_up {n i j i' j' : Nat} {ix : List (Nat × Nat)} (h : Sn n i j ix) (hh : i < i' ∨ (i = i' ∧ j ≤ j')) : Sn n i' j' ix :=
  ⟨h.nd, fun q hq => by
    obtain ⟨a, b, c⟩ := h.bd q hq
    refine ⟨a, b, ?_⟩
    rcases c with c | ⟨c1, c2⟩ <;> rcases hh with d | ⟨d1, d2⟩
    · left; omega
    · left; omega
    · left; omega
    · right; omega⟩
theorem sn_end {n i j : Nat} {ix : List (Nat × Nat)} (h : Sn n i j ix) (hj : n ≤ j) : Sn n (i + 1) 0 ix :=
  ⟨h.nd, fun q hq => by
    obtain ⟨a, b, c⟩ := h.bd q hq
    exact ⟨a, b, by left; omega⟩⟩
theorem sn_put {n i j : Nat} {ix : List (Nat × Nat)} (h : Sn n i j ix) (hij : i < j) (hj : j < n) : Sn n i (j + 1) (ix ++ [(i, j)]) := by
  refine ⟨?_, ?_⟩
  · rw [List.nodup_append]
    refine ⟨h.nd, by simp, ?_⟩
    intro a ha b hb e
    simp at hb
    subst hb
    subst e
    have := (h.bd _ ha).2.2
    simp at this
  · intro q hq
    rcases List.mem_append.mp hq with c | c
    · obtain ⟨a, b, d⟩ := h.bd q c
      exact ⟨a, b, by omega⟩
    · simp at c
      subst c
      exact ⟨hij, hj, by right; exact ⟨rfl, by simp⟩⟩
theorem sn_few {n i j : Nat} {ix : List (Nat × Nat)} (h : Sn n i j ix) (hn : n ≤ 6) : ix.length ≤ 36 := by
  have sub : ∀ q ∈ ix, q ∈ (List.range 6).flatMap fun a => (List.range 6).map fun b => (a, b) := fun q hq => by
    obtain ⟨a, b, _⟩ := h.bd q hq
    simp only [List.mem_flatMap, List.mem_map, List.mem_range]
    exact ⟨q.1, by omega, q.2, by omega, rfl⟩
  have := nodup_le h.nd sub
  have e : ((List.range 6).flatMap fun a => (List.range 6).map fun b => (a, b)).length = 36 := by decide
  omega
/-- the item at a place -/
def it (o : List Int) (i : Nat) : Int := o.getD i 0
def prA (o : List Int) (q : Nat × Nat) : Int × Int := (it o q.1, it o q.2)
def prT (o : List Int) (q : Nat × Nat) : Int × Int := (if it o q.2 < it o q.1 then it o q.2 else it o q.1, if it o q.2 > it o q.1 then it o q.2 else it o q.1)
theorem it_some {o : List Int} {i : Nat} (h : i < o.length) : o[i]? = some (it o i) := by
  unfold it
  rw [List.getD_eq_getElem?_getD, List.getElem?_eq_getElem h]; rfl
theorem it_mem {o : List Int} {i : Nat} (h : i < o.length) : it o i ∈ o := List.mem_of_getElem? (it_some h)
theorem it_inj {o : List Int} (hn : o.Nodup) {i j : Nat} (hi : i < o.length) (hj : j < o.length) (e : it o i = it o j) : i = j := by
  have h1 := it_some hi
  have h2 := it_some hj
  rw [e] at h1
  obtain ⟨_, a⟩ := List.getElem?_eq_some_iff.mp h1
  obtain ⟨_, b⟩ := List.getElem?_eq_some_iff.mp h2
  exact (List.getElem_inj hn).mp (a.trans b.symm)
def PrsN (n : Nat) (ps : List (Int × Int)) : Prop := ps.Nodup ∧ ps.length < 60 ∧ ∀ p ∈ ps, 0 ≤ p.1 ∧ p.1 < (n : Int) ∧ 0 ≤ p.2 ∧ p.2 < (n : Int) ∧ p.1 ≠ p.2
section
variable {n i j : Nat} {o : List Int} {ix : List (Nat × Nat)}
theorem prs_a (ho : o.Perm (things n)) (h : Sn n i j ix) (hn : n ≤ 6) : PrsN n (ix.map (prA o)) := by
  have nd : o.Nodup := ho.nodup_iff.mpr (things_nodup n)
  have ln : o.length = n := by rw [ho.length_eq, things_len]
  refine ⟨?_, by rw [List.length_map]; have := sn_few h hn; omega, ?_⟩
  · show List.Pairwise _ _
    rw [List.pairwise_map]
    refine List.Pairwise.imp_of_mem (fun {a b} ha hb hne e => hne ?_) h.nd
    obtain ⟨a1, a2, _⟩ := h.bd a ha
    obtain ⟨b1, b2, _⟩ := h.bd b hb
    have e1 := congrArg Prod.fst e
    have e2 := congrArg Prod.snd e
    exact Prod.ext (it_inj nd (by omega) (by omega) e1) (it_inj nd (by omega) (by omega) e2)
  · intro p hp
    obtain ⟨q, hq, rfl⟩ := List.mem_map.mp hp
    obtain ⟨q1, q2, _⟩ := h.bd q hq
    have m1 := mem_things.mp (ho.mem_iff.mp (it_mem (o := o) (i := q.1) (by omega)))
    have m2 := mem_things.mp (ho.mem_iff.mp (it_mem (o := o) (i := q.2) (by omega)))
    refine ⟨m1.1, m1.2, m2.1, m2.2, fun e => ?_⟩
    have := it_inj nd (by omega) (by omega) e
    omega
theorem acy_a (ho : o.Perm (things n)) (h : Sn n i j ix) : Acy (ix.map (prA o)) := by
  have nd : o.Nodup := ho.nodup_iff.mpr (things_nodup n)
  have ln : o.length = n := by rw [ho.length_eq, things_len]
  refine ⟨fun x => o.idxOf x, fun p hp => ?_⟩
  obtain ⟨q, hq, rfl⟩ := List.mem_map.mp hp
  obtain ⟨q1, q2, _⟩ := h.bd q hq
  have key : ∀ k, k < o.length → o.idxOf (it o k) = k := fun k hk => by
    have h1 : o.idxOf (it o k) < o.length := List.idxOf_lt_length_of_mem (it_mem hk)
    have h2 := List.getElem_idxOf h1
    have h3 := it_some hk
    obtain ⟨_, h4⟩ := List.getElem?_eq_some_iff.mp h3
    exact (List.getElem_inj nd).mp (h2.trans h4.symm)
  show o.idxOf (it o q.1) < o.idxOf (it o q.2)
  rw [key _ (by omega), key _ (by omega)]
  exact q1
theorem prs_t (ho : o.Perm (things n)) (h : Sn n i j ix) (hn : n ≤ 6) : PrsN n (ix.map (prT o)) ∧ ∀ p ∈ ix.map (prT o), p.1 < p.2 := by
  have nd : o.Nodup := ho.nodup_iff.mpr (things_nodup n)
  have ln : o.length = n := by rw [ho.length_eq, things_len]
  have lt : ∀ p ∈ ix.map (prT o), p.1 < p.2 := by
    intro p hp
    obtain ⟨q, hq, rfl⟩ := List.mem_map.mp hp
    obtain ⟨q1, q2, _⟩ := h.bd q hq
    have ne : it o q.1 ≠ it o q.2 := fun e => by
      have := it_inj nd (by omega) (by omega) e
      omega
    unfold prT
    split <;> split <;> simp <;> omega
  refine ⟨⟨?_, by rw [List.length_map]; have := sn_few h hn; omega, ?_⟩, lt⟩
  · show List.Pairwise _ _
    rw [List.pairwise_map]
    refine List.Pairwise.imp_of_mem (fun {a b} ha hb hne e => hne ?_) h.nd
    obtain ⟨a1, a2, _⟩ := h.bd a ha
    obtain ⟨b1, b2, _⟩ := h.bd b hb
    have e1 : (prT o a).1 = (prT o b).1 := congrArg Prod.fst e
    have e2 : (prT o a).2 = (prT o b).2 := congrArg Prod.snd e
    have both : (it o a.1 = it o b.1 ∧ it o a.2 = it o b.2) ∨ (it o a.1 = it o b.2 ∧ it o a.2 = it o b.1) := by
      simp only [prT] at e1 e2
      split at e1 <;> split at e1 <;> split at e2 <;> split at e2 <;> omega
    rcases both with ⟨c, d⟩ | ⟨c, d⟩
    · exact Prod.ext (it_inj nd (by omega) (by omega) c) (it_inj nd (by omega) (by omega) d)
    · have c' := it_inj nd (by omega) (by omega) c
      have d' := it_inj nd (by omega) (by omega) d
      omega
  · intro p hp
    have l := lt p hp
    obtain ⟨q, hq, rfl⟩ := List.mem_map.mp hp
    obtain ⟨q1, q2, _⟩ := h.bd q hq
    have m1 := mem_things.mp (ho.mem_iff.mp (it_mem (o := o) (i := q.1) (by omega)))
    have m2 := mem_things.mp (ho.mem_iff.mp (it_mem (o := o) (i := q.2) (by omega)))
    have r : 0 ≤ (prT o q).1 ∧ (prT o q).1 < (n : Int) ∧ 0 ≤ (prT o q).2 ∧ (prT o q).2 < (n : Int) := by
      simp only [prT]
      split <;> split <;> omega
    exact ⟨r.1, r.2.1, r.2.2.1, r.2.2.2, by omega⟩
end
end Tk

namespace Tk
open PySem PySem.Spec PyProof.Rows L2
theorem ta_x {a : Addr} {G G' : Hp} {acc : List V} {ps : List (Int × Int)} {k : Nat} (h : TA G acc ps k) (pa : Pot G a) (e : SmX a G G') : TA G' acc ps k :=
  ⟨h.1, fun i x hx => by
    obtain ⟨t, z, h1, h2, h3⟩ := h.2 i x hx
    obtain ⟨u, v, g, _⟩ := pa
    exact ⟨t, z, h1, h2, e _ _ (fun q => by rw [q, g] at h3; cases h3) h3⟩⟩
theorem ta_upd {G : Hp} {acc o : List V} {O : HO} {ps : List (Int × Int)} {k : Nat} {D : Addr} (h : TA G acc ps k) (hD : G D = some (.lst o)) : TA (upd G D O) acc ps k :=
  ⟨h.1, fun i x hx => by
    obtain ⟨t, z, h1, h2, h3⟩ := h.2 i x hx
    exact ⟨t, z, h1, h2, by rw [upd_ne (fun q => by rw [q, hD] at h3; cases h3)]; exact h3⟩⟩
theorem ta_more {G : Hp} {acc : List V} {ps qs : List (Int × Int)} {k : Nat} (h : TA G acc ps k) : TA G acc (ps ++ qs) k :=
  ⟨h.1, fun i x hx => by
    obtain ⟨t, z, h1, h2, h3⟩ := h.2 i x hx
    exact ⟨t, z, h1, by rw [List.getElem?_append_left (lt_of_at h2)]; exact h2, h3⟩⟩
/-- a list at D of new tuples for these pairs -/
def LT (G : Hp) (D : Addr) (ps : List (Int × Int)) : Prop := ∃ acc, G D = some (.lst acc) ∧ TA G acc ps ps.length
theorem lt_put {G : Hp} {D v : Addr} {ps : List (Int × Int)} {acc : List V} {x y : Int} (hD : G D = some (.lst acc)) (h : TA G acc ps ps.length) (hv : G v = none) :
    LT (upd (upd G v (.tup [.int x, .int y])) D (.lst (acc ++ [.ref v]))) D (ps ++ [(x, y)]) := by
  refine ⟨acc ++ [.ref v], upd_same, ?_⟩
  have := ta_put (z := (x, y)) (ta_more (qs := [(x, y)]) h) hD hv (by simp)
  rw [List.length_append]
  exact this
theorem lt_other {G : Hp} {D E v : Addr} {ps : List (Int × Int)} {O O' : HO} {e : List V} (h : LT G D ps) (ne : D ≠ E) (hE : G E = some (.lst e)) (hv : G v = none) : LT (upd (upd G v O) E O') D ps := by
  obtain ⟨acc, h1, h2⟩ := h
  have nD : D ≠ v := fun q => by rw [q, hv] at h1; cases h1
  have nE : E ≠ v := fun q => by rw [q, hv] at hE; cases hE
  refine ⟨acc, by rw [upd_ne ne, upd_ne nD]; exact h1, ?_⟩
  refine ta_upd (o := e) ?_ (by rw [upd_ne nE]; exact hE)
  exact ta_s h2 (same_new hv)
theorem lt_x {a : Addr} {G G' : Hp} {D : Addr} {ps : List (Int × Int)} (h : LT G D ps) (n : D ≠ a) (pa : Pot G a) (e : SmX a G G') : LT G' D ps :=
  let ⟨acc, h1, h2⟩ := h; ⟨acc, e _ _ n h1, ta_x h2 pa e⟩
theorem pot_s {G G' : Hp} {a : Addr} (h : Pot G a) (e : Same G G') : Pot G' a := let ⟨x, y, g, o⟩ := h; ⟨x, y, e _ _ g, o⟩
theorem plan_x {K : PySem.W.Frag} {C a : Addr} {H H' : Hp} {p : Addr} {n : Nat} {as ts : List (Int × Int)} (h : PlanAt K C H p n as ts) (pa : Pot H a) (e : SmX a H H') : PlanAt K C H' p n as ts := by
  obtain ⟨⟨dx, l, m, h1, h2, h3⟩, n6, h4, h5, h6, h7, h8, h9⟩ := h
  obtain ⟨x, y, ha, _⟩ := id pa
  have key : ∀ {l : Addr} {ps : List (Int × Int)}, PL K H l ps → PL K H' l ps := by
    rintro l ps ⟨xs, g1, g2⟩
    have g1' : SqL K H' l xs := by
      rcases g1 with (g | ⟨o, g⟩) | g
      · by_cases c : l = a
        · subst c
          rw [ha] at g
          cases g
          cases ps with
          | nil => cases g2
          | cons z zs =>
            cases g2 with
            | cons k1 _ =>
              obtain ⟨t, q, _⟩ := dP_inv k1
              cases q
        · exact .inl (.inl (e _ _ c g))
      · exact .inl (.inr ⟨o, e _ _ (fun c => by rw [c, ha] at g; cases g) g⟩)
      · exact .inr g
    refine ⟨xs, g1', ?_⟩
    clear g1 g1'
    induction ps generalizing xs with
    | nil => cases g2; exact .nil
    | cons z zs ih =>
      cases g2 with
      | cons k1 k2 =>
        obtain ⟨t, rfl, ht⟩ := dP_inv k1
        exact .cons (dP_mk (smx_t pa e ht)) (ih _ k2)
  exact ⟨⟨dx, l, m, e _ _ (fun c => by rw [c, ha] at h1; cases h1) h1, key h2, key h3⟩, n6, h4, h5, h6, h7, h8, h9⟩
theorem dps_x {K : PySem.W.Frag} {a : Addr} {G G' : Hp} {xs : List V} {ps : List (Int × Int)} (h : DpAll K G xs (ps.map dP)) (pg : Pot G a) (e : SmX a G G') : DpAll K G' xs (ps.map dP) := by
  induction ps generalizing xs with
  | nil => cases h; exact .nil
  | cons z zs ih =>
    cases h with
    | cons h1 h2 =>
      obtain ⟨t, rfl, ht⟩ := dP_inv h1
      exact .cons (dP_mk (smx_t pg e ht)) (ih h2)
/-- where the drawing of a plan stands -/
structure LP (a po pa pt : Addr) (H0 H1 : Hp) (o : List Int) (ixA ixT : List (Nat × Nat)) : Prop where
  sx : SmX a H0 H1
  pot : Pot H1 a
  ho : H1 po = some (.lst (o.map V.int))
  hA : LT H1 pa (ixA.map (prA o))
  hT : LT H1 pt (ixT.map (prT o))
structure Dist (a po pa pt : Addr) (H0 : Hp) : Prop where
  n1 : po ≠ a
  n2 : pa ≠ a
  n3 : pt ≠ a
  n4 : po ≠ pa
  n5 : po ≠ pt
  n6 : pa ≠ pt
  fA : H0 pa = none
  fT : H0 pt = none
section
variable {a po pa pt : Addr} {H0 H1 H2 : Hp} {o : List Int} {ixA ixT : List (Nat × Nat)}
theorem lp_draw (d : Dist a po pa pt H0) (h : LP a po pa pt H0 H1 o ixA ixT) (e : SmX a H1 H2) (p : Pot H2 a) : LP a po pa pt H0 H2 o ixA ixT :=
  ⟨h.sx.trans e, p, e _ _ d.n1 h.ho, lt_x h.hA d.n2 h.pot e, lt_x h.hT d.n3 h.pot e⟩
theorem lp_arr (d : Dist a po pa pt H0) (h : LP a po pa pt H0 H1 o ixA ixT) {acc : List V} (hD : H1 pa = some (.lst acc)) {v : Addr} (hv : H1 v = none) (q : Nat × Nat) :
    LP a po pa pt H0 (upd (upd H1 v (.tup [.int (it o q.1), .int (it o q.2)])) pa (.lst (acc ++ [.ref v]))) o (ixA ++ [q]) ixT := by
  obtain ⟨acc', e1, e2⟩ := h.hA
  rw [hD] at e1
  cases e1
  obtain ⟨x, y, g, gg⟩ := h.pot
  have nva : a ≠ v := fun z => by rw [z, hv] at g; cases g
  have nvo : po ≠ v := fun z => by have := h.ho; rw [z, hv] at this; cases this
  refine ⟨?_, ⟨x, y, by rw [upd_ne d.n2.symm, upd_ne nva]; exact g, gg⟩, by rw [upd_ne d.n4, upd_ne nvo]; exact h.ho, ?_, ?_⟩
  · exact smx_mut (h.sx.trans (smx_of (same_new hv))) d.fA
  · rw [List.map_append]
    exact lt_put hD e2 hv
  · exact lt_other h.hT d.n6.symm hD hv
theorem lp_tie (d : Dist a po pa pt H0) (h : LP a po pa pt H0 H1 o ixA ixT) {acc : List V} (hD : H1 pt = some (.lst acc)) {v : Addr} (hv : H1 v = none) (q : Nat × Nat) :
    LP a po pa pt H0 (upd (upd H1 v (.tup [.int (prT o q).1, .int (prT o q).2])) pt (.lst (acc ++ [.ref v]))) o ixA (ixT ++ [q]) := by
  obtain ⟨acc', e1, e2⟩ := h.hT
  rw [hD] at e1
  cases e1
  obtain ⟨x, y, g, gg⟩ := h.pot
  have nva : a ≠ v := fun z => by rw [z, hv] at g; cases g
  have nvo : po ≠ v := fun z => by have := h.ho; rw [z, hv] at this; cases this
  refine ⟨?_, ⟨x, y, by rw [upd_ne d.n3.symm, upd_ne nva]; exact g, gg⟩, by rw [upd_ne d.n5, upd_ne nvo]; exact h.ho, ?_, ?_⟩
  · exact smx_mut (h.sx.trans (smx_of (same_new hv))) d.fT
  · exact lt_other h.hA d.n6 hD hv
  · rw [List.map_append]
    exact lt_put hD e2 hv
end

theorem at_it {o : List Int} {i : Nat} (h : i < o.length) : atI (o.map V.int) (i : Int) = some (V.int (it o i)) := atI_nat (by rw [List.getElem?_map, it_some h]; rfl)
theorem dps_rev {K : PySem.W.Frag} {H : Hp} : ∀ {xs : List V} {ps : List (Int × Int)}, DpAll K H xs (ps.map dP) → DpAll K H xs.reverse (ps.reverse.map dP)
  | _, [], h => by cases h; exact .nil
  | _, p :: ps, h => by
    cases h with
    | cons h1 h2 =>
      rw [List.reverse_cons, List.reverse_cons, List.map_append]
      exact dps_app (dps_rev h2) (.cons h1 .nil)
/-- sorted, the tuples still are themselves -/
theorem ta_sort {G : Hp} {xs ys : List V} {ps : List (Int × Int)} (ta : TA G xs ps ps.length) (stb : SrtO.Stb (ltP (prV G)) ys xs) : TA G ys (ys.map (prV G)) (ys.map (prV G)).length :=
  ⟨by simp, fun i y hy => by
    obtain ⟨k, hk⟩ := List.getElem?_of_mem (stb.perm.mem_iff.mp (List.mem_of_getElem? hy))
    obtain ⟨t, p, rfl, _, h3⟩ := ta.2 k y hk
    exact ⟨t, p, rfl, by rw [List.getElem?_map, hy]; show some (prV G (.ref t)) = _; rw [prV_eq h3], h3⟩⟩
def spWorldX (K : PySem.W.Frag) : Sp := fun vs H Q _ => ∃ (a : Addr) (n : Nat), vs = [.ref a, .int n] ∧ Pot H a ∧ n ≤ 6 ∧
  ∀ (H' : Hp) (p l m : Addr) (xs ys : List V) (as ts : List (Int × Int)), SmX a H H' → Pot H' a → H' p = some (.tup [.int n, .ref l, .ref m]) → H l = none → H m = none → l ≠ m → l ≠ a → m ≠ a →
    H' l = some (.lst xs) → H' m = some (.lst ys) → DpAll K H' xs (as.map dP) → DpAll K H' ys (ts.map dP) → Prs n as → Acy as → Prs n ts → (∀ q ∈ ts, q.1 < q.2) → TA H' xs as as.length → TA H' ys ts ts.length → Q (.ref p) H'
def spWorld (K : PySem.W.Frag) : Sp := fun vs H Q _ => ∃ (a : Addr) (n : Nat), vs = [.ref a, .int n] ∧ Pot H a ∧ n ≤ 6 ∧
  ∀ (H' : Hp) (p l m : Addr) (xs ys : List V) (as ts : List (Int × Int)), SmX a H H' → Pot H' a → H' p = some (.tup [.int n, .ref l, .ref m]) → H l = none → H m = none → l ≠ m → l ≠ a → m ≠ a →
    H' l = some (.lst xs) → H' m = some (.lst ys) → DpAll K H' xs (as.map dP) → DpAll K H' ys (ts.map dP) → Prs n as → Acy as → Prs n ts → (∀ q ∈ ts, q.1 < q.2) → Q (.ref p) H'
def spMade (K : PySem.W.Frag) (C : Addr) : Sp := fun vs H Q _ => ∃ (a p l m : Addr) (n : Nat) (xs ys : List V) (as ts : List (Int × Int)), vs = [.ref a, .ref p] ∧ Pot H a ∧ H p = some (.tup [.int n, .ref l, .ref m]) ∧ l ≠ a ∧ m ≠ a ∧
  H l = some (.lst xs) ∧ H m = some (.lst ys) ∧ DpAll K H xs (as.map dP) ∧ DpAll K H ys (ts.map dP) ∧ n ≤ 6 ∧ Prs n as ∧ Acy as ∧ Prs n ts ∧ (∀ q ∈ ts, q.1 < q.2) ∧
  ∀ (H' : Hp) (x : Addr) (as' ts' : List (Int × Int)), SmX a H H' → Pot H' a → as'.Perm as → ts'.Perm ts → PlanAt K C H' x n as' ts' → Q (.ref x) H'
section
variable {P : Program} {w : World} {K : PySem.W.Frag} {mg : Str → Option Value} {base : Heap}
abbrev nWorld : List Str := ["_law_pot_here", "_law_many", "_law_order_here", "_law_arrows", "_law_ties", "_law_dense", "_law_at", "_law_to"]
abbrev nMade : List Str := ["_law_pot_here", "_law_world_here", "_law_arrows", "_law_ties"]
end
end Tk

/-! plain mathematics: one arrow or tie more -/
namespace Tk
theorem acy_put {as : List (Int × Int)} {i j : Int} (ac : Acy as) : Acy (as ++ [(i, j)]) ↔ ¬ Reach as j i := by
  constructor
  · rintro ⟨r, hr⟩ h
    have le : ∀ {a b : Int}, Reach as a b → r a ≤ r b := by
      intro a b h
      induction h with
      | refl => exact Nat.le_refl _
      | tail _ hp ih => exact Nat.le_trans ih (Nat.le_of_lt (hr _ (List.mem_append_left _ hp)))
    have := le h
    have h2 : r i < r j := hr (i, j) (by simp)
    omega
  · intro no
    obtain ⟨r, hr⟩ := ac
    refine ⟨fun x => r x + if @decide (Reach as j x) (Classical.propDecidable _) = true then r i + 1 else 0, fun p hp => ?_⟩
    show r p.1 + _ < r p.2 + _
    rcases List.mem_append.mp hp with h | h
    · have lt := hr p h
      by_cases c : Reach as j p.1
      · have c2 : Reach as j p.2 := .tail c (by obtain ⟨a, b⟩ := p; exact h)
        rw [if_pos (@decide_eq_true _ (Classical.propDecidable _) c), if_pos (@decide_eq_true _ (Classical.propDecidable _) c2)]
        omega
      · rw [if_neg (fun z => c (@of_decide_eq_true _ (Classical.propDecidable _) z))]
        omega
    · rw [List.mem_singleton.mp h]
      show r i + _ < r j + _
      rw [if_neg (fun z => no (@of_decide_eq_true _ (Classical.propDecidable _) z)), if_pos (@decide_eq_true _ (Classical.propDecidable _) .refl)]
      omega
def rowT (n i : Nat) : List (Int × Int) := (List.range (n - (i + 1))).map fun j => ((i : Int), ((i + 1 + j : Nat) : Int))
def rowsT (n k : Nat) : List (Int × Int) := (List.range k).flatMap (rowT n)
theorem rowsT_succ (n k : Nat) : rowsT n (k + 1) = rowsT n k ++ rowT n k := by
  unfold rowsT
  rw [List.range_succ, List.flatMap_append]
  simp
theorem mem_rowsT {n : Nat} {x y : Int} : (x, y) ∈ rowsT n n ↔ 0 ≤ x ∧ x < y ∧ y < n := by
  unfold rowsT rowT
  simp only [List.mem_flatMap, List.mem_range, List.mem_map, Prod.mk.injEq]
  constructor
  · rintro ⟨i, hi, j, hj, rfl, rfl⟩
    omega
  · rintro ⟨h1, h2, h3⟩
    exact ⟨x.toNat, by omega, (y - x - 1).toNat, by omega, by omega, by omega⟩
theorem rowsT_few {n k : Nat} (h : n ≤ 6) (hk : k ≤ 6) : (rowsT n k).length ≤ 36 := by
  have h1 : n = 0 ∨ n = 1 ∨ n = 2 ∨ n = 3 ∨ n = 4 ∨ n = 5 ∨ n = 6 := by omega
  have h2 : k = 0 ∨ k = 1 ∨ k = 2 ∨ k = 3 ∨ k = 4 ∨ k = 5 ∨ k = 6 := by omega
  rcases h1 with rfl | rfl | rfl | rfl | rfl | rfl | rfl <;> rcases h2 with rfl | rfl | rfl | rfl | rfl | rfl | rfl <;> decide
theorem rowsT_nd {n : Nat} (h : n ≤ 6) : (rowsT n n).Nodup := by
  have h1 : n = 0 ∨ n = 1 ∨ n = 2 ∨ n = 3 ∨ n = 4 ∨ n = 5 ∨ n = 6 := by omega
  rcases h1 with rfl | rfl | rfl | rfl | rfl | rfl | rfl <;> decide +kernel
end Tk

namespace Tk
open PySem PySem.Spec PyProof.Rows L2
theorem rowsT_srt {n : Nat} (h : n ≤ 6) : SrtPs (rowsT n n) := by
  have h1 : n = 0 ∨ n = 1 ∨ n = 2 ∨ n = 3 ∨ n = 4 ∨ n = 5 ∨ n = 6 := by omega
  rcases h1 with rfl | rfl | rfl | rfl | rfl | rfl | rfl <;> (unfold SrtPs; decide +kernel)
theorem filter_snoc2 {α : Type} (f : α → Bool) (l : List α) (x : α) : (l ++ [x]).filter f = if f x = true then l.filter f ++ [x] else l.filter f := by
  rw [List.filter_append]
  by_cases c : f x = true
  · rw [if_pos c, List.filter_cons_of_pos c]; rfl
  · rw [if_neg c, List.filter_cons_of_neg c]; simp
/-- an arrow or tie stands at p, either way -/
def jB (as ts : List (Int × Int)) (p : Int × Int) : Bool := decide (p ∈ as ++ ts) || decide (swp p ∈ as ++ ts)
def looseP (n : Nat) (as ts : List (Int × Int)) : List (Int × Int) := (rowsT n n).filter fun p => !jB as ts p
noncomputable def acyB (as : List (Int × Int)) (p : Int × Int) : Bool := @decide (Acy (as ++ [p])) (Classical.propDecidable _)
theorem acyB_iff {as : List (Int × Int)} {p : Int × Int} : acyB as p = true ↔ Acy (as ++ [p]) := by
  unfold acyB
  exact @decide_eq_true_iff _ (Classical.propDecidable _)
theorem loose_in {n : Nat} {as ts : List (Int × Int)} {i j : Int} (h : (i, j) ∈ looseP n as ts) : (0 ≤ i ∧ i < j ∧ j < n) ∧ (i, j) ∉ as ∧ (i, j) ∉ ts ∧ (j, i) ∉ as ∧ (j, i) ∉ ts := by
  obtain ⟨h1, h2⟩ := List.mem_filter.mp h
  refine ⟨mem_rowsT.mp h1, ?_⟩
  unfold jB at h2
  simp [swp] at h2
  exact ⟨h2.1.1, h2.1.2, h2.2.1, h2.2.2⟩
theorem ta_app {G : Hp} {a1 a2 : List V} {ps qs : List (Int × Int)} (h : TA G a1 ps ps.length) (g : TA G a2 qs qs.length) : TA G (a1 ++ a2) (ps ++ qs) (ps ++ qs).length := by
  refine ⟨by rw [List.length_append, List.length_append, h.1, g.1], fun i x hx => ?_⟩
  by_cases c : i < a1.length
  · rw [List.getElem?_append_left c] at hx
    obtain ⟨t, z, e1, e2, e3⟩ := h.2 i x hx
    exact ⟨t, z, e1, by rw [List.getElem?_append_left (lt_of_at e2)]; exact e2, e3⟩
  · rw [List.getElem?_append_right (by omega)] at hx
    obtain ⟨t, z, e1, e2, e3⟩ := g.2 _ x hx
    refine ⟨t, z, e1, ?_, e3⟩
    rw [List.getElem?_append_right (by rw [← h.1]; omega), ← h.1]
    exact e2
/-- Plan(n, u, v) -/
theorem mk_plan {K : PySem.W.Frag} {C : Addr} {G : Hp} {u v x dx' : Addr} {n : Nat} {as ts : List (Int × Int)} {R : VK} {E : XK} (hu : PL K G u as) (hv : PA2 K G v ts) (n6 : n ≤ 6) (pas : Prs n as) (ac : Acy as) (pts : Prs n ts) (lt : ∀ q ∈ ts, q.1 < q.2)
    (nx : G x = none) (ndx : G dx' = none) (q : ∀ (G' : Hp) (as' ts' : List (Int × Int)), Same G G' → as'.Perm as → ts'.Perm ts → PlanAt K C G' x n as' ts' → R .non G') :
    spInit K C [.ref x, .int n, .ref u, .ref v] (upd (upd G dx' (.own x)) x (.ins C dx' [])) R E := by
  have sm : Same G (upd (upd G dx' (.own x)) x (.ins C dx' [])) := fun b o e => by
    rw [upd_ne (ne_of_none e nx), upd_ne (ne_of_none e ndx)]
    exact e
  refine ⟨x, dx', u, v, n, as, ts, rfl, upd_same, pl_s hu sm, pa2_s hv sm, n6, pas, ac, pts, lt, fun G2 as' ts' keep sA sT PA => ?_⟩
  exact q G2 as' ts' (fun b o e => keep b o (ne_of_none e nx) (sm b o e)) sA.1 sT.1 PA

/-! two ranges, one within the other -/
theorem in_range {lo : Int} {n : Nat} {g1 : TG} {tt1 : TT} {te : TE} {vs1 : List Nat} {σ2 : L2.St} {H4 : Hp} {D : Addr} {Nx : Hp → Prop} (Pv : Nat → Hp → Prop) (h0 : Pv 0 H4)
    (hs : ∀ j H, j < n → Pv j H → g1 (.int (lo + j)) (wipe σ2 vs1) H fun σ3 H5 => wipe σ3 vs1 = wipe σ2 vs1 ∧ tt1 σ3 H5 fun b H6 =>
      if b = true then te σ3 H6 fun y H7 => ∃ acc, H7 D = some (.lst acc) ∧ acc.length < sizeLine ∧ Pv (j + 1) (upd H7 D (.lst (acc ++ [y]))) else Pv (j + 1) H6) (hd : ∀ H, Pv n H → Nx H) :
    ∃ W1 : Nat → Nat → Hp → Prop, (∃ m, W1 0 m H4) ∧ ∀ j k H, W1 j k H →
      ((Itr lo n).stop j H ∧ Nx H) ∨ ((Itr lo n).go j H ∧ ∃ Nx1 : Hp → Prop, (∀ H', Nx1 H' → ∃ k', k' < k ∧ W1 (j + 1) k' H') ∧ ∀ x H', (Itr lo n).yld j H x H' → g1 x (wipe σ2 vs1) H' fun σ3 H5 => wipe σ3 vs1 = wipe σ2 vs1 ∧ tt1 σ3 H5 fun b H6 =>
        if b = true then te σ3 H6 fun y H7 => ∃ acc, H7 D = some (.lst acc) ∧ acc.length < sizeLine ∧ Nx1 (upd H7 D (.lst (acc ++ [y]))) else Nx1 H6) := by
  refine ⟨fun i m H => m = n - i ∧ i ≤ n ∧ Pv i H, ⟨n, by simp, Nat.zero_le _, h0⟩, ?_⟩
  rintro i m H ⟨rfl, hi, p⟩
  by_cases hlt : i < n
  · refine .inr ⟨hlt, Pv (i + 1), fun H' p' => ⟨n - (i + 1), by omega, rfl, hlt, p'⟩, fun x H' y => ?_⟩
    obtain ⟨e, y⟩ := y
    subst e y
    exact hs i _ hlt p
  · have e : i = n := by omega
    subst e
    exact .inl ⟨Nat.le_refl _, hd H p⟩
theorem out_range {lo : Int} {n : Nat} {S : Hp} {Qd : Hp → Prop} (F : V → Hp → (Hp → Prop) → Prop) (Pv : Nat → Hp → Prop) (h0 : Pv 0 S) (hs : ∀ i H, i < n → Pv i H → F (.int (lo + i)) H (Pv (i + 1))) (hd : ∀ H, Pv n H → Qd H) :
    ∃ W : Nat → Nat → Hp → Prop, (∃ m, W 0 m S) ∧ ∀ i m H, W i m H →
      ((Itr lo n).stop i H ∧ Qd H) ∨ ((Itr lo n).go i H ∧ ∃ Nx : Hp → Prop, (∀ H', Nx H' → ∃ m', m' < m ∧ W (i + 1) m' H') ∧ ∀ x H', (Itr lo n).yld i H x H' → F x H' Nx) := by
  refine ⟨fun i m H => m = n - i ∧ i ≤ n ∧ Pv i H, ⟨n, by simp, Nat.zero_le _, h0⟩, ?_⟩
  rintro i m H ⟨rfl, hi, p⟩
  by_cases hlt : i < n
  · refine .inr ⟨hlt, Pv (i + 1), fun H' p' => ⟨n - (i + 1), by omega, rfl, hlt, p'⟩, fun x H' y => ?_⟩
    obtain ⟨e, y⟩ := y
    subst e y
    exact hs i _ hlt p
  · have e : i = n := by omega
    subst e
    exact .inl ⟨Nat.le_refl _, hd H p⟩
def spTurned2 (K : PySem.W.Frag) : Sp := fun vs H Q _ => ∃ (a : Addr) (ps : List (Int × Int)), vs = [.ref a] ∧ PL K H a ps ∧ ps.length < 60 ∧ ∀ H' p, Same H H' → H p = none → LT H' p (turnL ps) → Q (.ref p) H'
def spLoose (K : PySem.W.Frag) (C : Addr) : Sp := fun vs H Q _ => ∃ (p : Addr) (n : Nat) (as ts : List (Int × Int)), vs = [.ref p] ∧ PlanAt K C H p n as ts ∧ ∀ H' r, Same H H' → H r = none → LT H' r (looseP n as ts) → Q (.ref r) H'
section
variable {P : Program} {w : World} {K : PySem.W.Frag} {mg : Str → Option Value} {base : Heap}
theorem ok_turned2 {f : Addr} {fd : FuncData} (F : Fun K "turned" "turned" sTurned f fd) : FnOk P w K mg base CX0 1 f fd ["pairs"] (spTurned2 K) := by
  refine F.ok sc_turned (fun vs H Q E h => ?_) (fun cdv A outer s H vs Q E hr h => ?_)
  · obtain ⟨a, ps, rfl, _⟩ := h
    rfl
  · obtain ⟨a, ps, rfl, ⟨xs, hxs, hd⟩, few, q⟩ := h
    refine ⟨_, pss_one (ps_ret (pe_lc (own := [("start", 1), ("end", 2)]) (g := gTup K 2 (gCons (gName 1) (gCons (gName 2) gNil))) (tt := tYes) rfl sc_turned.nd (pi_list (pv 0)) (blkOk_by (N := ["pairs", "start", "end"]) (sc := defScope sTurned) (by decide +kernel))
            (fun _ _ _ _ _ => pg_tup rfl (pgs_cons (pg_name (i := 1) sc_turned.nd rfl (Or.inl rfl)) (pgs_cons (pg_name (i := 2) sc_turned.nd rfl (Or.inl rfl)) pgs_nil))) (fun _ _ _ _ _ => pts_nil)
            (fun _ _ _ _ _ => pe_tup (pa_cons (pv 2) (pa_cons (pv 1) pa_nil))))), ?_⟩
    have lx : xs.length = ps.length := by rw [dps_len hd, List.length_map]
    refine ⟨_, rfl, a, rfl, ⟨xs, hxs⟩, fun D hD => ?_⟩
    refine lc_list (xs := xs) (fun k G => Same H G ∧ ∃ acc, G D = some (.lst acc) ∧ TA G acc (turnL ps) k) ⟨same_new hD, [], upd_same, ta_0 _ _⟩ (fun k G _ z => same_l z.1 hxs) ?_ ?_
    · rintro k x G hx ⟨sG, acc, hacc, ta⟩
      obtain ⟨⟨i, j⟩, t, hpk, rfl, ht⟩ := pl_at (dps_s hd sG) hx
      have hk := lt_of_at hpk
      refine ⟨t, _, rfl, ht, rfl, _, _, rfl, _, _, rfl, rfl, rfl, _, rfl, _, rfl, szle (by show 2 ≤ 100000; decide), fun v hv => ?_⟩
      have nvD : D ≠ v := fun e => by rw [← e, hacc] at hv; cases hv
      refine ⟨acc, by rw [upd_ne nvD]; exact hacc, szlt (by have := ta.1; omega), same_mut (sG.trans (same_new hv)) hD, acc ++ [.ref v], upd_same, ?_⟩
      exact ta_put (z := (j, i)) ta hacc hv (by unfold turnL; rw [List.getElem?_map, hpk]; rfl)
    · rintro G ⟨sG, acc, hacc, ta⟩
      have e : xs.length = (turnL ps).length := by unfold turnL; rw [List.length_map]; exact lx
      rw [e] at ta
      exact q G D sG hD ⟨acc, hacc, ta⟩

abbrev nLoose : List Str := ["plan", "joined", "pairs", "low", "high"]
theorem sc_loose : FnScope nLoose ["plan"] (defScope sLoose) := ⟨rfl, rfl, rfl, by decide +kernel, rfl, by decide +kernel, by decide +kernel⟩
theorem ok_loose {f C pW gW fA fT : Addr} {fd fdW fdA fdT : FuncData} (F : Fun K "loose_pairs" "loose_pairs" sLoose f fd) (M : PlM K mg C pW gW fA fT fdW fdA fdT) (B : Bl mg) : FnOk P w K mg base CX0 3 f fd ["plan"] (spLoose K C) := by
  have GA : FnOk P w K mg base CX0 1 fA fdA ["self"] (spArr K C) := ok_arrows M.FA M.c B
  have GT : FnOk P w K mg base CX0 1 fT fdT ["self"] (spTies K C) := ok_ties M.FT M.c B
  have GW : FnOk P w K mg base CX0 1 gW fdW ["self"] (getSp C "_size") := ok_width M.FW M.c
  refine F.ok sc_loose (fun vs H Q E h => ?_) (fun cdv A outer s H vs Q E hr h => ?_)
  · obtain ⟨p, n, as, ts, rfl, _⟩ := h
    rfl
  · obtain ⟨p, n, as, ts, rfl, hP, q⟩ := h
    have hr1 : Room 1 _ := hr.mono (by decide)
    have hu := units65 hr
    refine ⟨_, pss_cons (ps_set (i := 1) sc_loose.nd rfl (Or.inr rfl) (pe_op op_cat (pe_meth0 (pv 0) M.c.cl M.mA GA hr1 M.bA .nil pass0) (pe_meth0 (pv 0) M.c.cl M.mT GT hr1 M.bT .nil pass0)))
      (pss_cons (ps_setLc2 (i := 2) (own := [("low", 3), ("high", 4)]) (vs1 := [4]) (g := gName 3) (g1 := gName 4) (tt := tYes) (tt1 := tYes) (wi1 := iRng2 (tCons (tOp (rI0 fun i j => V.int (i + j)) (tVar 3) (tC (V.int 1))) (tCons (tProp C (getSp C "_size") [] E0 (tVar 0)) tNil))) (te := tTup (tCons (tVar 3) (tCons (tVar 4) tNil)))
          rfl sc_loose.nd rfl rfl (sw_true rfl rfl rfl (by decide +kernel)) (pi_range1 rfl B.range (pa_cons (pe_prop (pv 0) M.c.cl M.prop GW hr M.bW .nil pass0 rfl) pa_nil)) (blkOk_by (N := nLoose) (sc := defScope sLoose) (by decide +kernel)) (by decide)
          (fun _ _ _ _ _ => pg_name (i := 3) sc_loose.nd rfl (Or.inl rfl)) (fun _ _ _ _ _ => pts_nil)
          (fun _ _ _ _ _ => pi_range2 rfl B.range (pa_cons (pe_op op_add (pv 3) pe_int) (pa_cons (pe_prop (pv 0) M.c.cl M.prop GW hr M.bW .nil pass0 rfl) pa_nil)))
          (fun _ _ _ _ _ => pg_name (i := 4) sc_loose.nd rfl (Or.inl rfl)) (fun _ _ _ _ _ => pts_nil)
          (fun _ _ _ _ _ => pe_tup (pa_cons (pv 3) (pa_cons (pv 4) pa_nil))))
      (pss_one (ps_ret (pe_lc (own := [("low", 3), ("high", 4)]) (g := gTup K 2 (gCons (gName 3) (gCons (gName 4) gNil)))
          (tt := tAnd (tTest (tOp (rNotInD K) (tTup (tCons (tVar 3) (tCons (tVar 4) tNil))) (tVar 1))) (tTest (tOp (rNotInD K) (tTup (tCons (tVar 4) (tCons (tVar 3) tNil))) (tVar 1)))) (te := tTup (tCons (tVar 3) (tCons (tVar 4) tNil)))
          rfl sc_loose.nd (pi_list (pv 2)) (blkOk_by (N := nLoose) (sc := defScope sLoose) (by decide +kernel))
          (fun _ _ _ _ _ => pg_tup rfl (pgs_cons (pg_name (i := 3) sc_loose.nd rfl (Or.inl rfl)) (pgs_cons (pg_name (i := 4) sc_loose.nd rfl (Or.inl rfl)) pgs_nil)))
          (fun _ _ _ _ _ => pts_one (PW.pt (pw_and (pt_cmpR (op_notInD hu) (pe_tup (pa_cons (pv 3) (pa_cons (pv 4) pa_nil))) (pv 1) (by rfl)) (pw_and1 (pt_cmpR (op_notInD hu) (pe_tup (pa_cons (pv 4) (pa_cons (pv 3) pa_nil))) (pv 1) (by rfl))))))
          (fun _ _ _ _ _ => pe_tup (pa_cons (pv 3) (pa_cons (pv 4) pa_nil))))))), ?_⟩
    obtain ⟨⟨dx, a0, t0, hp, _⟩, n6, pas, acy, pts, lt⟩ := id hP
    have pfn : ∀ {m : Str}, ¬ m = "_size" → ¬ m = "_arrows" → ¬ m = "_ties" → (pf n a0 t0).lookup m = none := fun h1 h2 h3 => pf_no _ _ _ h1 h2 h3
    have few1 := pas.2.1
    have few2 := pts.2.1
    refine ⟨_, rfl, p, dx, _, rfl, hp, pfn (by decide +kernel) (by decide +kernel) (by decide +kernel), p, n, as, ts, rfl, hP, fun H1 l1 s1 hl1 ⟨x1, hx1, d1⟩ => ?_⟩
    refine ⟨_, rfl, p, dx, _, rfl, s1 _ _ hp, pfn (by decide +kernel) (by decide +kernel) (by decide +kernel), p, n, as, ts, rfl, plan_s hP s1, fun H2 l2 s2 hl2 ⟨x2, hx2, d2⟩ => ?_⟩
    have lx1 : x1.length = as.length := by rw [dps_len d1, List.length_map]
    have lx2 : x2.length = ts.length := by rw [dps_len d2, List.length_map]
    refine ⟨l1, l2, x1, x2, rfl, rfl, s2 _ _ hx1, hx2, szle (by omega), fun pj hpj => ?_⟩
    have s3 : Same H2 (upd H2 pj (.lst (x1 ++ x2))) := same_new hpj
    have dj : DpAll K (upd H2 pj (.lst (x1 ++ x2))) (x1 ++ x2) ((as ++ ts).map dP) := by
      rw [List.map_append]
      exact dps_app (dps_s d1 (s2.trans s3)) (dps_s d2 s3)
    have hj : (upd H2 pj (.lst (x1 ++ x2))) pj = some (.lst (x1 ++ x2)) := upd_same
    have s13 := (s1.trans s2).trans s3
    generalize upd H2 pj (.lst (x1 ++ x2)) = H3 at s3 dj hj s13
    -- pairs
    refine ⟨_, rfl, p, dx, _, rfl, s13 _ _ hp, p, dx, _, _, rfl, s13 _ _ hp, pf_size _ _ _, n, rfl, by omega, by omega, fun D hD => ?_⟩
    refine out_range (lo := 0) (n := ((n : Nat) : Int).toNat) _ (fun i G => Same H3 G ∧ LT G D (rowsT n i)) ⟨same_new hD, [], upd_same, ta_0 _ _⟩ ?_ ?_
    · rintro i G hi ⟨sG, ltG⟩
      have hi' : i < n := by omega
      refine ⟨rfl, ?_⟩
      refine ⟨_, rfl, _, _, rfl, rfl, _, rfl, p, dx, _, rfl, (s13.trans sG) _ _ hp, p, dx, _, _, rfl, (s13.trans sG) _ _ hp, pf_size _ _ _, _, _, rfl, (by omega), ?_⟩
      refine in_range (lo := 0 + (i : Int) + 1) (n := ((n : Int) - (0 + (i : Int) + 1)).toNat) (fun j G2 => Same H3 G2 ∧ LT G2 D (rowsT n i ++ (rowT n i).take j)) ⟨sG, by simpa using ltG⟩ ?_ ?_
      · rintro j G2 hj ⟨s2', acc, hacc, ta⟩
        have e1 : (0 + (i : Int)) = (i : Int) := by omega
        have e2 : ((i : Int) + 1 + (j : Int)) = ((i + 1 + j : Nat) : Int) := by omega
        rw [e1, e2]
        have hz : (rowT n i)[j]? = some ((i : Int), ((i + 1 + j : Nat) : Int)) := by
          unfold rowT
          rw [List.getElem?_map, List.getElem?_range (by omega)]
          rfl
        refine ⟨rfl, _, rfl, _, rfl, szle (by show 2 ≤ 100000; decide), fun v hv => ?_⟩
        have nvD : D ≠ v := fun e => by rw [← e, hacc] at hv; cases hv
        have few : (rowsT n i).length ≤ 36 := rowsT_few (by omega) (by omega)
        have lt1 := ta.1
        rw [List.length_append, List.length_take] at lt1
        refine ⟨acc, by rw [upd_ne nvD]; exact hacc, szlt (by omega), same_mut (s2'.trans (same_new hv)) hD, ?_⟩
        have := lt_put (x := (i : Int)) (y := ((i + 1 + j : Nat) : Int)) hacc ta hv
        rw [List.append_assoc, ← take_at hz] at this
        exact this
      · rintro G2 ⟨s2', lt2⟩
        have lr : (rowT n i).length = ((n : Int) - (0 + (i : Int) + 1)).toNat := by
          unfold rowT
          rw [List.length_map, List.length_range]
          omega
        rw [← lr, List.take_length] at lt2
        refine ⟨s2', ?_⟩
        rw [rowsT_succ]
        exact lt2
    rintro G ⟨sG, accP, hP1, taP⟩
    rw [show ((n : Nat) : Int).toNat = n by simp] at taP
    have few := rowsT_few n6 n6
    have dpP := ta_dps (K := K) taP
    -- those that have neither
    refine ⟨_, rfl, D, rfl, ⟨accP, sl_of hP1⟩, fun D2 hD2 => ?_⟩
    refine lc_list (xs := accP) (fun k G2 => Same G G2 ∧ LT G2 D2 (((rowsT n n).take k).filter fun p => !jB as ts p)) ⟨same_new hD2, [], upd_same, ta_0 _ _⟩ (fun k G2 _ z => sl_of (z.1 _ _ hP1)) ?_ ?_
    · rintro k y G2 hy ⟨s2', acc, hacc, ta⟩
      obtain ⟨⟨i, j⟩, t, hpk, rfl, ht⟩ := pl_at (dps_s dpP s2') hy
      have hj2 := (sG.trans s2') _ _ hj
      have dj2 := dps_s dj (sG.trans s2')
      have ft : ((rowsT n n).take (k + 1)).filter (fun p => !jB as ts p) = if (!jB as ts (i, j)) = true then (((rowsT n n).take k).filter fun p => !jB as ts p) ++ [(i, j)] else ((rowsT n n).take k).filter fun p => !jB as ts p := by
        rw [take_at hpk]
        exact filter_snoc2 _ _ _
      have lf : (((rowsT n n).take k).filter fun p => !jB as ts p).length ≤ 36 := by
        have h1 := List.length_filter_le (fun p => !jB as ts p) ((rowsT n n).take k)
        rw [List.length_take] at h1
        omega
      refine ⟨t, _, rfl, ht, rfl, _, _, rfl, _, _, rfl, rfl, rfl, _, rfl, _, rfl, szle (by show 2 ≤ 100000; decide), fun v1 hv1 => ?_⟩
      have q1 : Same G2 (upd G2 v1 (.tup [.int i, .int j])) := same_new hv1
      refine ⟨_, rfl, dP (i, j), (as ++ ts).map dP, dP_mk (st_of upd_same), .lst (sl_of (q1 _ _ hj2)) (dps_s dj2 q1), shaped_pair _, shaped_pairs _, _, rfl, ?_⟩
      rw [any_pairs]
      have no : ∀ G3, Same G2 G3 → (!jB as ts (i, j)) = false → Same G G3 ∧ LT G3 D2 (((rowsT n n).take (k + 1)).filter fun p => !jB as ts p) := fun G3 s3' c => ⟨s2'.trans s3', acc, s3' _ _ hacc, by rw [ft, c]; exact ta_s ta s3'⟩
      by_cases c1 : (i, j) ∈ as ++ ts
      · rw [decide_eq_true c1]
        exact iteF (no _ q1 (by unfold jB; rw [decide_eq_true c1]; rfl))
      · rw [decide_eq_false c1]
        refine ⟨_, rfl, _, rfl, szle (by show 2 ≤ 100000; decide), fun v2 hv2 => ?_⟩
        have q2 := q1.trans (same_new (o := .tup [.int j, .int i]) hv2)
        refine ⟨_, rfl, dP (j, i), (as ++ ts).map dP, dP_mk (st_of upd_same), .lst (sl_of (q2 _ _ hj2)) (dps_s dj2 q2), shaped_pair _, shaped_pairs _, _, rfl, ?_⟩
        rw [any_pairs]
        by_cases c2 : (j, i) ∈ as ++ ts
        · rw [decide_eq_true c2]
          exact iteF (no _ q2 (by unfold jB; rw [decide_eq_false c1]; show (!(false || decide ((j, i) ∈ as ++ ts))) = false; rw [decide_eq_true c2]; rfl))
        · rw [decide_eq_false c2]
          refine ⟨_, rfl, _, rfl, szle (by show 2 ≤ 100000; decide), fun v3 hv3 => ?_⟩
          have hacc3 := q2 _ _ hacc
          have ta3 := ta_s ta q2
          generalize upd (upd G2 v1 (.tup [.int i, .int j])) v2 (.tup [.int j, .int i]) = G4 at q2 hv3 hacc3 ta3
          have nvD : D2 ≠ v3 := fun e => by rw [← e, hacc3] at hv3; cases hv3
          refine ⟨acc, by rw [upd_ne nvD]; exact hacc3, szlt (by have := ta.1; omega), same_mut ((s2'.trans q2).trans (same_new hv3)) hD2, ?_⟩
          have cc : (!jB as ts (i, j)) = true := by unfold jB; rw [decide_eq_false c1]; show (!(false || decide ((j, i) ∈ as ++ ts))) = true; rw [decide_eq_false c2]; rfl
          rw [ft, if_pos cc]
          exact lt_put hacc3 ta3 hv3
    · rintro G2 ⟨s2', lt2⟩
      rw [take_all (by rw [← taP.1])] at lt2
      exact q G2 D2 ((s13.trans sG).trans s2') ((s13.trans sG).free hD2) lt2
end
end Tk

namespace Tk
/-! parts by ties -/
noncomputable def bR (ps : List (Int × Int)) (i y : Int) : Bool := @decide (Reach ps i y) (Classical.propDecidable _)
theorem bR_iff {ps : List (Int × Int)} {i y : Int} : bR ps i y = true ↔ Reach ps i y := by
  unfold bR
  exact @decide_eq_true_iff _ (Classical.propDecidable _)
noncomputable def cl (n : Nat) (ts : List (Int × Int)) (t : Int) : List Int := (things n).filter (bR (both ts) t)
theorem mem_cl {n : Nat} {ts : List (Int × Int)} {t y : Int} : y ∈ cl n ts t ↔ y ∈ things n ∧ Reach (both ts) t y := by
  unfold cl
  rw [List.mem_filter, bR_iff]
theorem cl_eq {n : Nat} {ts : List (Int × Int)} {t y : Int} (h : Reach (both ts) t y) : cl n ts t = cl n ts y := by
  refine List.filter_congr fun z _ => ?_
  have : Reach (both ts) t z ↔ Reach (both ts) y z := ⟨fun r => (both_sym h).trans r, fun r => h.trans r⟩
  rw [Bool.eq_iff_iff, bR_iff, bR_iff]
  exact this
noncomputable def isHd (n : Nat) (ts : List (Int × Int)) (t : Int) : Bool := decide ((cl n ts t).headD (-1) = t)
/-- the parts, told in the sequence of their least things -/
noncomputable def partsL (n : Nat) (ts : List (Int × Int)) : List (List Int) := ((things n).filter (isHd n ts)).map (cl n ts)
theorem hd_mem {l : List Int} (h : l ≠ []) : l.headD (-1) ∈ l := by
  cases l with
  | nil => exact absurd rfl h
  | cons x l => simp
theorem cl_self {n : Nat} {ts : List (Int × Int)} {x : Int} (hx : x ∈ things n) : x ∈ cl n ts x := mem_cl.mpr ⟨hx, .refl⟩
theorem cl_hd {n : Nat} {ts : List (Int × Int)} {x : Int} (hx : x ∈ things n) : (cl n ts x).headD (-1) ∈ things n ∧ cl n ts ((cl n ts x).headD (-1)) = cl n ts x := by
  have hne : cl n ts x ≠ [] := fun e => by have := cl_self (ts := ts) hx; rw [e] at this; exact nomatch this
  have hm := mem_cl.mp (hd_mem hne)
  exact ⟨hm.1, (cl_eq hm.2).symm⟩
/-- a list of ints that rises, with these members -/
theorem rise_cl {n : Nat} {ts : List (Int × Int)} {t : Int} {l : List Int} (h : l.Pairwise (· < ·)) (hm : ∀ y, y ∈ l ↔ y ∈ things n ∧ Reach (both ts) t y) : l = cl n ts t :=
  rise_eq h ((things_rise n).filter _) fun y => by rw [hm y]; exact mem_cl.symm
theorem both_congr {ts us : List (Int × Int)} (h : ∀ p, p ∈ ts ↔ p ∈ us) {a b : Int} : Reach (both ts) a b ↔ Reach (both us) a b :=
  ⟨fun r => r.sub fun p hp => by
    rcases mem_both.mp hp with c | c
    · exact mem_both.mpr (.inl ((h p).mp c))
    · exact mem_both.mpr (.inr ((h _).mp c)), fun r => r.sub fun p hp => by
    rcases mem_both.mp hp with c | c
    · exact mem_both.mpr (.inl ((h p).mpr c))
    · exact mem_both.mpr (.inr ((h _).mpr c))⟩
theorem partsL_congr {n : Nat} {ts us : List (Int × Int)} (h : ∀ p, p ∈ ts ↔ p ∈ us) : partsL n ts = partsL n us := by
  have e : cl n ts = cl n us := by
    funext t
    refine List.filter_congr fun z _ => ?_
    rw [Bool.eq_iff_iff, bR_iff, bR_iff]
    exact both_congr h
  unfold partsL isHd
  rw [e]
theorem parts_flat_mem {n : Nat} {ts : List (Int × Int)} {y : Int} : y ∈ (partsL n ts).flatten ↔ y ∈ things n := by
  rw [List.mem_flatten]
  constructor
  · rintro ⟨l, hl, hy⟩
    obtain ⟨t, _, rfl⟩ := List.mem_map.mp hl
    exact (mem_cl.mp hy).1
  · intro hy
    obtain ⟨a, b⟩ := cl_hd (ts := ts) hy
    refine ⟨cl n ts ((cl n ts y).headD (-1)), List.mem_map.mpr ⟨_, List.mem_filter.mpr ⟨a, ?_⟩, rfl⟩, ?_⟩
    · unfold isHd
      rw [decide_eq_true_eq, b]
    · rw [b]
      exact cl_self hy
theorem parts_flat_nodup {n : Nat} {ts : List (Int × Int)} : (partsL n ts).flatten.Nodup := by
  show List.Pairwise _ _
  rw [List.pairwise_flatten]
  constructor
  · intro l hl
    obtain ⟨t, _, rfl⟩ := List.mem_map.mp hl
    exact (things_nodup n).filter _
  · unfold partsL
    rw [List.pairwise_map]
    refine List.Pairwise.imp_of_mem (fun {a b} ha hb hne x hx y hy e => hne ?_) ((things_nodup n).filter _)
    subst e
    have e1 := cl_eq (n := n) (mem_cl.mp hx).2
    have e2 := cl_eq (n := n) (mem_cl.mp hy).2
    have h1 : (cl n ts a).headD (-1) = a := by simpa [isHd] using (List.mem_filter.mp ha).2
    have h2 : (cl n ts b).headD (-1) = b := by simpa [isHd] using (List.mem_filter.mp hb).2
    rw [← h1, ← h2, e1, e2]
end Tk

namespace Tk
/-! more arrows and ties; bars and the parts by ties -/
section
variable {n : Nat} {as as' ts ts' : List (Int × Int)}
theorem up_sub {l : List Int} (s : ∀ p ∈ as, p ∈ as') {a b : Int} (h : Reach (upIn as l) a b) : Reach (upIn as' l) a b :=
  reach_mono (fun ⟨x, y⟩ hp => by rw [mem_upIn] at hp ⊢; exact ⟨s _ hp.1, hp.2⟩) h
theorem tie_sub {l : List Int} (s : ∀ p ∈ ts, p ∈ ts') {a b : Int} (h : Reach (tieIn ts l) a b) : Reach (tieIn ts' l) a b :=
  reach_mono (fun ⟨x, y⟩ hp => by rw [mem_tieIn] at hp ⊢; exact ⟨hp.1.elim (fun z => .inl (s _ z)) (fun z => .inr (s _ z)), hp.2⟩) h
theorem good_more {x : Int} {l : List Int} (sa : ∀ p ∈ as, p ∈ as') (st : ∀ p ∈ ts, p ∈ ts') (g : Good n as ts x l) : Good n as' ts' x l :=
  ⟨g.lot, g.mem, fun y hy => up_sub sa (g.up y hy), fun y hy => tie_sub st (g.tie y hy)⟩
theorem bar_more {l : List Int} (sa : ∀ p ∈ as, p ∈ as') (st : ∀ p ∈ ts, p ∈ ts') (b : Bar n as ts l) : Bar n as' ts' l := by
  obtain ⟨x, g⟩ := bar_good b
  exact good_bar (good_more sa st g) b.two
theorem plain_more (sa : ∀ p ∈ as, p ∈ as') (st : ∀ p ∈ ts, p ∈ ts') (h : PlainP n as' ts') : PlainP n as ts := by
  rw [plain_bars] at h ⊢
  exact fun l b => h l (bar_more sa st b)
theorem gl_more {x : Int} (sa : ∀ p ∈ as, p ∈ as') (st : ∀ p ∈ ts, p ∈ ts') : ∀ y ∈ gl n as ts x, y ∈ gl n as' ts' x := fun y hy => by
  obtain ⟨l, g, hl⟩ := mem_gl.mp hy
  exact mem_gl.mpr ⟨l, good_more sa st g, hl⟩
end
section
variable {n : Nat} {as ts : List (Int × Int)}
theorem tie_both {l : List Int} {a b : Int} (h : Reach (tieIn ts l) a b) : Reach (both ts) a b :=
  reach_mono (fun ⟨x, y⟩ hp => by rw [mem_tieIn] at hp; rw [mem_both]; exact hp.1) h
theorem one_in : ∀ {L : List (List Int)} {x : Int}, L.flatten.Nodup → x ∈ L.flatten → (L.filter fun p => decide (x ∈ p)).length = 1
  | [], x, _, h => by simp at h
  | p :: L, x, nd, h => by
    rw [List.flatten_cons] at nd h
    obtain ⟨n1, n2, n3⟩ := List.nodup_append.mp nd
    by_cases c : x ∈ p
    · rw [List.filter_cons_of_pos (by simp [c])]
      have : (L.filter fun p => decide (x ∈ p)) = [] := by
        rw [List.filter_eq_nil_iff]
        intro q hq e
        have e' : x ∈ q := by simpa using e
        exact n3 x c x (List.mem_flatten.mpr ⟨q, hq, e'⟩) rfl
      rw [this]; rfl
    · rw [List.filter_cons_of_neg (by simp [c])]
      exact one_in n2 ((List.mem_append.mp h).resolve_left c)
theorem part_closed {p : List Int} (hp : p ∈ partsL n ts) {x y : Int} (hx : x ∈ p) (hy : y ∈ things n) (r : Reach (both ts) x y) : y ∈ p := by
  obtain ⟨t, _, rfl⟩ := List.mem_map.mp hp
  exact mem_cl.mpr ⟨hy, (mem_cl.mp hx).2.trans r⟩
def insB (l m : List Int) : Bool := l.all fun z => decide (z ∈ m)
theorem insB_iff {l m : List Int} : insB l m = true ↔ ∀ z ∈ l, z ∈ m := by
  unfold insB
  rw [List.all_eq_true]
  simp
theorem bar_parts {l : List Int} (b : Bar n as ts l) : ((partsL n ts).filter fun p => insB l p).length = 1 := by
  obtain ⟨x, g⟩ := bar_good b
  have e : ((partsL n ts).filter fun p => insB l p) = (partsL n ts).filter fun p => decide (x ∈ p) := by
    refine List.filter_congr fun p hp => ?_
    rw [Bool.eq_iff_iff, insB_iff, decide_eq_true_eq]
    exact ⟨fun h => h x g.mem, fun h y hy => part_closed hp h (g.lot.2 y hy) (tie_both (g.tie y hy))⟩
  rw [e]
  exact one_in parts_flat_nodup (parts_flat_mem.mpr (g.lot.2 x g.mem))
/-- the ties that begin in a part -/
def tiesOf (ts : List (Int × Int)) (p : List Int) : List (Int × Int) := ts.filter fun t => decide (t.1 ∈ p)
theorem mem_tiesOf {p : List Int} {q : Int × Int} : q ∈ tiesOf ts p ↔ q ∈ ts ∧ q.1 ∈ p := by
  unfold tiesOf
  rw [List.mem_filter]
  simp
theorem bar_part {p l : List Int} (pt : ∀ q ∈ ts, q.1 ∈ things n ∧ q.2 ∈ things n) (hp : p ∈ partsL n ts) : Bar n as (tiesOf ts p) l ↔ Bar n as ts l ∧ ∀ z ∈ l, z ∈ p := by
  constructor
  · intro b
    have sub : ∀ q ∈ tiesOf ts p, q ∈ ts := fun q hq => (mem_tiesOf.mp hq).1
    refine ⟨bar_more (fun _ h => h) sub b, ?_⟩
    obtain ⟨x, g⟩ := bar_good b
    -- some other thing of the lot is next to x
    have key : ∀ {a b : Int}, Reach (tieIn (tiesOf ts p) l) a b → a ≠ b → b ∈ p := by
      intro a b h ne
      cases h with
      | refl => exact absurd rfl ne
      | @tail c d _ hq =>
        obtain ⟨h1, _, _⟩ := mem_tieIn.mp hq
        rcases h1 with z | z
        · obtain ⟨z1, z2⟩ := mem_tiesOf.mp z
          exact part_closed hp z2 (pt _ z1).2 (.tail .refl (mem_both.mpr (.inl z1)))
        · exact (mem_tiesOf.mp z).2
    obtain ⟨y, hy, ne⟩ : ∃ y ∈ l, x ≠ y := by
      refine Classical.byContradiction fun no => ?_
      have : ∀ y ∈ l, x = y := fun y hy => Classical.byContradiction fun ne => no ⟨y, hy, ne⟩
      have h1 := nodup_le (lt_nd g.lot.1) (m := [x]) fun y hy => by rw [this y hy]; simp
      have := b.two
      simp at h1
      omega
    have yp := key (g.tie y hy) ne
    have xp : x ∈ p := part_closed hp yp (g.lot.2 x g.mem) (tie_both (tie_sym (tie_sub sub (g.tie y hy))))
    exact fun z hz => part_closed hp xp (g.lot.2 z hz) (tie_both (tie_sub sub (g.tie z hz)))
  · rintro ⟨b, s⟩
    obtain ⟨x, g⟩ := bar_good b
    refine good_bar ⟨g.lot, g.mem, g.up, fun y hy => ?_⟩ b.two
    refine reach_mono (fun ⟨u, v⟩ hq => ?_) (g.tie y hy)
    obtain ⟨h1, h2, h3⟩ := mem_tieIn.mp hq
    refine mem_tieIn.mpr ⟨?_, h2, h3⟩
    rcases h1 with z | z
    · exact .inl (mem_tiesOf.mpr ⟨z, s _ h2⟩)
    · exact .inr (mem_tiesOf.mpr ⟨z, s _ h3⟩)
end
/-- nothing later in the order leads to what is earlier -/
theorem topo_le {n : Nat} {as : List (Int × Int)} {o : List Int} (h : Topo n as o) (th : ∀ p ∈ as, p.1 ∈ things n ∧ p.2 ∈ things n) {a b : Int} (r : Reach as a b) : ∀ {i j : Nat}, o[i]? = some a → o[j]? = some b → i ≤ j := by
  induction r with
  | refl =>
    intro i j hi hj
    have hil := (List.getElem?_eq_some_iff.mp hi).1
    have := (List.getElem?_inj hil h.nd).mp (hi.trans hj.symm)
    omega
  | @tail c d _ hp ih =>
    intro i j hi hj
    have hc : c ∈ o := (h.mem c).mpr (th _ hp).1
    obtain ⟨k, hk⟩ := List.getElem?_of_mem hc
    have h1 := ih hi hk
    have h2 := h.at_ _ hp k j hk hj
    omega
theorem topo_put {n : Nat} {as : List (Int × Int)} {o : List Int} (h : Topo n as o) (ac : Acy as) (th : ∀ p ∈ as, p.1 ∈ things n ∧ p.2 ∈ things n) {i j : Nat} {a b : Int} (hi : o[i]? = some a) (hj : o[j]? = some b) (lt : i < j) : Acy (as ++ [(a, b)]) :=
  (acy_put ac).mpr fun r => by
    have := topo_le h th r hj hi
    omega
end Tk

namespace Tk
/-! things under other names: renamed, cut and laid beside -/
section
variable {n n' : Nat} {as as' ts ts' : List (Int × Int)} {S : Int → Prop} {f : Int → Int}
/-- f tells the things of S under other names, and the arrows and ties between them -/
structure Ren (as ts as' ts' : List (Int × Int)) (S : Int → Prop) (f : Int → Int) : Prop where
  inj : ∀ x y, S x → S y → f x = f y → x = y
  ar : ∀ x y, S x → S y → ((f x, f y) ∈ as' ↔ (x, y) ∈ as)
  ti : ∀ x y, S x → S y → (((f x, f y) ∈ ts' ∨ (f y, f x) ∈ ts') ↔ ((x, y) ∈ ts ∨ (y, x) ∈ ts))
/-- l' is l under the other names -/
def Img (f : Int → Int) (l l' : List Int) : Prop := ∀ z, z ∈ l' ↔ ∃ y ∈ l, z = f y
theorem img_mem {l l' : List Int} (R : Ren as ts as' ts' S f) (sl : ∀ y ∈ l, S y) (h : Img f l l') {x : Int} (hx : S x) : f x ∈ l' ↔ x ∈ l := by
  rw [h (f x)]
  constructor
  · rintro ⟨y, hy, e⟩
    rw [R.inj x y hx (sl y hy) e]; exact hy
  · exact fun hx => ⟨x, hx, rfl⟩
theorem up_to {l l' : List Int} (R : Ren as ts as' ts' S f) (sl : ∀ y ∈ l, S y) (h : Img f l l') {a b : Int} (r : Reach (upIn as l) a b) : Reach (upIn as' l') (f a) (f b) := by
  induction r with
  | refl => exact .refl
  | tail _ hp ih =>
    obtain ⟨h1, h2, h3⟩ := mem_upIn.mp hp
    exact .tail ih (mem_upIn.mpr ⟨(R.ar _ _ (sl _ h2) (sl _ h3)).mpr h1, (h _).mpr ⟨_, h2, rfl⟩, (h _).mpr ⟨_, h3, rfl⟩⟩)
theorem tie_to {l l' : List Int} (R : Ren as ts as' ts' S f) (sl : ∀ y ∈ l, S y) (h : Img f l l') {a b : Int} (r : Reach (tieIn ts l) a b) : Reach (tieIn ts' l') (f a) (f b) := by
  induction r with
  | refl => exact .refl
  | tail _ hp ih =>
    obtain ⟨h1, h2, h3⟩ := mem_tieIn.mp hp
    exact .tail ih (mem_tieIn.mpr ⟨(R.ti _ _ (sl _ h2) (sl _ h3)).mpr h1, (h _).mpr ⟨_, h2, rfl⟩, (h _).mpr ⟨_, h3, rfl⟩⟩)
theorem up_from {l l' : List Int} (R : Ren as ts as' ts' S f) (sl : ∀ y ∈ l, S y) (h : Img f l l') {a v : Int} (ha : a ∈ l) (r : Reach (upIn as' l') (f a) v) : ∃ b ∈ l, v = f b ∧ Reach (upIn as l) a b := by
  induction r with
  | refl => exact ⟨a, ha, rfl, .refl⟩
  | @tail u v _ hp ih =>
    obtain ⟨c, hc, rfl, rc⟩ := ih
    obtain ⟨h1, h2, h3⟩ := mem_upIn.mp hp
    obtain ⟨b, hb, rfl⟩ := (h _).mp h2
    exact ⟨b, hb, rfl, .tail rc (mem_upIn.mpr ⟨(R.ar _ _ (sl _ hb) (sl _ hc)).mp h1, hb, hc⟩)⟩
theorem tie_from {l l' : List Int} (R : Ren as ts as' ts' S f) (sl : ∀ y ∈ l, S y) (h : Img f l l') {a v : Int} (ha : a ∈ l) (r : Reach (tieIn ts' l') (f a) v) : ∃ b ∈ l, v = f b ∧ Reach (tieIn ts l) a b := by
  induction r with
  | refl => exact ⟨a, ha, rfl, .refl⟩
  | @tail u v _ hp ih =>
    obtain ⟨c, hc, rfl, rc⟩ := ih
    obtain ⟨h1, h2, h3⟩ := mem_tieIn.mp hp
    obtain ⟨b, hb, rfl⟩ := (h _).mp h3
    exact ⟨b, hb, rfl, .tail rc (mem_tieIn.mpr ⟨(R.ti _ _ (sl _ hc) (sl _ hb)).mp h1, hc, hb⟩)⟩
theorem good_to {l l' : List Int} {x : Int} (R : Ren as ts as' ts' S f) (sl : ∀ y ∈ l, S y) (h : Img f l l') (lo' : Lot n' l') (g : Good n as ts x l) : Good n' as' ts' (f x) l' :=
  ⟨lo', (h _).mpr ⟨x, g.mem, rfl⟩, fun z hz => let ⟨y, hy, e⟩ := (h z).mp hz; by rw [e]; exact up_to R sl h (g.up y hy), fun z hz => let ⟨y, hy, e⟩ := (h z).mp hz; by rw [e]; exact tie_to R sl h (g.tie y hy)⟩
theorem good_from {l l' : List Int} {x : Int} (R : Ren as ts as' ts' S f) (sl : ∀ y ∈ l, S y) (h : Img f l l') (lo : Lot n l) (hx : x ∈ l) (g : Good n' as' ts' (f x) l') : Good n as ts x l := by
  refine ⟨lo, hx, fun y hy => ?_, fun y hy => ?_⟩
  · obtain ⟨b, hb, e, r⟩ := up_from R sl h hx (g.up (f y) ((h _).mpr ⟨y, hy, rfl⟩))
    rw [R.inj y b (sl y hy) (sl b hb) e]; exact r
  · obtain ⟨b, hb, e, r⟩ := tie_from R sl h hx (g.tie (f y) ((h _).mpr ⟨y, hy, rfl⟩))
    rw [R.inj y b (sl y hy) (sl b hb) e]; exact r
theorem img_len {l l' : List Int} (R : Ren as ts as' ts' S f) (sl : ∀ y ∈ l, S y) (h : Img f l l') (nd : l.Nodup) (nd' : l'.Nodup) : l'.length = l.length := by
  have n1 : (l.map f).Nodup := by
    show List.Pairwise _ _
    rw [List.pairwise_map]
    exact List.Pairwise.imp_of_mem (fun {a b} ha hb ne e => ne (R.inj a b (sl a ha) (sl b hb) e)) nd
  have := nodup_eq nd' n1 (fun z => by rw [h z, List.mem_map]; exact ⟨fun ⟨y, a, b⟩ => ⟨y, a, b.symm⟩, fun ⟨y, a, b⟩ => ⟨y, a, b.symm⟩⟩)
  rw [this, List.length_map]
theorem bar_ren {l l' : List Int} (R : Ren as ts as' ts' S f) (sl : ∀ y ∈ l, S y) (h : Img f l l') (lo : Lot n l) (lo' : Lot n' l') : Bar n' as' ts' l' ↔ Bar n as ts l := by
  have len := img_len R sl h (lt_nd lo.1) (lt_nd lo'.1)
  constructor
  · intro b
    obtain ⟨x', g⟩ := bar_good b
    obtain ⟨x, hx, rfl⟩ := (h _).mp g.mem
    exact good_bar (good_from R sl h lo hx g) (by have := b.two; omega)
  · intro b
    obtain ⟨x, g⟩ := bar_good b
    exact good_bar (good_to R sl h lo' g) (by have := b.two; omega)
theorem hang_ren {l l' : List Int} (R : Ren as ts as' ts' S f) (sl : ∀ y ∈ l, S y) (h : Img f l l') : hangB ts' l' = hangB ts l := by
  rw [Bool.eq_iff_iff]
  by_cases c : l = []
  · have c' : l' = [] := by
      cases e : l' with
      | nil => rfl
      | cons z t =>
        obtain ⟨y, hy, _⟩ := (h z).mp (by rw [e]; simp)
        rw [c] at hy; cases hy
    rw [c, c', hangB_iff, hangB_iff]
    exact Iff.rfl
  · obtain ⟨x, hx⟩ := List.exists_mem_of_ne_nil _ c
    have hx' : f x ∈ l' := (h _).mpr ⟨x, hx, rfl⟩
    rw [hang_iff hx', hang_iff hx]
    constructor
    · intro g y hy
      obtain ⟨b, hb, e, r⟩ := tie_from R sl h hx (g (f y) ((h _).mpr ⟨y, hy, rfl⟩))
      rw [R.inj y b (sl y hy) (sl b hb) e]; exact r
    · intro g z hz
      obtain ⟨y, hy, rfl⟩ := (h z).mp hz
      exact tie_to R sl h (g y hy)
theorem head_ren {l l' : List Int} (R : Ren as ts as' ts' S f) (sl : ∀ y ∈ l, S y) (h : Img f l l') {x : Int} (hx : x ∈ l) : IsHead as' l' (f x) ↔ IsHead as l x := by
  constructor
  · intro g y hy
    obtain ⟨b, hb, e, r⟩ := up_from R sl h hx (g (f y) ((h _).mpr ⟨y, hy, rfl⟩))
    rw [R.inj y b (sl y hy) (sl b hb) e]; exact r
  · intro g z hz
    obtain ⟨y, hy, rfl⟩ := (h z).mp hz
    exact up_to R sl h (g y hy)
/-- the lot under the other names, and back -/
def imgL (n' : Nat) (f : Int → Int) (l : List Int) : List Int := (things n').filter fun z => l.any fun y => decide (z = f y)
def preL (n : Nat) (f : Int → Int) (l' : List Int) : List Int := (things n).filter fun y => decide (f y ∈ l')
theorem imgL_lot {l : List Int} : Lot n' (imgL n' f l) := ⟨(things_lt n').sublist List.filter_sublist, fun _ hy => (List.mem_filter.mp hy).1⟩
theorem preL_lot {l' : List Int} : Lot n (preL n f l') := ⟨(things_lt n).sublist List.filter_sublist, fun _ hy => (List.mem_filter.mp hy).1⟩
theorem imgL_img {l : List Int} (hf : ∀ y ∈ l, f y ∈ things n') : Img f l (imgL n' f l) := fun z => by
  unfold imgL
  rw [List.mem_filter, List.any_eq_true]
  constructor
  · rintro ⟨_, y, hy, e⟩
    exact ⟨y, hy, by simpa using e⟩
  · rintro ⟨y, hy, rfl⟩
    exact ⟨hf y hy, y, hy, by simp⟩
theorem preL_img {l' : List Int} (onto : ∀ z ∈ l', ∃ y ∈ things n, z = f y) : Img f (preL n f l') l' := fun z => by
  constructor
  · intro hz
    obtain ⟨y, hy, rfl⟩ := onto z hz
    exact ⟨y, List.mem_filter.mpr ⟨hy, by simpa using hz⟩, rfl⟩
  · rintro ⟨y, hy, rfl⟩
    simpa using (List.mem_filter.mp hy).2
/-- all things renamed: the greatest lots, and plainness -/
theorem gl_ren (R : Ren as ts as' ts' (· ∈ things n) f) (into : ∀ y ∈ things n, f y ∈ things n') (onto : ∀ z ∈ things n', ∃ y ∈ things n, z = f y) {x : Int} (hx : x ∈ things n) : Img f (gl n as ts x) (gl n' as' ts' (f x)) := fun z => by
  constructor
  · intro hz
    obtain ⟨l', g, hl⟩ := mem_gl.mp hz
    have im := preL_img (n := n) (f := f) (l' := l') fun z hz => onto z (g.lot.2 z hz)
    have hxl : x ∈ preL n f l' := List.mem_filter.mpr ⟨hx, by simpa using g.mem⟩
    obtain ⟨y, hy, e⟩ := (im z).mp hl
    exact ⟨y, mem_gl.mpr ⟨_, good_from R (fun y hy => (List.mem_filter.mp hy).1) im preL_lot hxl g, hy⟩, e⟩
  · rintro ⟨y, hy, rfl⟩
    obtain ⟨l, g, hl⟩ := mem_gl.mp hy
    have im := imgL_img (n' := n') (f := f) (l := l) fun y hy => into y (g.lot.2 y hy)
    exact mem_gl.mpr ⟨_, good_to R (fun y hy => g.lot.2 y hy) im imgL_lot g, (im _).mpr ⟨y, hl, rfl⟩⟩
theorem plain_ren (R : Ren as ts as' ts' (· ∈ things n) f) (into : ∀ y ∈ things n, f y ∈ things n') (onto : ∀ z ∈ things n', ∃ y ∈ things n, z = f y) : PlainP n' as' ts' ↔ PlainP n as ts := by
  have len : ∀ x ∈ things n, (gl n' as' ts' (f x)).length = (gl n as ts x).length := fun x hx =>
    img_len R (fun y hy => gl_lot.2 y hy) (gl_ren R into onto hx) (lt_nd gl_lot.1) (lt_nd gl_lot.1)
  constructor
  · intro h x hx
    have := h (f x) (into x hx)
    rw [len x hx] at this
    exact this
  · intro h z hz
    obtain ⟨y, hy, rfl⟩ := onto z hz
    rw [len y hy]
    exact h y hy
end
end Tk

namespace Tk
open PySem PySem.Spec PyProof.Rows L2
/-- the name of a thing in a list of names -/
def nmL (o : List Int) (x : Int) : Int := o.getD x.toNat 0
def rpL (o : List Int) (p : Int × Int) : Int × Int := (nmL o p.1, nmL o p.2)
def rtL (o : List Int) (p : Int × Int) : Int × Int := (if nmL o p.2 < nmL o p.1 then nmL o p.2 else nmL o p.1, if nmL o p.2 > nmL o p.1 then nmL o p.2 else nmL o p.1)
theorem nm_at {o : List Int} {x : Int} (h0 : 0 ≤ x) (h1 : x < (o.length : Int)) : atI (o.map V.int) x = some (V.int (nmL o x)) := by
  obtain ⟨i, rfl⟩ : ∃ i : Nat, x = (i : Int) := ⟨x.toNat, by omega⟩
  refine atI_nat ?_
  have il : i < o.length := by omega
  rw [List.getElem?_map, List.getElem?_eq_getElem il]
  show some (V.int o[i]) = some (V.int (o.getD (i : Int).toNat 0))
  rw [List.getD_eq_getElem?_getD]
  show _ = some (V.int ((o[i]?).getD 0))
  rw [List.getElem?_eq_getElem il]
  rfl
/-- an index into a list or a tuple -/
def rIxA (K : PySem.W.Frag) : R2 := fun x y H Q => ∃ p xs i v, x = .ref p ∧ y = .int i ∧ SqA K H p xs ∧ atI xs i = some v ∧ Q v H
theorem ix_sqa {X : Cx} : IxR X (rIxA X.K) := by
  intro value slice pins s σ H x y v u Q I rx ry h hs
  obtain ⟨p, xs, i, z, e1, e2, h1 | h1, h2, q⟩ := h
  · exact ix_list value slice pins s σ H x y v u Q I rx ry ⟨p, xs, i, z, e1, e2, h1, h2, q⟩ hs
  · exact ix_tup value slice pins s σ H x y v u Q I rx ry ⟨p, xs, i, z, e1, e2, h1, h2, q⟩ hs
theorem sqa_s {K : PySem.W.Frag} {H H' : Hp} {a : Addr} {xs : List V} (e : Same H H') (h : SqA K H a xs) : SqA K H' a xs := h.elim (fun h => .inl (same_l e h)) (fun h => .inr (same_t e h))
def spToldL (K : PySem.W.Frag) (C : Addr) : Sp := fun vs H Q _ => ∃ (b u v : Addr) (n : Nat) (o : List Int) (as ts : List (Int × Int)), vs = [.int n, .ref b, .ref u, .ref v] ∧ SqA K H b (o.map V.int) ∧ PL K H u as ∧ PL K H v ts ∧ n ≤ 6 ∧ as.length < 60 ∧ ts.length < 60 ∧
  (∀ p ∈ as, 0 ≤ p.1 ∧ p.1 < (o.length : Int) ∧ 0 ≤ p.2 ∧ p.2 < (o.length : Int)) ∧ (∀ p ∈ ts, 0 ≤ p.1 ∧ p.1 < (o.length : Int) ∧ 0 ≤ p.2 ∧ p.2 < (o.length : Int)) ∧
  Prs n (as.map (rpL o)) ∧ Acy (as.map (rpL o)) ∧ Prs n (ts.map (rtL o)) ∧ (∀ q ∈ ts.map (rtL o), q.1 < q.2) ∧
  ∀ (H' : Hp) (x : Addr) (as' ts' : List (Int × Int)), Same H H' → H x = none → as'.Perm (as.map (rpL o)) → ts'.Perm (ts.map (rtL o)) → PlanAt K C H' x n as' ts' → Q (.ref x) H'
section
variable {P : Program} {w : World} {K : PySem.W.Frag} {mg : Str → Option Value} {base : Heap}
abbrev nTold : List Str := ["size", "names", "arrows", "ties", "new_arrows", "new_ties", "start", "end", "low", "high"]
end
end Tk

namespace Tk
open PySem PySem.Spec PyProof.Rows L2
section
variable {P : Program} {w : World} {K : PySem.W.Frag} {mg : Str → Option Value} {base : Heap}
abbrev nATh : List Str := ["size", "value", "thing"]
end
end Tk

namespace Tk
open PySem PySem.Spec PyProof.Rows L2
def spChkOrder (K : PySem.W.Frag) : Sp := fun vs H Q _ => ∃ (b : Addr) (n : Nat) (o : List Int), vs = [.int n, .ref b] ∧ n ≤ 6 ∧ SqA K H b (o.map V.int) ∧ o.Perm (things n) ∧ ∀ H', Same H H' → Q .non H'
def spRenamed (K : PySem.W.Frag) (C : Addr) : Sp := fun vs H Q _ => ∃ (p b : Addr) (n : Nat) (as ts : List (Int × Int)) (o : List Int), vs = [.ref p, .ref b] ∧ PlanAt K C H p n as ts ∧ SqA K H b (o.map V.int) ∧ o.Perm (things n) ∧
  ∀ (H' : Hp) (x : Addr) (as' ts' : List (Int × Int)), Same H H' → H x = none → as'.Perm (as.map (rpL o)) → ts'.Perm (ts.map (rtL o)) → PlanAt K C H' x n as' ts' → Q (.ref x) H'
section
variable {n : Nat} {o : List Int} {as ts : List (Int × Int)}
theorem nm_it {x : Int} (h0 : 0 ≤ x) (h1 : x < (o.length : Int)) : o[x.toNat]? = some (nmL o x) := by
  have il : x.toNat < o.length := by omega
  unfold nmL
  rw [List.getD_eq_getElem?_getD, List.getElem?_eq_getElem il]; rfl
theorem nm_mem {x : Int} (h0 : 0 ≤ x) (h1 : x < (o.length : Int)) : nmL o x ∈ o := List.mem_of_getElem? (nm_it h0 h1)
theorem nm_inj (nd : o.Nodup) {x y : Int} (hx : 0 ≤ x ∧ x < (o.length : Int)) (hy : 0 ≤ y ∧ y < (o.length : Int)) (e : nmL o x = nmL o y) : x = y := by
  have := (List.getElem?_inj (i := x.toNat) (j := y.toNat) (by omega) nd).mp (by rw [nm_it hx.1 hx.2, nm_it hy.1 hy.2, e])
  omega
theorem nm_idx (nd : o.Nodup) {x : Int} (hx : 0 ≤ x ∧ x < (o.length : Int)) : ((o.idxOf (nmL o x) : Nat) : Int) = x := by
  have hm := nm_mem hx.1 hx.2
  have h1 := List.idxOf_lt_length_of_mem hm
  have e1 : o[o.idxOf (nmL o x)]? = some (nmL o x) := by rw [List.getElem?_eq_getElem h1, List.getElem_idxOf h1]
  have := (List.getElem?_inj h1 nd).mp (e1.trans (nm_it hx.1 hx.2).symm)
  omega
theorem rp_acy (nd : o.Nodup) (r : ∀ p ∈ as, (0 ≤ p.1 ∧ p.1 < (o.length : Int)) ∧ 0 ≤ p.2 ∧ p.2 < (o.length : Int)) (ac : Acy as) : Acy (as.map (rpL o)) := by
  obtain ⟨rk, h⟩ := ac
  refine ⟨fun z => rk ((o.idxOf z : Nat) : Int), fun q hq => ?_⟩
  obtain ⟨p, hp, rfl⟩ := List.mem_map.mp hq
  show rk ((o.idxOf (nmL o p.1) : Nat) : Int) < rk ((o.idxOf (nmL o p.2) : Nat) : Int)
  rw [nm_idx nd (r p hp).1, nm_idx nd (r p hp).2]
  exact h p hp
theorem rg_of {p : Int × Int} (lo : o.length = n) (h : 0 ≤ p.1 ∧ p.1 < (n : Int) ∧ 0 ≤ p.2 ∧ p.2 < (n : Int) ∧ p.1 ≠ p.2) : (0 ≤ p.1 ∧ p.1 < (o.length : Int)) ∧ 0 ≤ p.2 ∧ p.2 < (o.length : Int) := by
  obtain ⟨a, b, c, d, _⟩ := h
  rw [lo]
  exact ⟨⟨a, b⟩, c, d⟩
theorem nd_mapOn {α β : Type} {l : List α} {g : α → β} (nd : l.Nodup) (h : ∀ a ∈ l, ∀ b ∈ l, g a = g b → a = b) : (l.map g).Nodup := by
  show List.Pairwise _ _
  rw [List.pairwise_map]
  exact List.Pairwise.imp_of_mem (fun {a b} ha hb ne e => ne (h a ha b hb e)) nd
theorem rp_prs {n' : Nat} (n6 : n' ≤ 6) (lo : o.length = n) (nd : o.Nodup) (th : ∀ y ∈ o, y ∈ things n') (h : Prs n as) : Prs n' (as.map (rpL o)) := by
  have rg := fun p hp => rg_of lo (h.2.2 p hp)
  refine prs_mk n6 (nd_mapOn h.1 fun p hp q hq e => ?_) fun q hq => ?_
  · have e1 := nm_inj nd (rg p hp).1 (rg q hq).1 (Prod.mk.inj e).1
    have e2 := nm_inj nd (rg p hp).2 (rg q hq).2 (Prod.mk.inj e).2
    exact Prod.ext e1 e2
  · obtain ⟨p, hp, rfl⟩ := List.mem_map.mp hq
    have m1 := mem_things.mp (th _ (nm_mem (rg p hp).1.1 (rg p hp).1.2))
    have m2 := mem_things.mp (th _ (nm_mem (rg p hp).2.1 (rg p hp).2.2))
    exact ⟨m1.1, m1.2, m2.1, m2.2, fun e => (h.2.2 p hp).2.2.2.2 (nm_inj nd (rg p hp).1 (rg p hp).2 e)⟩
theorem rt_cases (p : Int × Int) (ne : nmL o p.1 ≠ nmL o p.2) : (rtL o p = (nmL o p.1, nmL o p.2) ∧ nmL o p.1 < nmL o p.2) ∨ (rtL o p = (nmL o p.2, nmL o p.1) ∧ nmL o p.2 < nmL o p.1) := by
  unfold rtL
  by_cases c : nmL o p.2 < nmL o p.1
  · right; simp only [if_pos c, if_neg (show ¬ nmL o p.2 > nmL o p.1 by omega)]; exact ⟨trivial, c⟩
  · left; simp only [if_neg c, if_pos (show nmL o p.2 > nmL o p.1 by omega)]; exact ⟨trivial, by omega⟩
theorem rt_prs {n' : Nat} (n6 : n' ≤ 6) (lo : o.length = n) (nd : o.Nodup) (th : ∀ y ∈ o, y ∈ things n') (h : Prs n ts) (lt : ∀ p ∈ ts, p.1 < p.2) : Prs n' (ts.map (rtL o)) ∧ ∀ q ∈ ts.map (rtL o), q.1 < q.2 := by
  have rg := fun p hp => rg_of lo (h.2.2 p hp)
  have ne : ∀ p ∈ ts, nmL o p.1 ≠ nmL o p.2 := fun p hp e => (h.2.2 p hp).2.2.2.2 (nm_inj nd (rg p hp).1 (rg p hp).2 e)
  have ltq : ∀ q ∈ ts.map (rtL o), q.1 < q.2 := fun q hq => by
    obtain ⟨p, hp, rfl⟩ := List.mem_map.mp hq
    rcases rt_cases p (ne p hp) with ⟨e, l⟩ | ⟨e, l⟩ <;> (rw [e]; exact l)
  refine ⟨prs_mk n6 (nd_mapOn h.1 fun p hp q hq e => ?_) fun q hq => ?_, ltq⟩
  · have l1 := lt p hp
    have l2 := lt q hq
    have P := fun {x y : Int} hx hy e => nm_inj (o := o) (x := x) (y := y) nd hx hy e
    rcases rt_cases p (ne p hp) with ⟨e1, _⟩ | ⟨e1, _⟩ <;> rcases rt_cases q (ne q hq) with ⟨e2, _⟩ | ⟨e2, _⟩ <;> (rw [e1, e2] at e; obtain ⟨f1, f2⟩ := Prod.mk.inj e)
    · exact Prod.ext (P (rg p hp).1 (rg q hq).1 f1) (P (rg p hp).2 (rg q hq).2 f2)
    · have a := P (rg p hp).1 (rg q hq).2 f1
      have b := P (rg p hp).2 (rg q hq).1 f2
      omega
    · have a := P (rg p hp).2 (rg q hq).1 f1
      have b := P (rg p hp).1 (rg q hq).2 f2
      omega
    · exact Prod.ext (P (rg p hp).1 (rg q hq).1 f2) (P (rg p hp).2 (rg q hq).2 f1)
  · have l := ltq q hq
    obtain ⟨p, hp, rfl⟩ := List.mem_map.mp hq
    have m1 := mem_things.mp (th _ (nm_mem (rg p hp).1.1 (rg p hp).1.2))
    have m2 := mem_things.mp (th _ (nm_mem (rg p hp).2.1 (rg p hp).2.2))
    rcases rt_cases p (ne p hp) with ⟨e, _⟩ | ⟨e, _⟩ <;> (rw [e] at l ⊢; simp only at l ⊢; omega)
end
section
variable {P : Program} {w : World} {K : PySem.W.Frag} {mg : Str → Option Value} {base : Heap}
end
end Tk

namespace Tk
/-! built lots: each thing but the last has one arrow to a later one, the ties make a tree -/
def mnx (a b : Int) : Int × Int := (if b < a then b else a, if b > a then b else a)
theorem mnx_lt {a b : Int} (h : a ≠ b) : (mnx a b).1 < (mnx a b).2 := by
  unfold mnx
  by_cases c : b < a
  · simp only [if_pos c, if_neg (show ¬ b > a by omega)]; exact c
  · simp only [if_neg c, if_pos (show b > a by omega)]; omega
theorem mnx_mem {a b : Int} (h : a ≠ b) : mnx a b = (a, b) ∨ mnx a b = (b, a) := by
  unfold mnx
  by_cases c : b < a
  · right; simp only [if_pos c, if_neg (show ¬ b > a by omega)]
  · left; simp only [if_neg c, if_pos (show b > a by omega)]
/-- the arrows -/
def Fwd (o : List Int) (as : List (Int × Int)) (k : Nat) : Prop := as.length = k ∧ ∀ i, i < k → ∃ j, i < j ∧ j < o.length ∧ as[i]? = some (it o i, it o j)
theorem fwd_0 (o : List Int) : Fwd o [] 0 := ⟨rfl, fun _ h => absurd h (by omega)⟩
theorem fwd_put {o : List Int} {as : List (Int × Int)} {k j : Nat} (h : Fwd o as k) (l : k < j) (hj : j < o.length) : Fwd o (as ++ [(it o k, it o j)]) (k + 1) := by
  refine ⟨by simp [h.1], fun i hi => ?_⟩
  by_cases c : i < k
  · obtain ⟨j', a, b, d⟩ := h.2 i c
    exact ⟨j', a, b, by rw [List.getElem?_append_left (by rw [h.1]; exact c)]; exact d⟩
  · have e : i = k := by omega
    subst e
    refine ⟨j, l, hj, ?_⟩
    rw [List.getElem?_append_right (by rw [h.1]; omega), h.1]
    simp
theorem fwd_mem {o : List Int} {as : List (Int × Int)} {k : Nat} (h : Fwd o as k) {p : Int × Int} (hp : p ∈ as) : ∃ i j, i < k ∧ i < j ∧ j < o.length ∧ p = (it o i, it o j) := by
  obtain ⟨i, hi⟩ := List.getElem?_of_mem hp
  have il := (List.getElem?_eq_some_iff.mp hi).1
  rw [h.1] at il
  obtain ⟨j, a, b, d⟩ := h.2 i il
  rw [hi] at d
  exact ⟨i, j, il, a, b, Option.some.inj d⟩
/-- the last one is reached by all -/
theorem fwd_head {o lot : List Int} {as : List (Int × Int)} (h : Fwd o as (o.length - 1)) (hl : ∀ x, x ∈ lot ↔ x ∈ o) (pos : 0 < o.length) : ∀ k i, i + k + 1 = o.length → Reach (upIn as lot) (it o (o.length - 1)) (it o i) := by
  intro k
  induction k using Nat.strongRecOn with
  | ind k ih =>
    intro i hi
    by_cases c : k = 0
    · have : i = o.length - 1 := by omega
      rw [this]; exact .refl
    · obtain ⟨j, l, hj, e⟩ := h.2 i (by omega)
      have r := ih (o.length - 1 - j) (by omega) j (by omega)
      refine .tail r (mem_upIn.mpr ⟨List.mem_of_getElem? e, (hl _).mpr (it_mem (by omega)), (hl _).mpr (it_mem hj)⟩)
/-- the ties: a tree on e -/
def Tre (e : List Int) (ts : List (Int × Int)) (k : Nat) : Prop := ts.length = k ∧ ∀ i, i < k → i + 1 < e.length ∧ ∃ j, j ≤ i ∧ ts[i]? = some (mnx (it e (i + 1)) (it e j))
theorem tre_0 (e : List Int) : Tre e [] 0 := ⟨rfl, fun _ h => absurd h (by omega)⟩
theorem tre_put {e : List Int} {ts : List (Int × Int)} {k j : Nat} (h : Tre e ts k) (l : j ≤ k) (hk : k + 1 < e.length) : Tre e (ts ++ [mnx (it e (k + 1)) (it e j)]) (k + 1) := by
  refine ⟨by simp [h.1], fun i hi => ?_⟩
  by_cases c : i < k
  · obtain ⟨a, j', b, d⟩ := h.2 i c
    exact ⟨a, j', b, by rw [List.getElem?_append_left (by rw [h.1]; exact c)]; exact d⟩
  · have e' : i = k := by omega
    subst e'
    refine ⟨hk, j, l, ?_⟩
    rw [List.getElem?_append_right (by rw [h.1]; omega), h.1]
    simp
theorem tre_mem {e : List Int} {ts : List (Int × Int)} {k : Nat} (h : Tre e ts k) {p : Int × Int} (hp : p ∈ ts) : ∃ i j, i < k ∧ i + 1 < e.length ∧ j ≤ i ∧ ts[i]? = some p ∧ p = mnx (it e (i + 1)) (it e j) := by
  obtain ⟨i, hi⟩ := List.getElem?_of_mem hp
  have il := (List.getElem?_eq_some_iff.mp hi).1
  rw [h.1] at il
  obtain ⟨a, j, b, d⟩ := h.2 i il
  exact ⟨i, j, il, a, b, hi, by rw [hi] at d; exact Option.some.inj d⟩
theorem tre_ne {e : List Int} (nd : e.Nodup) {i j : Nat} (hi : i + 1 < e.length) (hj : j ≤ i) : it e (i + 1) ≠ it e j := fun z => by
  have := it_inj nd hi (by omega) z
  omega
theorem tre_hang {e lot : List Int} {ts : List (Int × Int)} (nd : e.Nodup) (h : Tre e ts (e.length - 1)) (hl : ∀ x, x ∈ lot ↔ x ∈ e) : ∀ k, k < e.length → Reach (tieIn ts lot) (it e 0) (it e k) := by
  intro k
  induction k using Nat.strongRecOn with
  | ind k ih =>
    intro hk
    cases k with
    | zero => exact .refl
    | succ i =>
      obtain ⟨a, j, b, d⟩ := h.2 i (by omega)
      have r := ih j (by omega) (by omega)
      have hm := List.mem_of_getElem? d
      refine .tail r (mem_tieIn.mpr ⟨?_, (hl _).mpr (it_mem (by omega)), (hl _).mpr (it_mem a)⟩)
      rcases mnx_mem (tre_ne nd a b) with z | z
      · rw [z] at hm; exact .inr hm
      · rw [z] at hm; exact .inl hm
/-- less one tie, two colours -/
theorem tre_cut {e : List Int} {ts : List (Int × Int)} {k : Nat} (h : Tre e ts k) (i0 : Nat) : ∀ m, m ≤ k → ∃ c : Nat → Bool, c 0 = false ∧ (i0 < m → c (i0 + 1) = true) ∧ ∀ i, i < m → i ≠ i0 → ∃ j, j ≤ i ∧ ts[i]? = some (mnx (it e (i + 1)) (it e j)) ∧ c (i + 1) = c j := by
  intro m
  induction m with
  | zero => exact fun _ => ⟨fun _ => false, rfl, fun z => absurd z (by omega), fun i hi => absurd hi (by omega)⟩
  | succ m ih =>
    intro hm
    obtain ⟨c, c0, c1, c2⟩ := ih (by omega)
    obtain ⟨_, j, hj, ej⟩ := h.2 m (by omega)
    refine ⟨fun x => if x = m + 1 then (if m = i0 then true else c j) else c x, ?_, ?_, ?_⟩
    · show (if 0 = m + 1 then _ else c 0) = false
      rw [if_neg (by omega)]; exact c0
    · intro l
      show (if i0 + 1 = m + 1 then (if m = i0 then true else c j) else c (i0 + 1)) = true
      by_cases z : i0 = m
      · rw [if_pos (by omega), if_pos z.symm]
      · rw [if_neg (by omega)]; exact c1 (by omega)
    · intro i hi ne
      by_cases z : i = m
      · subst z
        refine ⟨j, hj, ej, ?_⟩
        show (if i + 1 = i + 1 then (if i = i0 then true else c j) else c (i + 1)) = (if j = i + 1 then (if i = i0 then true else c j) else c j)
        rw [if_pos rfl, if_neg ne, if_neg (by omega)]
      · obtain ⟨j', a, b, d⟩ := c2 i (by omega) ne
        refine ⟨j', a, b, ?_⟩
        show (if i + 1 = m + 1 then (if m = i0 then true else c j) else c (i + 1)) = (if j' = m + 1 then (if m = i0 then true else c j) else c j')
        rw [if_neg (by omega), if_neg (by omega)]
        exact d
theorem idx_it {e : List Int} (nd : e.Nodup) {i : Nat} (h : i < e.length) : e.idxOf (it e i) = i := by
  have hm := it_mem h
  have h1 := List.idxOf_lt_length_of_mem hm
  have h2 : it e (e.idxOf (it e i)) = it e i := by
    have a := it_some h1
    have b : e[e.idxOf (it e i)]? = some (it e i) := by
      rw [List.getElem?_eq_getElem h1, List.getElem_idxOf h1]
    rw [a] at b
    exact Option.some.inj b
  exact it_inj nd h1 h h2
/-- less one tie, the lot does not hang together -/
theorem cut_apart {e lot : List Int} {ts fs : List (Int × Int)} (nd : e.Nodup) (h : Tre e ts (e.length - 1)) {i0 : Nat} (hi0 : i0 < e.length - 1) (sub : ∀ q ∈ fs, q ∈ ts ∧ some q ≠ ts[i0]?) : ¬ Reach (tieIn fs lot) (it e 0) (it e (i0 + 1)) := by
  obtain ⟨c, c0, c1, c2⟩ := tre_cut h i0 (e.length - 1) (Nat.le_refl _)
  have keep : ∀ q ∈ fs, c (e.idxOf q.1) = c (e.idxOf q.2) := by
    intro q hq
    obtain ⟨hq1, hq2⟩ := sub q hq
    obtain ⟨i, j, il, il2, jl, hi, _⟩ := tre_mem h hq1
    have ne : i ≠ i0 := fun z => hq2 (by rw [← z, hi])
    obtain ⟨j', a, b, d⟩ := c2 i il ne
    rw [hi] at b
    have b' := Option.some.inj b
    have e1 := idx_it nd il2
    have e2 := idx_it nd (show j' < e.length by omega)
    rcases mnx_mem (tre_ne nd il2 a) with z | z
    · rw [b', z]
      show c (e.idxOf (it e (i + 1))) = c (e.idxOf (it e j'))
      rw [e1, e2]; exact d
    · rw [b', z]
      show c (e.idxOf (it e j')) = c (e.idxOf (it e (i + 1)))
      rw [e1, e2]; exact d.symm
  have go : ∀ {a b : Int}, Reach (tieIn fs lot) a b → c (e.idxOf a) = c (e.idxOf b) := by
    intro a b r
    induction r with
    | refl => rfl
    | tail _ hp ih =>
      obtain ⟨z, _, _⟩ := mem_tieIn.mp hp
      rcases z with z | z
      · exact ih.trans (keep _ z)
      · exact ih.trans (keep _ z).symm
  intro r
  have := go r
  rw [idx_it nd (by omega), idx_it nd (by omega), c0, c1 hi0] at this
  cases this
theorem tre_nodup {e : List Int} {ts : List (Int × Int)} {k : Nat} (nd : e.Nodup) (h : Tre e ts k) : ts.Nodup := by
  show List.Pairwise _ _
  rw [List.pairwise_iff_getElem]
  intro i i' hi hi' lt eq0
  have eq : ts[i]? = ts[i']? := by rw [List.getElem?_eq_getElem hi, List.getElem?_eq_getElem hi', eq0]
  rw [h.1] at hi'
  obtain ⟨a, j, b, d⟩ := h.2 i (by omega)
  obtain ⟨a', j', b', d'⟩ := h.2 i' hi'
  rw [d, d'] at eq
  have eq' := Option.some.inj eq
  have no : ∀ y, y = it e (i + 1) ∨ y = it e j → it e (i' + 1) ≠ y := by
    rintro y (rfl | rfl) z
    · have := it_inj nd a' a z; omega
    · have := it_inj nd a' (by omega) z; omega
  rcases mnx_mem (tre_ne nd a b) with z | z <;> rcases mnx_mem (tre_ne nd a' b') with z' | z' <;> (rw [z, z'] at eq'; obtain ⟨e1, e2⟩ := Prod.mk.inj eq')
  · exact no _ (.inl rfl) e1.symm
  · exact no _ (.inr rfl) e2.symm
  · exact no _ (.inr rfl) e1.symm
  · exact no _ (.inl rfl) e2.symm
/-- without the arrow of one thing, no head -/
theorem fwd_less {o lot : List Int} {as fs : List (Int × Int)} (nd : o.Nodup) (h : Fwd o as (o.length - 1)) (hl : ∀ x, x ∈ lot ↔ x ∈ o) {i0 : Nat} (hi0 : i0 < o.length - 1)
    (sub : ∀ q ∈ fs, q.1 ∈ lot → q.2 ∈ lot → q ∈ as ∧ some q ≠ as[i0]?) : ∀ x ∈ lot, ¬ IsHead fs lot x := by
  intro x hx hd
  -- who has no arrow out is no one's start
  have stuck : ∀ i, i < o.length → (i = i0 ∨ i = o.length - 1) → ∀ {a b : Int}, Reach (upIn fs lot) a b → b = it o i → a = it o i := by
    intro i hi hc a b r e
    cases r with
    | refl => exact e
    | @tail c _ r hp =>
      exfalso
      subst e
      obtain ⟨z, _, _⟩ := mem_upIn.mp hp
      rename_i h1 h2
      obtain ⟨s1, s2⟩ := sub _ z (by assumption) (by assumption)
      obtain ⟨k, hk⟩ := List.getElem?_of_mem s1
      have kl := (List.getElem?_eq_some_iff.mp hk).1
      rw [h.1] at kl
      obtain ⟨j, l1, l2, d⟩ := h.2 k kl
      rw [hk] at d
      have d' := Option.some.inj d
      have ei : i = k := it_inj nd hi (by omega) (Prod.mk.inj d').1
      rcases hc with rfl | rfl
      · exact s2 (by rw [show as[i]? = as[k]? from by rw [ei], hk])
      · omega
  have e1 := stuck i0 (by omega) (.inl rfl) (hd _ ((hl _).mpr (it_mem (by omega)))) rfl
  have e2 := stuck (o.length - 1) (by omega) (.inr rfl) (hd _ ((hl _).mpr (it_mem (by omega)))) rfl
  have := it_inj nd (by omega) (by omega) (e1.symm.trans e2)
  omega
theorem fwd_nodup {o : List Int} {as : List (Int × Int)} {k : Nat} (nd : o.Nodup) (h : Fwd o as k) (hk : k ≤ o.length) : as.Nodup := by
  show List.Pairwise _ _
  rw [List.pairwise_iff_getElem]
  intro i i' hi hi' lt eq0
  have eq : as[i]? = as[i']? := by rw [List.getElem?_eq_getElem hi, List.getElem?_eq_getElem hi', eq0]
  rw [h.1] at hi hi'
  obtain ⟨j, _, _, d⟩ := h.2 i hi
  obtain ⟨j', _, _, d'⟩ := h.2 i' hi'
  rw [d, d'] at eq
  have := it_inj nd (by omega) (by omega) (Prod.mk.inj (Option.some.inj eq)).1
  omega
theorem built_acy {o : List Int} {as fs : List (Int × Int)} {k : Nat} (nd : o.Nodup) (h : Fwd o as k) (hk : k ≤ o.length) (f1 : fs.length ≤ 1) (hf : ∀ q ∈ fs, (q.1 ∉ o ∧ q.2 ∈ o) ∨ (q.1 ∈ o ∧ q.2 ∉ o)) : Acy (as ++ fs) := by
  refine ⟨fun x => if x ∈ o then o.idxOf x + 1 else if (fs.any fun q => decide (q.2 = x)) = true then o.length + 2 else 0, fun p hp => ?_⟩
  have one : ∀ q ∈ fs, ∀ q' ∈ fs, q = q' := by
    intro q hq q' hq'
    cases fs with
    | nil => cases hq
    | cons a t =>
      cases t with
      | nil => rw [List.mem_singleton.mp hq, List.mem_singleton.mp hq']
      | cons b t => simp at f1
  rcases List.mem_append.mp hp with g | g
  · obtain ⟨i, j, a, b, c, rfl⟩ := fwd_mem h g
    show (if it o i ∈ o then _ else _) < (if it o j ∈ o then _ else _)
    rw [if_pos (it_mem (by omega)), if_pos (it_mem c), idx_it nd (by omega), idx_it nd c]
    omega
  · rcases hf p g with ⟨a, b⟩ | ⟨a, b⟩
    · have no : ¬ (fs.any fun q => decide (q.2 = p.1)) = true := by
        intro z
        obtain ⟨q, hq, e⟩ := List.any_eq_true.mp z
        have e' : q.2 = p.1 := by simpa using e
        rw [one q hq p g] at e'
        exact a (e' ▸ b)
      simp only [if_neg a, if_neg no, if_pos b]
      omega
    · have yes : (fs.any fun q => decide (q.2 = p.2)) = true := List.any_eq_true.mpr ⟨p, g, by simp⟩
      have := List.idxOf_lt_length_of_mem a
      simp only [if_pos a, if_neg b, if_pos yes]
      omega
section
variable {n : Nat} {as ts : List (Int × Int)}
theorem reach_out {ps : List (Int × Int)} {a b : Int} (h : Reach ps a b) (ne : a ≠ b) : ∃ c, (c, b) ∈ ps := by
  cases h with
  | refl => exact absurd rfl ne
  | @tail c _ _ hp => exact ⟨c, hp⟩
/-- a barred lot keeps to the things that are tied -/
theorem bar_in {o l : List Int} (h : ∀ q ∈ ts, q.1 ∈ o ∧ q.2 ∈ o) (b : Bar n as ts l) : ∀ z ∈ l, z ∈ o := by
  obtain ⟨x, g⟩ := bar_good b
  have key : ∀ {a c : Int}, Reach (tieIn ts l) a c → a ≠ c → c ∈ o := fun r ne => by
    obtain ⟨d, hd⟩ := reach_out r ne
    obtain ⟨z, _, _⟩ := mem_tieIn.mp hd
    rcases z with z | z
    · exact (h _ z).2
    · exact (h _ z).1
  intro z hz
  by_cases c : x = z
  · subst c
    obtain ⟨y, hy, ne⟩ : ∃ y ∈ l, y ≠ x := by
      refine Classical.byContradiction fun no => ?_
      have all : ∀ y ∈ l, y = x := fun y hy => Classical.byContradiction fun ne => no ⟨y, hy, ne⟩
      have h1 := nodup_le (lt_nd g.lot.1) (m := [x]) fun y hy => by rw [all y hy]; simp
      have := b.two
      simp at h1
      omega
    exact key (tie_sym (g.tie y hy)) ne
  · exact key (g.tie z hz) c
theorem gl_out {o : List Int} (h : ∀ q ∈ ts, q.1 ∈ o ∧ q.2 ∈ o) {x : Int} (hx : x ∈ things n) (no : x ∉ o) : gl n as ts x = [x] := by
  have g := gl_good (as := as) (ts := ts) hx
  by_cases c : 1 < (gl n as ts x).length
  · exact absurd (bar_in h (good_bar g c) x g.mem) no
  · cases e : gl n as ts x with
    | nil => have := g.mem; rw [e] at this; cases this
    | cons a t =>
      cases t with
      | nil => have := g.mem; rw [e] at this; rw [List.mem_singleton.mp this]
      | cons b t => rw [e] at c; simp at c
theorem gl_lotb {o lot : List Int} {x : Int} (h : ∀ q ∈ ts, q.1 ∈ o ∧ q.2 ∈ o) (hl : ∀ y, y ∈ lot ↔ y ∈ o) (g : Good n as ts x lot) : gl n as ts x = lot := by
  refine (gl_eq g fun m gm y hy => ?_).symm
  by_cases c : 1 < m.length
  · exact (hl y).mpr (bar_in h (good_bar gm c) y hy)
  · have : y = x := by
      cases e : m with
      | nil => rw [e] at hy; cases hy
      | cons a t =>
        cases t with
        | nil => have h1 := gm.mem; rw [e] at hy h1; rw [List.mem_singleton.mp hy, List.mem_singleton.mp h1]
        | cons b t => rw [e] at c; simp at c
    rw [this]; exact g.mem
/-- each barred lot lies on one side -/
theorem bar_side {o lot l ns : List Int} {x : Int} (h : ∀ q ∈ ts, q.1 ∈ o ∧ q.2 ∈ o) (hl : ∀ y, y ∈ lot ↔ y ∈ o) (hs : ∀ y, y ∈ ns ↔ Reach (tieIn ts lot) x y) (b : Bar n as ts l) : ∀ y ∈ l, ∀ z ∈ l, y ∈ ns → z ∈ ns := by
  obtain ⟨u, g⟩ := bar_good b
  have s : ∀ z ∈ l, z ∈ lot := fun z hz => (hl z).mpr (bar_in h b z hz)
  intro y hy z hz hn
  rw [hs] at hn ⊢
  exact reach_trans hn (tie_mono s (reach_trans (tie_sym (g.tie y hy)) (g.tie z hz)))
theorem built_good {o e lot : List Int} {fs : List (Int × Int)} (po : e.Perm o) (nd : o.Nodup) (pos : 0 < o.length) (hA : Fwd o as (o.length - 1)) (hT : Tre e ts (o.length - 1)) (lo : Lot n lot) (hl : ∀ x, x ∈ lot ↔ x ∈ o) : Good n (as ++ fs) ts (it o (o.length - 1)) lot := by
  have ndE := po.nodup_iff.mpr nd
  have le := po.length_eq
  have hlE : ∀ x, x ∈ lot ↔ x ∈ e := fun x => (hl x).trans po.mem_iff.symm
  have hT' : Tre e ts (e.length - 1) := by rw [le]; exact hT
  have lastM : it o (o.length - 1) ∈ lot := (hl _).mpr (it_mem (by omega))
  have toE : ∀ y ∈ lot, Reach (tieIn ts lot) (it e 0) y := fun y hy => by
    obtain ⟨i, hi⟩ := List.getElem?_of_mem ((hlE y).mp hy)
    have il := (List.getElem?_eq_some_iff.mp hi).1
    rw [it_some il] at hi
    rw [← Option.some.inj hi]
    exact tre_hang ndE hT' hlE i il
  refine ⟨lo, lastM, fun y hy => ?_, fun y hy => reach_trans (tie_sym (toE _ lastM)) (toE y hy)⟩
  obtain ⟨i, hi⟩ := List.getElem?_of_mem ((hl y).mp hy)
  have il := (List.getElem?_eq_some_iff.mp hi).1
  rw [it_some il] at hi
  rw [← Option.some.inj hi]
  exact up_sub (fun p hp => List.mem_append_left _ hp) (fwd_head hA hl pos (o.length - 1 - i) i (by omega))
theorem built_cut {o e lot : List Int} {fs : List (Int × Int)} (po : e.Perm o) (nd : o.Nodup) (hT : Tre e ts (o.length - 1)) (hl : ∀ x, x ∈ lot ↔ x ∈ o) {q : Int × Int} (hq : q ∈ ts) (sub : ∀ p ∈ fs, p ∈ ts ∧ p ≠ q) : hangB fs lot = false := by
  have ndE := po.nodup_iff.mpr nd
  have le := po.length_eq
  obtain ⟨i, j, a, b, c, d, _⟩ := tre_mem hT hq
  rw [Bool.eq_false_iff]
  intro z
  have e0 : it e 0 ∈ lot := (hl _).mpr (po.mem_iff.mp (it_mem (by omega)))
  refine cut_apart (lot := lot) ndE (by rw [le]; exact hT) (i0 := i) (by omega) (fun p hp => ⟨(sub p hp).1, fun y => (sub p hp).2 ?_⟩) ((hang_iff e0).mp z _ ((hl _).mpr (po.mem_iff.mp (it_mem b))))
  rw [d] at y
  exact Option.some.inj y
theorem built_nohead {o lot : List Int} {fs : List (Int × Int)} (nd : o.Nodup) (hA : Fwd o as (o.length - 1)) (hl : ∀ x, x ∈ lot ↔ x ∈ o) {q : Int × Int} (hq : q ∈ as) (sub : ∀ p ∈ fs, p.1 ∈ o → p.2 ∈ o → p ∈ as ∧ p ≠ q) : headsL fs lot = [] := by
  obtain ⟨i, hi⟩ := List.getElem?_of_mem hq
  have il := (List.getElem?_eq_some_iff.mp hi).1
  rw [hA.1] at il
  have no := fwd_less (fs := fs) nd hA hl il fun p hp h1 h2 => by
    obtain ⟨a, b⟩ := sub p hp ((hl _).mp h1) ((hl _).mp h2)
    exact ⟨a, fun y => b (by rw [hi] at y; exact Option.some.inj y)⟩
  unfold headsL
  rw [List.filter_eq_nil_iff]
  exact fun x hx z => no x hx (headB_iff.mp z)
end
end Tk

namespace Tk
open PySem PySem.Spec PyProof.Rows L2
/-- a dict comprehension over any walk -/
theorem dc_it {J : It} {n : Nat} {G : Hp → Prop} {Y : Nat → Hp → V → Hp → Prop} (w : Walk J n G Y) {g : TG} {tt : TT} {tk tv : TE} {vs : List Nat} {σ : L2.St} {H1 : Hp} {D : Addr} {Qd : Hp → Prop} (Pv : Nat → Hp → Prop) (h0 : Pv 0 (upd H1 D (.dK []))) (hG : ∀ i H, i ≤ n → Pv i H → G H)
    (hs : ∀ i x H H', i < n → Pv i H → Y i H x H' → g x (wipe σ vs) H' fun σ2 H2 => wipe σ2 vs = wipe σ vs ∧ tt σ2 H2 fun b H3 =>
      if b = true then tk σ2 H3 fun y H4 => tv σ2 H4 fun z H5 => ∃ kvs k, y = kV k ∧ H5 D = some (.dK kvs) ∧ kvs.length < sizeLine ∧ Pv (i + 1) (upd H5 D (.dK (putK kvs k z))) else Pv (i + 1) H3) (hd : ∀ H, Pv n H → Qd H) :
    ∃ W : Nat → Nat → Hp → Prop, (∃ m, W 0 m (upd H1 D (.dK []))) ∧ ∀ i m H, W i m H →
      (J.stop i H ∧ Qd H) ∨ (J.go i H ∧ ∃ Nx : Hp → Prop, (∀ H', Nx H' → ∃ m', m' < m ∧ W (i + 1) m' H') ∧ ∀ x H', J.yld i H x H' → g x (wipe σ vs) H' fun σ2 H2 => wipe σ2 vs = wipe σ vs ∧ tt σ2 H2 fun b H3 =>
        if b = true then tk σ2 H3 fun y H4 => tv σ2 H4 fun z H5 => ∃ kvs k, y = kV k ∧ H5 D = some (.dK kvs) ∧ kvs.length < sizeLine ∧ Nx (upd H5 D (.dK (putK kvs k z))) else Nx H3) := by
  refine ⟨fun i m H => m = n - i ∧ i ≤ n ∧ Pv i H, ⟨n, by simp, Nat.zero_le _, h0⟩, ?_⟩
  rintro i m H ⟨rfl, hi, p⟩
  have q := hG i H hi p
  by_cases hlt : i < n
  · exact .inr ⟨w.goes i H hlt q, Pv (i + 1), fun H' p' => ⟨n - (i + 1), by omega, rfl, hlt, p'⟩, fun x H' y => hs i x H H' hlt p (w.yields i H x H' hlt q y)⟩
  · have e : i = n := by omega
    subst e
    exact .inl ⟨w.stops H q, hd H p⟩
section
variable {X : Cx}
/-- name = {k: v for ..} on one line, the name a local -/
theorem ps_setDc {i : Nat} {y : Str} {py : Pos} {kx vx tg iter : Expr} {ifs : List Expr} {scope : Scope} {own : List (Str × Nat)} {pos spos : Pos} {wi : TI} {g : TG} {tt : TT} {tk tv : TE} (hc : X.calm = true) (hN : X.N.Nodup) (hy : X.N[i]? = some y) (hyl : X.env.scope.names.lookup y = some .local)
    (hsw : swapsWith (.DictComp kx vx [⟨tg, iter, ifs, 0⟩] scope pos) (some (.Name y py)) spos.line X.env = pure true) (hi : PI X tg iter wi) (ok : BlkOk X.N X.env.scope scope own)
    (hg : ∀ (s : Shared) (H : Hp) (C : Addr) (cl : List (Str × Addr)) (fp : List Addr), PG (X.blk s H scope (compEnvC scope cl C X.env) fp) tg g) (ht : ∀ (s : Shared) (H : Hp) (C : Addr) (cl : List (Str × Addr)) (fp : List Addr), PTs (X.blk s H scope (compEnvC scope cl C X.env) fp) ifs tt)
    (hk : ∀ (s : Shared) (H : Hp) (C : Addr) (cl : List (Str × Addr)) (fp : List Addr), PE (X.blk s H scope (compEnvC scope cl C X.env) fp) kx tk)
    (he : ∀ (s : Shared) (H : Hp) (C : Addr) (cl : List (Str × Addr)) (fp : List Addr), PE (X.blk s H scope (compEnvC scope cl C X.env) fp) vx tv) (hs : ∀ x, foldedSetIterable iter X.env x = pure x := by intro _; rfl) :
    PS X (.Assign [.Name y py] (.DictComp kx vx [⟨tg, iter, ifs, 0⟩] scope pos) spos) (tAsg (tDc wi g tt tk tv (own.map (·.2))) (gName i)) := by
  refine ⟨fun pins s σ H D I h => ?_⟩
  rw [exec_Assign_Name_used _ _ _ _ hsw]
  refine wpAny_bind (wpAny_standAt (wpAny_bind ?_))
  show wpAny _ X.A (do let _ ← comprehension (.DictComp kx vx [⟨tg, iter, ifs, 0⟩] scope pos) scope X.env (firstIterPos [⟨tg, iter, ifs, 0⟩] pos) newDict false (eval iter X.env) (some (assign (.Name y py) X.env))) _ _ s
  have h : tDc wi g tt tk tv (own.map (·.2)) σ H (fun x H1 => gName i x σ H1 D.nx) := h
  refine wpAny_bind (thn (dc_core (Qf := fun _ s' => SP X pins D .next s') hc hN I hi ok hg ht hk he hs h fun L C s' m H' I' q hn f => ?_) fun _ s' hq => wpAny_pure (wpAny_pure hq))
  show wpAny _ _ (assign (.Name y py) X.env (.ref L)) _ _ _
  refine wpAny_assign_Name (store_ok2 (v := V.ref L) I' hN hy (.inl hyl) rfl (fun s2 I2 ⟨a, sb, ha⟩ => ?_) (.inr hyl))
  obtain ⟨f0, f1, f2, f3, f4, f5⟩ := f
  have haC : C ≠ a := by
    rcases ha with z | z
    · rw [z]; exact f1
    · exact fun e => f4 y a z e.symm
  refine ⟨m, hn.sameBut sb haC, fun h3 sb3 => ?_⟩
  exact ⟨_, H', I2.turned (t' := s2.toks) (fun b o hb e => (sb3.2 b hb).trans e) f0 f1 f3 f4 f5, q⟩
theorem sw_trueD {kx vx : Expr} {gs : List Comprehension} {scope : Scope} {pos py : Pos} {y : Str} {l : Nat} {env : Env} (hk : env.scope.kind = .function) (hy : env.scope.names.lookup y = some .local) (hl : (py.line == pos.line) = true)
    (ha : (scope.names.any fun (n, k) => n == y && (k == .local || k == .cell)) = false) : swapsWith (.DictComp kx vx gs scope pos) (some (.Name y py)) l env = pure true := by
  have ky : env.kindOf y = some .local := hy
  have hb : env.blockKind = .function := by unfold Env.blockKind; rw [hk]; rfl
  unfold swapsWith
  simp only [hb, ky, ha, Expr.pos, hl]
  rfl
end
/-- the dict of places -/
def dkL : Nat → List Int → List (Key × V)
  | _, [] => []
  | m, x :: l => (.inl x, .int ((m : Nat) : Int)) :: dkL (m + 1) l
theorem dk_len : ∀ {l : List Int} {m : Nat}, (dkL m l).length = l.length
  | [], _ => rfl
  | _ :: l, m => by unfold dkL; rw [List.length_cons, List.length_cons, dk_len]
theorem dk_app : ∀ {l : List Int} {m : Nat} {x : Int}, dkL m (l ++ [x]) = dkL m l ++ [(.inl x, .int ((m + l.length : Nat) : Int))]
  | [], m, x => rfl
  | y :: l, m, x => by
    show dkL m (y :: (l ++ [x])) = _
    unfold dkL
    rw [dk_app]
    show _ = _ :: (dkL (m + 1) l ++ _)
    rw [show m + 1 + l.length = m + (y :: l).length by rw [List.length_cons]; omega]
theorem dk_mem : ∀ {l : List Int} {m : Nat} {kv : Key × V}, kv ∈ dkL m l → ∃ x ∈ l, kv.1 = .inl x
  | y :: l, m, kv, h => by
    unfold dkL at h
    rcases List.mem_cons.mp h with e | h
    · exact ⟨y, by simp, by rw [e]⟩
    · obtain ⟨x, hx, e⟩ := dk_mem h
      exact ⟨x, List.mem_cons_of_mem _ hx, e⟩
theorem dk_put {l : List Int} {x : Int} (no : x ∉ l) : putK (dkL 0 l) (.inl x) (.int ((l.length : Nat) : Int)) = dkL 0 (l ++ [x]) := by
  unfold putK
  rw [if_neg ?_, dk_app, Nat.zero_add]
  rw [List.any_eq_true]
  rintro ⟨kv, hkv, e⟩
  obtain ⟨y, hy, e2⟩ := dk_mem hkv
  have e3 := of_decide_eq_true e
  rw [e2] at e3
  exact no (Sum.inl.inj e3 ▸ hy)
theorem dk_val : ∀ {l : List Int} {m : Nat} {x : Int}, x ∈ l → valV (dkL m l) (.inl x) = some (V.int ((m + l.idxOf x : Nat) : Int))
  | y :: l, m, x, h => by
    unfold dkL
    by_cases c : y = x
    · subst c
      rw [valV_pos rfl]
      simp
    · rw [valV_neg (fun e => c (Sum.inl.inj e))]
      have hx : x ∈ l := (List.mem_cons.mp h).resolve_left fun e => c e.symm
      rw [dk_val hx, List.idxOf_cons, beq_eq_false_iff_ne.mpr c, cond_false, show m + 1 + l.idxOf x = m + (l.idxOf x + 1) by omega]
/-- the places in a lot -/
def idxL (n : Nat) (l : List Int) : List Int := (things n).map fun x => ((l.idxOf x : Nat) : Int)
theorem idx_len {n : Nat} {l : List Int} : (idxL n l).length = n := by unfold idxL; rw [List.length_map, things_len]
theorem idx_nm {n : Nat} {l : List Int} {x : Int} (h : x ∈ things n) : nmL (idxL n l) x = ((l.idxOf x : Nat) : Int) := by
  obtain ⟨h0, h1⟩ := mem_things.mp h
  have e := nm_it (o := idxL n l) h0 (by rw [idx_len]; exact h1)
  have e2 : (idxL n l)[x.toNat]? = some ((l.idxOf x : Nat) : Int) := by
    unfold idxL things
    rw [List.getElem?_map, List.getElem?_map, List.getElem?_range (by omega)]
    show some (((l.idxOf ((x.toNat : Nat) : Int) : Nat)) : Int) = _
    rw [show ((x.toNat : Nat) : Int) = x by omega]
  rw [e] at e2
  exact Option.some.inj e2
theorem idx_inj {l : List Int} {x y : Int} (hx : x ∈ l) (hy : y ∈ l) (e : l.idxOf x = l.idxOf y) : x = y := by
  have h1 := List.getElem_idxOf (List.idxOf_lt_length_of_mem hx)
  have h2 := List.getElem_idxOf (List.idxOf_lt_length_of_mem hy)
  rw [← h1, ← h2]
  congr 1
theorem idx_lt {l : List Int} (up : l.Pairwise (· < ·)) {x y : Int} (hx : x ∈ l) (hy : y ∈ l) (c : x < y) : l.idxOf x < l.idxOf y := by
  have l1 := List.idxOf_lt_length_of_mem hx
  have l2 := List.idxOf_lt_length_of_mem hy
  rcases Nat.lt_or_ge (l.idxOf x) (l.idxOf y) with h | h
  · exact h
  · exfalso
    rcases Nat.eq_or_lt_of_le h with e | h
    · have := idx_inj hx hy e.symm; omega
    · have := (List.pairwise_iff_getElem.mp up) _ _ l2 l1 h
      rw [List.getElem_idxOf l1, List.getElem_idxOf l2] at this
      omega
section
variable {n : Nat} {l : List Int} {as ts : List (Int × Int)}
theorem wi_mem {p : Int × Int} (h : p ∈ withinL as l) : p ∈ as ∧ p.1 ∈ l ∧ p.2 ∈ l := by
  obtain ⟨h1, h2⟩ := List.mem_filter.mp h
  rw [Bool.and_eq_true] at h2
  exact ⟨h1, of_decide_eq_true h2.1, of_decide_eq_true h2.2⟩
theorem cut_rp (lot : Lot n l) {p : Int × Int} (h : p ∈ withinL as l) : rpL (idxL n l) p = (((l.idxOf p.1 : Nat) : Int), ((l.idxOf p.2 : Nat) : Int)) := by
  obtain ⟨_, h1, h2⟩ := wi_mem h
  unfold rpL
  rw [idx_nm (lot.2 _ h1), idx_nm (lot.2 _ h2)]
theorem cut_rt (lot : Lot n l) (lt : ∀ p ∈ as, p.1 < p.2) {p : Int × Int} (h : p ∈ withinL as l) : rtL (idxL n l) p = (((l.idxOf p.1 : Nat) : Int), ((l.idxOf p.2 : Nat) : Int)) := by
  obtain ⟨h0, h1, h2⟩ := wi_mem h
  have c := idx_lt lot.1 h1 h2 (lt p h0)
  unfold rtL
  rw [idx_nm (lot.2 _ h1), idx_nm (lot.2 _ h2)]
  rw [if_neg (by omega), if_pos (by omega)]
theorem cut_prsF (l6 : l.length ≤ 6) (h : Prs n as) (f : Int × Int → Int × Int) (hf : ∀ p ∈ withinL as l, f p = (((l.idxOf p.1 : Nat) : Int), ((l.idxOf p.2 : Nat) : Int))) : Prs l.length ((withinL as l).map f) := by
  refine prs_mk l6 (nd_mapOn (h.1.sublist List.filter_sublist) fun p hp q hq e => ?_) fun q hq => ?_
  · rw [hf p hp, hf q hq] at e
    obtain ⟨_, p1, p2⟩ := wi_mem hp
    obtain ⟨_, q1, q2⟩ := wi_mem hq
    obtain ⟨e1, e2⟩ := Prod.mk.inj e
    exact Prod.ext (idx_inj p1 q1 (by omega)) (idx_inj p2 q2 (by omega))
  · obtain ⟨p, hp, rfl⟩ := List.mem_map.mp hq
    rw [hf p hp]
    obtain ⟨p0, p1, p2⟩ := wi_mem hp
    have m1 := List.idxOf_lt_length_of_mem p1
    have m2 := List.idxOf_lt_length_of_mem p2
    refine ⟨by show (0 : Int) ≤ ((_ : Nat) : Int); omega, by show ((_ : Nat) : Int) < _; omega, by show (0 : Int) ≤ ((_ : Nat) : Int); omega, by show ((_ : Nat) : Int) < _; omega, fun e => (h.2.2 p p0).2.2.2.2 (idx_inj p1 p2 ?_)⟩
    have e' : ((l.idxOf p.1 : Nat) : Int) = ((l.idxOf p.2 : Nat) : Int) := e
    omega
theorem cut_acy (lot : Lot n l) (ac : Acy as) : Acy ((withinL as l).map (rpL (idxL n l))) := by
  obtain ⟨rk, h⟩ := ac
  refine ⟨fun z => rk (l.getD z.toNat 0), fun q hq => ?_⟩
  obtain ⟨p, hp, rfl⟩ := List.mem_map.mp hq
  obtain ⟨p0, p1, p2⟩ := wi_mem hp
  rw [cut_rp lot hp]
  have g : ∀ {x : Int}, x ∈ l → l.getD (((l.idxOf x : Nat) : Int)).toNat 0 = x := fun {x} hx => by
    have l1 := List.idxOf_lt_length_of_mem hx
    rw [show (((l.idxOf x : Nat) : Int)).toNat = l.idxOf x by omega, List.getD_eq_getElem?_getD, List.getElem?_eq_getElem l1, List.getElem_idxOf l1]; rfl
  show rk (l.getD (((l.idxOf p.1 : Nat) : Int)).toNat 0) < rk (l.getD (((l.idxOf p.2 : Nat) : Int)).toNat 0)
  rw [g p1, g p2]
  exact h p p0
theorem cut_ren {as' ts' : List (Int × Int)} (lot : Lot n l) (lt : ∀ p ∈ ts, p.1 < p.2) (ea : as'.Perm ((withinL as l).map (rpL (idxL n l)))) (et : ts'.Perm ((withinL ts l).map (rtL (idxL n l)))) : Ren as ts as' ts' (· ∈ l) (fun x => ((l.idxOf x : Nat) : Int)) := by
  have key : ∀ {f : Int × Int → Int × Int} {ps qs : List (Int × Int)}, qs.Perm ((withinL ps l).map f) → (∀ p ∈ withinL ps l, f p = (((l.idxOf p.1 : Nat) : Int), ((l.idxOf p.2 : Nat) : Int))) → ∀ x y, x ∈ l → y ∈ l → (((((l.idxOf x : Nat) : Int), ((l.idxOf y : Nat) : Int)) : Int × Int) ∈ qs ↔ (x, y) ∈ ps) := by
    intro f ps qs pm hf x y hx hy
    rw [pm.mem_iff, List.mem_map]
    constructor
    · rintro ⟨p, hp, e⟩
      rw [hf p hp] at e
      obtain ⟨p0, p1, p2⟩ := wi_mem hp
      obtain ⟨e1, e2⟩ := Prod.mk.inj e
      rw [← idx_inj p1 hx (by omega), ← idx_inj p2 hy (by omega)]
      exact p0
    · intro h
      have hp : (x, y) ∈ withinL ps l := List.mem_filter.mpr ⟨h, by rw [Bool.and_eq_true]; exact ⟨decide_eq_true hx, decide_eq_true hy⟩⟩
      exact ⟨_, hp, hf _ hp⟩
  exact ⟨fun x y hx hy e => idx_inj hx hy (by have e' : ((l.idxOf x : Nat) : Int) = ((l.idxOf y : Nat) : Int) := e; omega), fun x y hx hy => key ea (fun p hp => cut_rp lot hp) x y hx hy,
    fun x y hx hy => or_congr (key et (fun p hp => cut_rt lot lt hp) x y hx hy) (key et (fun p hp => cut_rt lot lt hp) y x hy hx)⟩
end
end Tk

namespace Tk
open PySem PySem.Spec PyProof.Rows L2
def spWithMore (K : PySem.W.Frag) (C : Addr) : Sp := fun vs H Q _ => ∃ (p a t : Addr) (n : Nat) (as ts ma mt : List (Int × Int)), vs = [.ref p, .ref a, .ref t] ∧ PlanAt K C H p n as ts ∧ PL K H a ma ∧ PL K H t mt ∧
  Prs n ma ∧ Prs n (as ++ ma) ∧ Acy (as ++ ma) ∧ Prs n mt ∧ Prs n (ts ++ mt) ∧ (∀ q ∈ mt, q.1 < q.2) ∧
  ∀ (H' : Hp) (x : Addr) (as' ts' : List (Int × Int)), Same H H' → H x = none → as'.Perm (as ++ ma) → ts'.Perm (ts ++ mt) → PlanAt K C H' x n as' ts' → Q (.ref x) H'
section
variable {P : Program} {w : World} {K : PySem.W.Frag} {mg : Str → Option Value} {base : Heap}
abbrev nWM : List Str := ["plan", "arrows", "ties", "size"]
end
end Tk

namespace Tk
open PySem PySem.Spec PyProof.Rows L2
/-- the names of what is laid behind n things -/
def behL (n n2 : Nat) : List Int := (List.range n2).map fun (i : Nat) => (((n + i : Nat)) : Int)
section
variable {n n2 : Nat} {as ts as2 ts2 : List (Int × Int)}
theorem beh_len : (behL n n2).length = n2 := by unfold behL; rw [List.length_map, List.length_range]
theorem beh_nd : (behL n n2).Nodup := by
  unfold behL
  exact nd_mapOn List.nodup_range fun a _ b _ e => by omega
theorem beh_mem {y : Int} (h : y ∈ behL n n2) : (n : Int) ≤ y ∧ y < ((n + n2 : Nat) : Int) := by
  unfold behL at h
  obtain ⟨i, hi, rfl⟩ := List.mem_map.mp h
  have := List.mem_range.mp hi
  omega
theorem beh_th : ∀ y ∈ behL n n2, y ∈ things (n + n2) := fun y hy => by
  have := beh_mem hy
  exact mem_things.mpr ⟨by omega, this.2⟩
theorem prs_up {k : Nat} (h : Prs n as) (l : n ≤ k) : Prs k as := ⟨h.1, h.2.1, fun p hp => by
  obtain ⟨a, b, c, d, e⟩ := h.2.2 p hp
  exact ⟨a, by omega, c, by omega, e⟩⟩
theorem prs_beside {k : Nat} {ps qs : List (Int × Int)} (k6 : k ≤ 6) (nk : n ≤ k) (hp : Prs k ps) (far : ∀ p ∈ ps, (n : Int) ≤ p.1 ∧ (n : Int) ≤ p.2) (hq : Prs n qs) : Prs k (ps ++ qs) := by
  have hq' := prs_up hq nk
  refine prs_mk k6 ?_ fun p hp' => ?_
  · rw [List.nodup_append]
    refine ⟨hp.1, hq.1, fun a ha b hb e => ?_⟩
    subst e
    have h1 := far a ha
    have h2 := hq.2.2 a hb
    omega
  · rcases List.mem_append.mp hp' with z | z
    · exact hp.2.2 p z
    · exact hq'.2.2 p z
theorem acy_beside {ps qs : List (Int × Int)} (a1 : Acy ps) (far : ∀ p ∈ ps, (n : Int) ≤ p.1 ∧ (n : Int) ≤ p.2) (a2 : Acy qs) (near : ∀ p ∈ qs, p.1 < (n : Int) ∧ p.2 < (n : Int)) : Acy (ps ++ qs) := by
  obtain ⟨r1, h1⟩ := a1
  obtain ⟨r2, h2⟩ := a2
  refine ⟨fun z => if z < (n : Int) then r2 z else r1 z, fun p hp => ?_⟩
  rcases List.mem_append.mp hp with z | z
  · have f := far p z
    simp only [if_neg (show ¬ p.1 < (n : Int) by omega), if_neg (show ¬ p.2 < (n : Int) by omega)]
    exact h1 p z
  · have f := near p z
    simp only [if_pos f.1, if_pos f.2]
    exact h2 p z
theorem far_a (h : Prs n2 as2) : ∀ p ∈ as2.map (rpL (behL n n2)), (n : Int) ≤ p.1 ∧ (n : Int) ≤ p.2 := fun q hq => by
  obtain ⟨p, hp, rfl⟩ := List.mem_map.mp hq
  have rg := rg_of beh_len (n := n2) (o := behL n n2) (h.2.2 p hp)
  exact ⟨(beh_mem (nm_mem rg.1.1 rg.1.2)).1, (beh_mem (nm_mem rg.2.1 rg.2.2)).1⟩
theorem far_t (h : Prs n2 ts2) : ∀ p ∈ ts2.map (rtL (behL n n2)), (n : Int) ≤ p.1 ∧ (n : Int) ≤ p.2 := fun q hq => by
  obtain ⟨p, hp, rfl⟩ := List.mem_map.mp hq
  have rg := rg_of beh_len (n := n2) (o := behL n n2) (h.2.2 p hp)
  have m1 := (beh_mem (nm_mem rg.1.1 rg.1.2)).1
  have m2 := (beh_mem (nm_mem rg.2.1 rg.2.2)).1
  unfold rtL
  constructor
  · show (n : Int) ≤ (if _ then _ else _)
    split <;> assumption
  · show (n : Int) ≤ (if _ then _ else _)
    split <;> assumption
end
theorem pe_weak8 {X : Cx} {e : Expr} {t t' : TE} (h : PE X e t) (wk : ∀ σ H Q, t' σ H Q → t σ H Q) : PE X e t' := ⟨fun pins s σ H Q I g => h.run pins s σ H Q I (wk σ H Q g)⟩
/-- plan.width + thing -/
def tMove (K : PySem.W.Frag) (C : Addr) : TE := fun σ H Q => ∃ (p : Addr) (n : Nat) (as ts : List (Int × Int)) (i : Int), σ[0]? = some (some (.ref p)) ∧ PlanAt K C H p n as ts ∧ σ[5]? = some (some (.int i)) ∧ Q (.int ((n : Int) + i)) H
def spBeside (K : PySem.W.Frag) (C : Addr) : Sp := fun vs H Q _ => ∃ (p r : Addr) (n n2 : Nat) (as ts as2 ts2 : List (Int × Int)), vs = [.ref p, .ref r] ∧ PlanAt K C H p n as ts ∧ PlanAt K C H r n2 as2 ts2 ∧ n + n2 ≤ 6 ∧
  ∀ (H' : Hp) (x : Addr) (as' ts' : List (Int × Int)), Same H H' → H x = none → as'.Perm (as2.map (rpL (behL n n2)) ++ as) → ts'.Perm (ts2.map (rtL (behL n n2)) ++ ts) → PlanAt K C H' x (n + n2) as' ts' → Q (.ref x) H'
section
variable {P : Program} {w : World} {K : PySem.W.Frag} {mg : Str → Option Value} {base : Heap}
abbrev nBeside : List Str := ["plan", "other", "size", "behind", "moved", "thing"]
end
end Tk

namespace Tk
open PySem PySem.Spec PyProof.Rows L2
theorem dget_at {H : Hp} {b : Addr} {kvs : List (Key × V)} {x y : Int} (h : H b = some (.dK kvs)) (e : valV kvs (.inl x) = some (V.int y)) : DGet H b (V.int x) (some (V.int y)) := by
  rw [← e]
  exact DGet.k (k := .inl x) h
def spToldD (K : PySem.W.Frag) (C : Addr) : Sp := fun vs H Q _ => ∃ (b u v : Addr) (n : Nat) (kvs : List (Key × V)) (o : List Int) (as ts : List (Int × Int)), vs = [.int n, .ref b, .ref u, .ref v] ∧ H b = some (.dK kvs) ∧ PL K H u as ∧ PL K H v ts ∧ n ≤ 6 ∧ as.length < 60 ∧ ts.length < 60 ∧
  (∀ p ∈ as, valV kvs (.inl p.1) = some (V.int (nmL o p.1)) ∧ valV kvs (.inl p.2) = some (V.int (nmL o p.2))) ∧ (∀ p ∈ ts, valV kvs (.inl p.1) = some (V.int (nmL o p.1)) ∧ valV kvs (.inl p.2) = some (V.int (nmL o p.2))) ∧
  Prs n (as.map (rpL o)) ∧ Acy (as.map (rpL o)) ∧ Prs n (ts.map (rtL o)) ∧ (∀ q ∈ ts.map (rtL o), q.1 < q.2) ∧
  ∀ (H' : Hp) (x : Addr) (as' ts' : List (Int × Int)), Same H H' → H x = none → as'.Perm (as.map (rpL o)) → ts'.Perm (ts.map (rtL o)) → PlanAt K C H' x n as' ts' → Q (.ref x) H'
def spCut (K : PySem.W.Frag) (C : Addr) : Sp := fun vs H Q _ => ∃ (p b : Addr) (n : Nat) (as ts : List (Int × Int)) (l : List Int), vs = [.ref p, .ref b] ∧ PlanAt K C H p n as ts ∧ SqL K H b (l.map V.int) ∧ Lot n l ∧
  ∀ (H' : Hp) (x : Addr) (as' ts' : List (Int × Int)), Same H H' → H x = none → as'.Perm ((withinL as l).map (rpL (idxL n l))) → ts'.Perm ((withinL ts l).map (rtL (idxL n l))) → PlanAt K C H' x l.length as' ts' → Q (.ref x) H'
section
variable {P : Program} {w : World} {K : PySem.W.Frag} {mg : Str → Option Value} {base : Heap}
abbrev nCut : List Str := ["plan", "lot", "names", "place", "thing"]
end
end Tk

namespace Tk
/-! two plans beside one another -/
section
variable {n n2 : Nat} {as ts as2 ts2 as' ts' : List (Int × Int)}
def Rg (n : Nat) (ps : List (Int × Int)) : Prop := ∀ x y, (x, y) ∈ ps → x ∈ things n ∧ y ∈ things n
/-- ps' holds ps, and qs moved by n -/
def Two (n : Nat) (ps qs ps' : List (Int × Int)) : Prop := ∀ x y : Int, (x, y) ∈ ps' ↔ (x, y) ∈ ps ∨ ∃ u v : Int, (u, v) ∈ qs ∧ x = u + n ∧ y = v + n
structure Bes (n n2 : Nat) (as ts as2 ts2 as' ts' : List (Int × Int)) : Prop where
  a : Two n as as2 as'
  t : Two n ts ts2 ts'
  ra : Rg n as
  rt : Rg n ts
  ra2 : Rg n2 as2
  rt2 : Rg n2 ts2
theorem two_near {k k2 : Nat} {ps qs ps' : List (Int × Int)} (h : Two k ps qs ps') (r : Rg k2 qs) {x y : Int} (hx : x ∈ things k) : (x, y) ∈ ps' ↔ (x, y) ∈ ps := by
  rw [h x y]
  constructor
  · rintro (h | ⟨u, v, g, e, _⟩)
    · exact h
    · have := mem_things.mp (r u v g).1
      have := mem_things.mp hx
      omega
  · exact .inl
theorem two_far {k k2 : Nat} {ps qs ps' : List (Int × Int)} (h : Two k ps qs ps') (r : Rg k ps) {x y : Int} (hx : x ∈ things k2) : (x + k, y + k) ∈ ps' ↔ (x, y) ∈ qs := by
  rw [h (x + k) (y + k)]
  constructor
  · rintro (h | ⟨u, v, g, e, e2⟩)
    · have := mem_things.mp (r _ _ h).1
      have := mem_things.mp hx
      omega
    · rw [show x = u by omega, show y = v by omega]; exact g
  · exact fun g => .inr ⟨x, y, g, rfl, rfl⟩
theorem bes_near (B : Bes n n2 as ts as2 ts2 as' ts') : Ren as ts as' ts' (· ∈ things n) id :=
  ⟨fun _ _ _ _ e => e, fun _ _ hx _ => two_near B.a B.ra2 hx, fun _ _ hx hy => or_congr (two_near B.t B.rt2 hx) (two_near B.t B.rt2 hy)⟩
theorem bes_far (B : Bes n n2 as ts as2 ts2 as' ts') : Ren as2 ts2 as' ts' (· ∈ things n2) (· + (n : Int)) :=
  ⟨fun _ _ _ _ e => by have e' : (_ : Int) + n = _ + n := e; omega, fun _ _ hx _ => two_far B.a B.ra hx, fun _ _ hx hy => or_congr (two_far B.t B.rt hx) (two_far B.t B.rt hy)⟩
theorem tie_side (B : Bes n n2 as ts as2 ts2 as' ts') {l : List Int} {x y : Int} (h : Reach (tieIn ts' l) x y) : (x < (n : Int) ↔ y < (n : Int)) := by
  induction h with
  | refl => exact Iff.rfl
  | @tail u v _ hp ih =>
    rw [ih]
    obtain ⟨h1, _, _⟩ := mem_tieIn.mp hp
    have one : ∀ {u v : Int}, (u, v) ∈ ts' → (u < (n : Int) ↔ v < (n : Int)) := by
      intro u v h
      rcases (B.t u v).mp h with g | ⟨a, b, g, e1, e2⟩
      · have := B.rt _ _ g
        have h1 := mem_things.mp this.1
        have h2 := mem_things.mp this.2
        omega
      · have := B.rt2 _ _ g
        have h1 := mem_things.mp this.1
        have h2 := mem_things.mp this.2
        omega
    rcases h1 with g | g
    · exact one g
    · exact (one g).symm
theorem img_id (l : List Int) : Img id l l := fun z => ⟨fun h => ⟨z, h, rfl⟩, fun ⟨y, h, e⟩ => by rw [e]; exact h⟩
def upL (k : Int) (l : List Int) : List Int := l.map (· + k)
theorem img_up (k : Int) (l : List Int) : Img (· + k) l (upL k l) := fun z => by
  unfold upL
  rw [List.mem_map]
  exact ⟨fun ⟨y, h, e⟩ => ⟨y, h, e.symm⟩, fun ⟨y, h, e⟩ => ⟨y, h, e.symm⟩⟩
theorem up_lot {l : List Int} (h : Lot n2 l) : Lot (n + n2) (upL (n : Int) l) := by
  refine ⟨?_, fun z hz => ?_⟩
  · unfold upL
    rw [List.pairwise_map]
    exact List.Pairwise.imp (fun {a b} c => by show a + (n : Int) < b + n; omega) h.1
  · unfold upL at hz
    obtain ⟨y, hy, rfl⟩ := List.mem_map.mp hz
    have := mem_things.mp (h.2 y hy)
    exact mem_things.mpr ⟨by omega, by omega⟩
theorem lot_wide {l : List Int} (h : Lot n l) : Lot (n + n2) l := ⟨h.1, fun z hz => by have := mem_things.mp (h.2 z hz); exact mem_things.mpr ⟨by omega, by omega⟩⟩
theorem bes_bar (B : Bes n n2 as ts as2 ts2 as' ts') {o : List Int} : Bar (n + n2) as' ts' o ↔ Bar n as ts o ∨ ∃ o2, Bar n2 as2 ts2 o2 ∧ o = upL (n : Int) o2 := by
  constructor
  · intro b
    obtain ⟨x, g⟩ := bar_good b
    by_cases c : x < (n : Int)
    · refine .inl ?_
      have near : ∀ y ∈ o, y ∈ things n := fun y hy => by
        have := (tie_side B (g.tie y hy)).mp c
        have h0 := mem_things.mp (b.lot.2 y hy)
        exact mem_things.mpr ⟨h0.1, this⟩
      exact (bar_ren (bes_near B) near (img_id o) ⟨b.lot.1, near⟩ b.lot).mp b
    · refine .inr ⟨o.map (· - (n : Int)), ?_, ?_⟩
      · have far : ∀ y ∈ o, (n : Int) ≤ y ∧ y < ((n + n2 : Nat) : Int) := fun y hy => by
          have := (tie_side B (g.tie y hy))
          have h0 := mem_things.mp (b.lot.2 y hy)
          omega
        have lo : Lot n2 (o.map (· - (n : Int))) := by
          refine ⟨?_, fun z hz => ?_⟩
          · rw [List.pairwise_map]
            exact List.Pairwise.imp (fun {a b} c => by show a - (n : Int) < b - n; omega) b.lot.1
          · obtain ⟨y, hy, rfl⟩ := List.mem_map.mp hz
            have := far y hy
            exact mem_things.mpr ⟨by omega, by omega⟩
        refine (bar_ren (bes_far B) lo.2 ?_ lo b.lot).mp b
        intro z
        constructor
        · exact fun h => ⟨z - n, List.mem_map.mpr ⟨z, h, rfl⟩, by show z = z - n + n; omega⟩
        · rintro ⟨y, hy, e⟩
          obtain ⟨w, hw, rfl⟩ := List.mem_map.mp hy
          rw [e, show (fun x : Int => x + (n : Int)) (w - n) = w from Int.sub_add_cancel w n]; exact hw
      · unfold upL
        rw [List.map_map]
        conv => lhs; rw [← List.map_id o]
        refine List.map_congr_left fun a _ => ?_
        show a = a - (n : Int) + n
        omega
  · rintro (b | ⟨o2, b, rfl⟩)
    · exact (bar_ren (bes_near B) b.lot.2 (img_id o) b.lot (lot_wide b.lot)).mpr b
    · exact (bar_ren (bes_far B) b.lot.2 (img_up n o2) b.lot (up_lot b.lot)).mpr b
theorem bes_plain (B : Bes n n2 as ts as2 ts2 as' ts') : PlainP (n + n2) as' ts' ↔ PlainP n as ts ∧ PlainP n2 as2 ts2 := by
  rw [plain_bars, plain_bars, plain_bars]
  constructor
  · exact fun h => ⟨fun l b => h l ((bes_bar B).mpr (.inl b)), fun l b => h _ ((bes_bar B).mpr (.inr ⟨l, b, rfl⟩))⟩
  · rintro ⟨h1, h2⟩ l b
    rcases (bes_bar B).mp b with c | ⟨o2, c, _⟩
    · exact h1 l c
    · exact h2 o2 c
theorem bes_hang (B : Bes n n2 as ts as2 ts2 as' ts') {x y : Int} (hx : x ∈ things n) (hy : 0 ≤ y) : hangB ts' [x, (n : Int) + y] = false := by
  rw [← Bool.not_eq_true, hang_iff (x := x) (by simp)]
  intro h
  have := tie_side B (h ((n : Int) + y) (by simp))
  have := mem_things.mp hx
  omega
theorem bes_acy (B : Bes n n2 as ts as2 ts2 as' ts') (a1 : Acy as) (a2 : Acy as2) : Acy as' := by
  obtain ⟨r1, h1⟩ := a1
  obtain ⟨r2, h2⟩ := a2
  refine ⟨fun z => if z < (n : Int) then r1 z else r2 (z - n), fun p hp => ?_⟩
  obtain ⟨x, y⟩ := p
  show (if x < (n : Int) then r1 x else r2 (x - n)) < (if y < (n : Int) then r1 y else r2 (y - n))
  rcases (B.a x y).mp hp with g | ⟨u, v, g, rfl, rfl⟩
  · have := B.ra _ _ g
    have k1 := mem_things.mp this.1
    have k2 := mem_things.mp this.2
    rw [if_pos k1.2, if_pos k2.2]
    exact h1 (x, y) g
  · have := B.ra2 _ _ g
    have k1 := mem_things.mp this.1
    have k2 := mem_things.mp this.2
    rw [if_neg (by omega), if_neg (by omega), show u + (n : Int) - n = u by omega, show v + (n : Int) - n = v by omega]
    exact h2 (u, v) g
theorem acy_in {ps qs : List (Int × Int)} (h : Acy qs) (s : ∀ p ∈ ps, p ∈ qs) : Acy ps := let ⟨r, g⟩ := h; ⟨r, fun p hp => g p (s p hp)⟩
theorem two_put {ps qs ps' : List (Int × Int)} (h : Two n ps qs ps') (p : Int × Int) : Two n (ps ++ [p]) qs (ps' ++ [p]) := fun x y => by
  rw [List.mem_append, List.mem_append, List.mem_singleton, h x y]
  constructor
  · rintro ((h | h) | h)
    · exact .inl (.inl h)
    · exact .inr h
    · exact .inl (.inr h)
  · rintro ((h | h) | h)
    · exact .inl (.inl h)
    · exact .inr h
    · exact .inl (.inr h)
theorem rg_put {k : Nat} {ps : List (Int × Int)} {p : Int × Int} (h : Rg k ps) (g : p.1 ∈ things k ∧ p.2 ∈ things k) : Rg k (ps ++ [p]) := fun x y hp => by
  rcases List.mem_append.mp hp with e | e
  · exact h x y e
  · have := List.mem_singleton.mp e
    rw [← this] at g
    exact g
theorem bes_putA (B : Bes n n2 as ts as2 ts2 as' ts') {p : Int × Int} (g : p.1 ∈ things n ∧ p.2 ∈ things n) : Bes n n2 (as ++ [p]) ts as2 ts2 (as' ++ [p]) ts' :=
  ⟨two_put B.a p, B.t, rg_put B.ra g, B.rt, B.ra2, B.rt2⟩
theorem bes_putT (B : Bes n n2 as ts as2 ts2 as' ts') {p : Int × Int} (g : p.1 ∈ things n ∧ p.2 ∈ things n) : Bes n n2 as (ts ++ [p]) as2 ts2 as' (ts' ++ [p]) :=
  ⟨B.a, two_put B.t p, B.ra, rg_put B.rt g, B.ra2, B.rt2⟩
theorem mem_headsL {as : List (Int × Int)} {l : List Int} {x : Int} : x ∈ headsL as l ↔ x ∈ l ∧ IsHead as l x := by
  unfold headsL
  rw [List.mem_filter, headB_iff]
theorem len_one {l : List Int} {x : Int} (h : l.length ≤ 1) (hx : x ∈ l) : l = [x] := by
  match l, h, hx with
  | [y], _, hx => rw [List.mem_singleton.mp hx]
theorem top_ren {S : Int → Prop} {f : Int → Int} {l l' : List Int} (R : Ren as ts as' ts' S f) (sl : ∀ y ∈ l, S y) (h : Img f l l') (ac : Acy as) (ac' : Acy as') (nd : l.Nodup) (nd' : l'.Nodup) : headsL as' l' = (headsL as l).map f := by
  have one := heads_one ac nd
  have one' := heads_one ac' nd'
  cases e : headsL as l with
  | nil =>
    cases e' : headsL as' l' with
    | nil => rfl
    | cons z t =>
      obtain ⟨hz, g⟩ := mem_headsL.mp (show z ∈ headsL as' l' by rw [e']; simp)
      obtain ⟨y, hy, rfl⟩ := (h z).mp hz
      have := mem_headsL.mpr ⟨hy, (head_ren R sl h hy).mp g⟩
      rw [e] at this
      cases this
  | cons x t =>
    have hx : x ∈ headsL as l := by rw [e]; simp
    have e2 := len_one one hx
    rw [e] at e2
    rw [e2]
    obtain ⟨h1, h2⟩ := mem_headsL.mp hx
    exact len_one one' (mem_headsL.mpr ⟨(h (f x)).mpr ⟨x, h1, rfl⟩, (head_ren R sl h h1).mpr h2⟩)
end
end Tk

namespace Tk
open PySem PySem.Spec PyProof.Rows L2
section
variable {P : Program} {w : World} {K : PySem.W.Frag} {mg : Str → Option Value} {base : Heap}
abbrev nHead : List Str := ["plan", "lot", "against", "thing"]
theorem heads_at {as : List (Int × Int)} {l : List Int} {k : Nat} {x : Int} (hx : l[k]? = some x) (none : ∀ y ∈ l.take k, headB as l y = false) (h : headB as l x = true) : topV (headsL as l) = .int x := by
  have hk := lt_of_at hx
  have e : l = l.take k ++ x :: l.drop (k + 1) := by
    have e1 := (List.take_append_drop k l).symm
    have e2 : l.drop k = x :: l.drop (k + 1) := by
      rw [List.drop_eq_getElem_cons hk]
      rw [List.getElem?_eq_getElem hk] at hx
      rw [Option.some.inj hx]
    rw [e2] at e1
    exact e1
  have f1 : (l.take k).filter (headB as l) = [] := List.filter_eq_nil_iff.mpr fun y hy => by rw [none y hy]; simp
  unfold headsL
  have : l.filter (headB as l) = (l.take k ++ x :: l.drop (k + 1)).filter (headB as l) := congrArg (List.filter (headB as l)) e
  rw [this, List.filter_append, f1, List.filter_cons_of_pos h]
  rfl
theorem heads_none {as : List (Int × Int)} {l : List Int} (none : ∀ y ∈ l, headB as l y = false) : topV (headsL as l) = .non := by
  unfold headsL
  rw [List.filter_eq_nil_iff.mpr fun y hy => by rw [none y hy]; simp]
  rfl
abbrev nHangs : List Str := ["plan", "lot", "bonds"]
end
end Tk

namespace Tk
open PySem PySem.Spec PyProof.Rows L2
def spIsBarred (K : PySem.W.Frag) (C : Addr) : Sp := fun vs H Q _ => ∃ (p : Addr) (n : Nat) (as ts : List (Int × Int)) (v : V) (o : Option (List (Option Int))), vs = [.ref p, v] ∧ PlanAt K C H p n as ts ∧ LotV K H v o ∧
  ∀ (H' : Hp) (b : Bool), Same H H' → (b = true ↔ ∃ l, o = some (l.map some) ∧ Bar n as ts l) → Q (.bl b) H'
section
variable {P : Program} {w : World} {K : PySem.W.Frag} {mg : Str → Option Value} {base : Heap}
theorem top_non {l : List Int} : decide (topV l = V.non) = decide (l = []) := by
  cases l with
  | nil => simp [topV]
  | cons x l => simp [topV]
end
end Tk

namespace Tk
open PySem PySem.Spec PyProof.Rows L2
/-- what the rule of repr asks of data -/
structure RepOk (d : PyData) : Prop where
  sh : d.showable = true
  nd : d.hasDict = false
  dp : d.depth ≤ 50
  sz : d.shown.length ≤ sizeLine
theorem log2_lt {k : Nat} (h : k < 10 ^ 12) : k.log2 < 40 := by
  by_cases h0 : k = 0
  · subst h0; decide
  · have := (Nat.log2_lt h0 (k := 40)).mpr (Nat.lt_of_lt_of_le h (by decide))
    exact this
theorem ints_facts : ∀ {ns : List Int}, (∀ n ∈ ns, n.natAbs < 10 ^ 12) → PyData.showableAll (ns.map .int) = true ∧ PyData.hasDictAll (ns.map .int) = false ∧ PyData.depthAll (ns.map .int) = 0 ∧ PyData.canLayAll0 (ns.map .int) = true ∧ PyData.weightAll (ns.map .int) ≤ 42 * ns.length
  | [], _ => ⟨by simp [PyData.showableAll], by simp [PyData.hasDictAll], by simp [PyData.depthAll], by simp [PyData.canLayAll0], by simp [PyData.weightAll]⟩
  | n :: ns, h => by
    obtain ⟨a, b, c, d, e⟩ := ints_facts (ns := ns) fun m hm => h m (List.mem_cons_of_mem _ hm)
    have hn := log2_lt (h n (List.mem_cons_self ..))
    refine ⟨?_, ?_, ?_, ?_, ?_⟩
    · simp only [List.map_cons, PyData.showableAll, PyData.showable, a, Bool.and_true, decide_eq_true_eq]; omega
    · simp only [List.map_cons, PyData.hasDictAll, PyData.hasDict, b, Bool.or_false]
    · simp only [List.map_cons, PyData.depthAll, PyData.depth, c, Nat.max_self]
    · simp only [List.map_cons, PyData.canLayAll0, PyData.canLay0, d, Bool.and_true]
    · simp only [List.map_cons, PyData.weightAll, PyData.weight, List.length_cons]
      split <;> omega
theorem rep_ints {ns : List Int} (h : ∀ n ∈ ns, n.natAbs < 10 ^ 12) (hl : ns.length ≤ 1000) : RepOk (.list (ns.map .int)) := by
  obtain ⟨a, b, c, d, e⟩ := ints_facts h
  refine ⟨by simp only [PyData.showable]; exact a, by simp only [PyData.hasDict]; exact b, by simp only [PyData.depth]; omega, ?_⟩
  refine PyData.shown_fits (B := 13) (by decide) (by decide) ?_ ?_
  · simp only [PyData.leavesShort]
    exact PyData.leavesShortAll_of_canLay0 13 _ d (PyData.intsShortAll_ints ns h)
  · simp only [PyData.weight]; omega
theorem bools_facts : ∀ (bs : List Bool), PyData.showableAll (bs.map .bool) = true ∧ PyData.hasDictAll (bs.map .bool) = false ∧ PyData.depthAll (bs.map .bool) = 0 ∧ PyData.canLayAll0 (bs.map .bool) = true ∧ PyData.weightAll (bs.map .bool) ≤ 42 * bs.length
  | [] => ⟨by simp [PyData.showableAll], by simp [PyData.hasDictAll], by simp [PyData.depthAll], by simp [PyData.canLayAll0], by simp [PyData.weightAll]⟩
  | n :: ns => by
    obtain ⟨a, b, c, d, e⟩ := bools_facts ns
    refine ⟨?_, ?_, ?_, ?_, ?_⟩
    · simp only [List.map_cons, PyData.showableAll, PyData.showable, a, Bool.and_true]
    · simp only [List.map_cons, PyData.hasDictAll, PyData.hasDict, b, Bool.or_false]
    · simp only [List.map_cons, PyData.depthAll, PyData.depth, c, Nat.max_self]
    · simp only [List.map_cons, PyData.canLayAll0, PyData.canLay0, d, Bool.and_true]
    · simp only [List.map_cons, PyData.weightAll, PyData.weight, List.length_cons]
      omega
theorem rep_bools {bs : List Bool} (hl : bs.length ≤ 1000) : RepOk (.list (bs.map .bool)) := by
  obtain ⟨a, b, c, d, e⟩ := bools_facts bs
  refine ⟨by simp only [PyData.showable]; exact a, by simp only [PyData.hasDict]; exact b, by simp only [PyData.depth]; omega, ?_⟩
  refine PyData.shown_fits (B := 13) (by decide) (by decide) ?_ ?_
  · simp only [PyData.leavesShort]
    exact PyData.leavesShortAll_of_canLay0 13 _ d (PyData.intsShortAll_bools 13 bs)
  · simp only [PyData.weight]; omega

/-! ## calls with keywords alone, named in the parameters' order from behind -/
def tKwR (m : Nat) (sp : Sp) (t : L2.TA) : TE := fun σ H Q => t σ H fun zs H1 => zs.length = m ∧ sp zs.reverse H1 Q E0
section
variable {X : Cx} {k : Nat} {f : Addr} {fd : FuncData} {ps ks : List Str} {sp : Sp} {x : Str} {p pos : Pos} {kws : List Keyword} {t : L2.TA}
theorem vals_app {xs ys : List V} {us ws : List Value} (h : Vals xs us) (g : Vals ys ws) : Vals (xs ++ ys) (us ++ ws) := h.append g
theorem vals_rev : ∀ {xs : List V} {us : List Value}, Vals xs us → Vals xs.reverse us.reverse
  | _, _, .nil => .nil
  | _, _, .cons r t => by
    rw [List.reverse_cons, List.reverse_cons]
    exact (vals_rev t).append (.cons r .nil)
theorem pe_kwR (F : FnOk X.prog X.w X.K X.mg X.base CX0 k f fd ps sp) (hr : Room k X.A) (hg : Gl X x) (hm : X.mg x = some (.ref f)) (hk : PySem.W.keepIn X.K (.ref f) = true)
    (hb : ∀ (s : Shared) (ws : List Value), ws.length = ks.length → BindsTo s fd ⟨[], ks.zip ws⟩ (ps.zip ws.reverse))
    (hkw : PK X kws t) (hall : (backToKw pos (keywordEach kws X.env)).all (·.1.isSome) = true := by rfl) (hks : (backToKw pos (keywordEach kws X.env)).filterMap (·.1) = ks := by rfl) (hdb : (x == ("__debug__" : Str)) = false := by decide)
    (hpl : ((backTo pos (starEach [] X.env)).any (·.1) || (backToKw pos (keywordEach kws X.env)).any (·.1.isNone)) = false := by rfl) :
    PE X (.Call (.Name x p) [] kws pos) (tKwR ks.length sp t) := by
  constructor
  intro pins s σ H Q I h
  apply wpAny_Call_Name_kw
  apply ld_glob I hg hm _ hdb
  refine PySem.W.callWith_KW0 (h₀ := X.base) I.ok.mod.kin hk hall (thn (hkw.run pos pins s σ H _ I h) ?_) hpl
  rintro ws s1 ⟨zs, H1, I1, rv, lz, q⟩
  refine ⟨I1.kIn, ?_⟩
  rw [hks]
  have lw : ws.length = ks.length := by rw [← rv.length]; exact lz
  apply wpAny_call
  refine codeAny_mono (F.run X.A X.stack s1 H1 ⟨[], ks.zip ws⟩ ws.reverse zs.reverse Q E0 hr I1.env0 (hb s1 ws lw) (vals_rev rv) q) ?_
  intro r s' hq
  cases r with
  | error er => exact hq.elim
  | ok fl =>
    cases fl with
    | ret u => exact I1.after hq
    | next => exact hq.elim
    | brk => exact hq.elim
    | cont => exact hq.elim
end
end Tk
namespace Tk
open PySem
structure GoodD (d : PyData) (k W : Nat) : Prop where
  sh : d.showable = true
  nd : d.hasDict = false
  dp : d.depth ≤ k
  cl : d.canLay0 = true
  ish : d.intsShort 13 = true
  wt : d.weight ≤ W
structure GoodA (ds : List PyData) (k W : Nat) : Prop where
  sh : PyData.showableAll ds = true
  nd : PyData.hasDictAll ds = false
  dp : PyData.depthAll ds ≤ k
  cl : PyData.canLayAll0 ds = true
  ish : PyData.intsShortAll 13 ds = true
  wt : PyData.weightAll ds ≤ W
theorem goodA_ints {ns : List Int} (h : ∀ n ∈ ns, n.natAbs < 10 ^ 12) : GoodA (ns.map .int) 0 (42 * ns.length) := by
  obtain ⟨a, b, c, d, e⟩ := ints_facts h
  exact ⟨a, b, by omega, d, PyData.intsShortAll_ints ns h, e⟩
theorem goodD_list {ds : List PyData} {k W : Nat} (g : GoodA ds k W) : GoodD (.list ds) (k + 1) (W + 64) := by
  refine ⟨by simp only [PyData.showable]; exact g.sh, by simp only [PyData.hasDict]; exact g.nd, ?_, by simp only [PyData.canLay0]; exact g.cl, by simp only [PyData.intsShort]; exact g.ish, ?_⟩
  · have := g.dp
    simp only [PyData.depth]; omega
  · have := g.wt
    simp only [PyData.weight]; omega
theorem goodA_nil {k : Nat} : GoodA [] k 64 := ⟨by simp [PyData.showableAll], by simp [PyData.hasDictAll], by simp [PyData.depthAll], by simp [PyData.canLayAll0], by simp [PyData.intsShortAll], by simp [PyData.weightAll]⟩
theorem goodA_cons {d : PyData} {ds : List PyData} {k W1 W2 : Nat} (g : GoodD d k W1) (h : GoodA ds k W2) : GoodA (d :: ds) k (W1 + W2 + 64) := by
  refine ⟨?_, ?_, ?_, ?_, ?_, ?_⟩
  · simp only [PyData.showableAll, g.sh, h.sh]; rfl
  · simp only [PyData.hasDictAll, g.nd, h.nd]; rfl
  · have a := g.dp
    have b := h.dp
    simp only [PyData.depthAll]; omega
  · simp only [PyData.canLayAll0, g.cl, h.cl]; rfl
  · simp only [PyData.intsShortAll, g.ish, h.ish]; rfl
  · have a := g.wt
    have b := h.wt
    simp only [PyData.weightAll]; omega
theorem goodD_rep {d : PyData} {k W : Nat} (g : GoodD d k W) (hk : k ≤ 50) (hW : W ≤ 100000) : RepOk d :=
  ⟨g.sh, g.nd, Nat.le_trans g.dp hk, PyData.shown_fits (B := 13) (by decide) (by decide) (PyData.leavesShort_of_canLay0 13 d g.cl g.ish) (by have := g.wt; omega)⟩
theorem goodD_mono {d : PyData} {k W W' : Nat} (g : GoodD d k W) (h : W ≤ W') : GoodD d k W' := ⟨g.sh, g.nd, g.dp, g.cl, g.ish, Nat.le_trans g.wt h⟩
/-- short lists of small ints -/
theorem goodA_rows : ∀ {os : List (List Int)}, (∀ o ∈ os, o.length ≤ 6 ∧ ∀ x ∈ o, x.natAbs < 10 ^ 12) → GoodA (os.map fun o => PyData.list (o.map .int)) 1 (400 * os.length + 64)
  | [], _ => goodA_nil
  | o :: os, h => by
    have ho := h o (List.mem_cons_self ..)
    have g1 : GoodD (.list (o.map .int)) 1 316 := goodD_mono (goodD_list (goodA_ints ho.2)) (by have := ho.1; omega)
    have g2 := goodA_rows (os := os) fun p hp => h p (List.mem_cons_of_mem _ hp)
    have g := goodA_cons g1 g2
    refine ⟨g.sh, g.nd, g.dp, g.cl, g.ish, Nat.le_trans g.wt ?_⟩
    rw [List.length_cons]
    omega
theorem rows_rep {os : List (List Int)} (h : ∀ o ∈ os, o.length ≤ 6 ∧ ∀ x ∈ o, x.natAbs < 10 ^ 12) (hl : os.length ≤ 6) : GoodD (.list (os.map fun o => PyData.list (o.map .int))) 2 3000 := goodD_mono (goodD_list (goodA_rows h)) (by omega)
end Tk

namespace Tk
open PySem PySem.Spec PyProof.Rows L2
theorem reach_sub {ps qs : List (Int × Int)} {a b : Int} (s : ∀ p ∈ ps, p ∈ qs) (h : Reach ps a b) : Reach qs a b := by
  induction h with
  | refl => exact .refl
  | tail _ hp ih => exact .tail ih (s _ hp)
theorem heads_congr {as as' : List (Int × Int)} {l : List Int} (e : as'.Perm as) : headsL as' l = headsL as l := by
  unfold headsL
  refine List.filter_congr fun x _ => ?_
  rw [Bool.eq_iff_iff, headB_iff, headB_iff]
  unfold IsHead
  constructor
  · exact fun h y hy => reach_sub (fun ⟨u, v⟩ hp => by rw [mem_upIn] at hp ⊢; exact ⟨e.mem_iff.mp hp.1, hp.2⟩) (h y hy)
  · exact fun h y hy => reach_sub (fun ⟨u, v⟩ hp => by rw [mem_upIn] at hp ⊢; exact ⟨e.mem_iff.mpr hp.1, hp.2⟩) (h y hy)
theorem hang_congr {ts ts' : List (Int × Int)} {l : List Int} (e : ts'.Perm ts) : hangB ts' l = hangB ts l := by
  rw [Bool.eq_iff_iff, hangB_iff, hangB_iff]
  cases l with
  | nil => exact Iff.rfl
  | cons x l =>
    constructor
    · exact fun h y hy => reach_sub (fun ⟨u, v⟩ hp => by rw [mem_tieIn] at hp ⊢; rw [e.mem_iff, e.mem_iff] at hp; exact hp) (h y hy)
    · exact fun h y hy => reach_sub (fun ⟨u, v⟩ hp => by rw [mem_tieIn] at hp ⊢; rw [e.mem_iff, e.mem_iff]; exact hp) (h y hy)
theorem pl_x {K : PySem.W.Frag} {a l : Addr} {H H' : Hp} {ps : List (Int × Int)} (h : PL K H l ps) (pa : Pot H a) (e : SmX a H H') : PL K H' l ps := by
  obtain ⟨x, y, ha, _⟩ := id pa
  obtain ⟨xs, g1, g2⟩ := h
  refine ⟨xs, ?_, dps_x g2 pa e⟩
  rcases g1 with (g | ⟨o, g⟩) | g
  · by_cases c : l = a
    · subst c
      rw [ha] at g
      cases g
      cases ps with
      | nil => cases g2
      | cons z zs =>
        cases g2 with
        | cons k1 _ =>
          obtain ⟨t, q, _⟩ := dP_inv k1
          cases q
    · exact .inl (.inl (e _ _ c g))
  · exact .inl (.inr ⟨o, e _ _ (fun c => by rw [c, ha] at g; cases g) g⟩)
  · exact .inr g
theorem str_eq {d e : PyData} (h : d = e) : V.bl (decide (V.str d.shown = V.str e.shown)) = V.bl true := by subst h; simp
theorem str_ne {d e : PyData} (h : d = e) : V.bl (!decide (V.str d.shown = V.str e.shown)) = V.bl false := by subst h; simp
/-- the data of the first of a list, or None -/
def topD : List Int → PyData
  | [] => .none
  | x :: _ => .int x
theorem dp_top {K : PySem.W.Frag} {H : Hp} : ∀ (l : List Int), Dp K H (topV l) (topD l)
  | [] => .non
  | x :: _ => .int x
theorem goodD_none : GoodD .none 0 64 := ⟨by simp [PyData.showable], by simp [PyData.hasDict], by simp [PyData.depth], by simp [PyData.canLay0], by simp [PyData.intsShort], by simp [PyData.weight]⟩
theorem goodD_int {x : Int} (h : x.natAbs < 10 ^ 12) : GoodD (.int x) 0 64 := by
  have g := goodA_ints (ns := [x]) fun y hy => by rw [List.mem_singleton.mp hy]; exact h
  refine ⟨?_, by simp [PyData.hasDict], by simp [PyData.depth], by simp [PyData.canLay0], ?_, ?_⟩
  · have := g.sh
    simpa [PyData.showableAll] using this
  · have := g.ish
    simpa [PyData.intsShortAll] using this
  · have := g.wt
    simp only [List.map_cons, List.map_nil, PyData.weightAll, List.length_cons, List.length_nil] at this
    omega
theorem top_rep {l : List Int} (h : ∀ x ∈ l, x.natAbs < 10 ^ 12) : RepOk (.list [topD l, topD l]) := by
  have g : GoodD (topD l) 0 64 := by
    cases l with
    | nil => exact goodD_none
    | cons x l => exact goodD_int (h x (List.mem_cons_self ..))
  exact goodD_rep (goodD_list (goodA_cons g (goodA_cons g goodA_nil))) (by decide) (by decide)
theorem rep_tup {ns : List Int} (h : ∀ n ∈ ns, n.natAbs < 10 ^ 12) (hl : ns.length ≤ 1000) : RepOk (.tuple (ns.map .int)) := by
  obtain ⟨a, b, c, d, e⟩ := ints_facts h
  refine ⟨by simp only [PyData.showable]; exact a, by simp only [PyData.hasDict]; exact b, by simp only [PyData.depth]; omega, ?_⟩
  refine PyData.shown_fits (B := 13) (by decide) (by decide) ?_ ?_
  · simp only [PyData.leavesShort]
    exact PyData.leavesShortAll_of_canLay0 13 _ d (PyData.intsShortAll_ints ns h)
  · simp only [PyData.weight]; omega
/-- what is given stands as a tuple or as a list -/
def GivenAt (K : PySem.W.Frag) (H : Hp) (g : Addr) (l : List Int) (d : PyData) : Prop := (SqT K H g (l.map V.int) ∧ d = .tuple (l.map .int)) ∨ (SqL K H g (l.map V.int) ∧ d = .list (l.map .int))
theorem given_s {K : PySem.W.Frag} {H H' : Hp} {g : Addr} {l : List Int} {d : PyData} (h : GivenAt K H g l d) (e : Same H H') : GivenAt K H' g l d :=
  h.elim (fun z => .inl ⟨same_t e z.1, z.2⟩) (fun z => .inr ⟨same_l e z.1, z.2⟩)
theorem given_a {K : PySem.W.Frag} {H : Hp} {g : Addr} {l : List Int} {d : PyData} (h : GivenAt K H g l d) : SqA K H g (l.map V.int) := h.elim (fun z => .inr z.1) (fun z => .inl z.1)
theorem given_d {K : PySem.W.Frag} {H : Hp} {g : Addr} {l : List Int} {d : PyData} (h : GivenAt K H g l d) : Dp K H (.ref g) d := by
  rcases h with ⟨h, rfl⟩ | ⟨h, rfl⟩
  · exact .tup h (dps_ints l)
  · exact .lst h (dps_ints l)
theorem given_rep {K : PySem.W.Frag} {H : Hp} {g : Addr} {l : List Int} {d : PyData} (h : GivenAt K H g l d) (sm : ∀ n ∈ l, n.natAbs < 10 ^ 12) (hl : l.length ≤ 1000) : RepOk d := by
  rcases h with ⟨h, rfl⟩ | ⟨h, rfl⟩
  · exact rep_tup sm hl
  · exact rep_ints sm hl
theorem lot_small {n : Nat} {l : List Int} (h : Lot n l) (n6 : n ≤ 6) : ∀ x ∈ l, x.natAbs < 10 ^ 12 := fun x hx => by
  have := mem_things.mp (h.2 x hx)
  have : (10 : Nat) ^ 12 = 1000000000000 := by decide
  omega
/-! which of the bent lots are lots -/
def LotY (n : Nat) (o : Option (List (Option Int))) (b : Bool) : Prop := b = true ↔ ∃ l, LotO n o l
theorem loty_rev {n : Nat} {l : List Int} (h : Lot n l) : LotY n (some (l.reverse.map some)) (decide (l.length < 2)) := by
  unfold LotY
  rw [decide_eq_true_eq]
  constructor
  · intro hl
    refine ⟨l, ?_, h⟩
    match l, hl with
    | [], _ => rfl
    | [x], _ => rfl
  · rintro ⟨m, e, hm⟩
    have e' := some_inj (Option.some.inj e)
    subst e'
    match l, h, hm with
    | [], _, _ => simp
    | [x], _, _ => simp
    | x :: y :: l, h, hm =>
      have h1 := (List.pairwise_cons.mp h.1).1 y (by simp)
      have h2 := List.pairwise_reverse.mp hm.1
      have h3 := (List.pairwise_cons.mp h2).1 y (by simp)
      omega
theorem loty_dup {n : Nat} {l : List Int} (h : Lot n l) : LotY n (some ((l ++ l.take 1).map some)) (decide (l = [])) := by
  unfold LotY
  rw [decide_eq_true_eq]
  constructor
  · rintro rfl
    exact ⟨[], rfl, h⟩
  · rintro ⟨m, e, hm⟩
    have e' := some_inj (Option.some.inj e)
    subst e'
    cases l with
    | nil => rfl
    | cons x l =>
      have nd := lt_nd hm.1
      simp at nd
theorem loty_big {n : Nat} {l : List Int} : LotY n (some ((l ++ [(n : Int)]).map some)) false := by
  refine ⟨fun z => (nomatch z), ?_⟩
  rintro ⟨m, e, hm⟩
  have e' := some_inj (Option.some.inj e)
  subst e'
  have := mem_things.mp (hm.2 (n : Int) (by simp))
  omega
theorem loty_none {n : Nat} {os : List (Option Int)} : LotY n (some (none :: os)) false := by
  refine ⟨fun z => (nomatch z), ?_⟩
  rintro ⟨m, e, hm⟩
  cases m with
  | nil => cases Option.some.inj e
  | cons x m =>
    have := (List.cons.inj (Option.some.inj e)).1
    cases this
theorem each_app {K : PySem.W.Frag} {H : Hp} : ∀ {xs ys : List V} {os ps : List (Option Int)}, EachV K H xs os → EachV K H ys ps → EachV K H (xs ++ ys) (os ++ ps)
  | [], _, [], _, _, h => h
  | x :: xs, _, o :: os, _, ⟨h1, h2⟩, h => ⟨h1, each_app h2 h⟩
  | [], _, _ :: _, _, h, _ => h.elim
  | _ :: _, _, [], _, h, _ => h.elim
theorem tail_cut (l : List Int) : cutV (l.map V.int) (some 1) none = (l.drop 1).map V.int := by
  cases l with
  | nil => rfl
  | cons x l =>
    unfold cutV HT.sIx
    simp
    exact List.take_of_length_le (by simp)
theorem head_cut (l : List Int) : cutV (l.map V.int) none (some 1) = (l.take 1).map V.int := by
  cases l with
  | nil => rfl
  | cons n ns =>
    unfold cutV HT.sIx
    simp [List.length_map]
end Tk

namespace Tk
open PySem PySem.Spec PyProof.Rows L2
/-- values of which repr is known: None, bools, ints, lists and tuples of data -/
def ReprOk (v : V) (d : PyData) : Prop := match v with
  | .non => True
  | .bl _ => True
  | .int i => i.natAbs.log2 < 1920
  | .ref _ => RepOk d
  | _ => False
section
variable {X : Cx}
def rRepV (K : PySem.W.Frag) : List V → Hp → VK → Prop := fun xs H Q => ∃ (v : V) (d : PyData), xs = [v] ∧ Dp K H v d ∧ ReprOk v d ∧ Q (.str d.shown) H
theorem call_reprV (hgd : X.A.guards = some []) (hu : X.A.units + 64 < cLine) : CallR X (.builtin "repr") (rRepV X.K) := by
  intro pins s σ H xs us Q I r h
  obtain ⟨v, d, rfl, hd, ok, q⟩ := h
  cases hd with
  | non =>
    cases r with
    | cons r1 r2 =>
      cases r2
      cases r1
      exact PySem.P.repr_of_none ⟨.str "None", H, I.tok _, ⟨_, rfl⟩, q⟩
  | bl b =>
    cases r with
    | cons r1 r2 =>
      cases r2
      cases r1
      exact PySem.P.repr_of_bool ⟨.str (if b then "True" else "False"), H, I.tok _, ⟨_, rfl⟩, q⟩
  | int i =>
    cases r with
    | cons r1 r2 =>
      cases r2
      obtain ⟨t, rfl⟩ := r1
      exact PySem.P.repr_of_int ok ⟨.str (toString i), H, I.tok _, ⟨_, rfl⟩, q⟩
  | str x => exact ok.elim
  | @lst a xs ds h1 h2 => exact call_reprD hgd hu pins s σ H _ us Q I r ⟨a, _, rfl, .lst h1 h2, ok.sh, ok.nd, ok.dp, ok.sz, q⟩
  | @tup a xs ds h1 h2 => exact call_reprD hgd hu pins s σ H _ us Q I r ⟨a, _, rfl, .tup h1 h2, ok.sh, ok.nd, ok.dp, ok.sz, q⟩
end
end Tk

namespace Tk
open PySem PySem.Spec PyProof.Rows L2
theorem filter_snoc {α : Type} (f : α → Bool) (l : List α) (x : α) : (l ++ [x]).filter f = if f x = true then l.filter f ++ [x] else l.filter f := by
  rw [List.filter_append]
  by_cases c : f x = true
  · rw [if_pos c, List.filter_cons_of_pos c]; rfl
  · rw [if_neg c, List.filter_cons_of_neg c]; simp
theorem eqv_nil (ds : List PyData) : PyData.eqv (.list ds) (.list []) = ds.isEmpty := by
  cases ds with
  | nil => simp [PyData.eqv, PyData.eqvAll]
  | cons d ds => simp [PyData.eqv, PyData.eqvAll]
theorem shaped_good {d : PyData} {k W : Nat} (g : GoodD d k W) (h : k ≤ 64) : SeqAt.shaped d = true := by
  unfold SeqAt.shaped
  rw [Bool.and_eq_true]
  exact ⟨g.cl, decide_eq_true (Nat.le_trans g.dp h)⟩
theorem any_lints {gs : List (List Int)} {o : List Int} : ((gs.map fun o => PyData.list (o.map .int)).any fun z => PyData.eqv z (.list (o.map .int))) = decide (o ∈ gs) := by
  induction gs with
  | nil => simp
  | cons p gs ih =>
    rw [List.map_cons, List.any_cons, ih, eqv_lints]
    by_cases c : p = o
    · subst c; simp
    · have : ¬ o = p := fun e => c e.symm
      simp [c, this]
theorem ls_x {a : Addr} {H H' : Hp} (e : SmX a H H') : ∀ {xs : List V} {os : List (List Int)}, LsAt H xs os → (∀ x ∈ xs, x ≠ .ref a) → LsAt H' xs os
  | [], [], _, _ => trivial
  | x :: xs, o :: os, ⟨⟨r, h1, h2⟩, h3⟩, n => ⟨⟨r, h1, e _ _ (fun z => n x (List.mem_cons_self ..) (by rw [h1, z])) h2⟩, ls_x e h3 fun y hy => n y (List.mem_cons_of_mem _ hy)⟩
  | [], _ :: _, h, _ => h.elim
  | _ :: _, [], h, _ => h.elim
theorem bar_congr {n : Nat} {as as' ts ts' : List (Int × Int)} {l : List Int} (pA : as'.Perm as) (pT : ts'.Perm ts) (h : Bar n as ts l) : Bar n as' ts' l :=
  ⟨h.lot, h.two, by rw [hang_congr pT]; exact h.hang, by rw [heads_congr pA]; exact h.head⟩
noncomputable def barB (as ts : List (Int × Int)) (l : List Int) : Bool := decide (1 < l.length) && (hangB ts l && !decide (headsL as l = []))
theorem barB_iff {n : Nat} {as ts : List (Int × Int)} {l : List Int} (lot : Lot n l) : barB as ts l = true ↔ Bar n as ts l := by
  unfold barB
  rw [Bool.and_eq_true, Bool.and_eq_true, decide_eq_true_eq, Bool.not_eq_true', decide_eq_false_iff_not]
  exact ⟨fun h => ⟨lot, h.1, h.2.1, h.2.2⟩, fun h => ⟨h.two, h.hang, h.head⟩⟩
def spIsBar (K : PySem.W.Frag) : Sp := fun vs H Q _ => ∃ (p b u v : Addr) (n : Nat) (as ts : List (Int × Int)) (l : List Int), vs = [.ref p, .ref b] ∧ H p = some (.tup [.int n, .ref u, .ref v]) ∧ PL K H u as ∧ PL K H v ts ∧ n ≤ 60 ∧ Prs n as ∧ SqL K H b (l.map V.int) ∧ Lot n l ∧
  ∀ H', Same H H' → Q (.bl (barB as ts l)) H'
/-- all barred lots, in a list of the law's own -/
def spBars (K : PySem.W.Frag) : Sp := fun vs H Q _ => ∃ (p u v : Addr) (n : Nat) (as ts : List (Int × Int)), vs = [.ref p] ∧ H p = some (.tup [.int n, .ref u, .ref v]) ∧ PL K H u as ∧ PL K H v ts ∧ n ≤ 5 ∧ Prs n as ∧
  ∀ (H' : Hp) (r : Addr) (acc : List V) (gs : List (List Int)), Same H H' → H r = none → H' r = some (.lst acc) → LsAt H' acc gs → (∀ z ∈ acc, ∃ t : Addr, z = .ref t ∧ H t = none) → acc.length ≤ 32 → gs.Pairwise (· ≤ ·) → gs.Nodup → (∀ o, o ∈ gs ↔ Bar n as ts o) → Q (.ref r) H'
theorem allLots_nd : ∀ n, (allLots n).Nodup
  | 0 => by unfold allLots; simp
  | k + 1 => by
    unfold allLots
    rw [List.nodup_append]
    refine ⟨allLots_nd k, ?_, ?_⟩
    · show List.Pairwise _ _
      rw [List.pairwise_map]
      exact List.Pairwise.imp (fun {a b} h e => h (List.append_cancel_right e)) (allLots_nd k)
    · intro a ha b hb e
      subst e
      obtain ⟨m, _, rfl⟩ := List.mem_map.mp hb
      have := mem_things.mp ((allLots_lot ha).2 (Int.ofNat k) (by simp))
      have h2 : (Int.ofNat k) = (k : Int) := rfl
      omega
section
variable {P : Program} {w : World} {K : PySem.W.Frag} {mg : Str → Option Value} {base : Heap}
abbrev nBars : List Str := ["_law_world_here", "_law_lot"]
end
end Tk

namespace Tk
open PySem PySem.Spec PyProof.Rows L2
def liesB (l m : List Int) : Bool := !decide (l = m) && l.all fun z => decide (z ∈ m)
/-- those in which no other one lies -/
def leastL (gs : List (List Int)) : List (List Int) := gs.filter fun l => !(gs.any fun o => liesB o l)
theorem bars_one {n : Nat} {as ts : List (Int × Int)} {gs hs : List (List Int)} (s1 : gs.Pairwise (· ≤ ·)) (n1 : gs.Nodup) (m1 : ∀ o, o ∈ gs ↔ Bar n as ts o) (s2 : hs.Pairwise (· ≤ ·)) (n2 : hs.Nodup) (m2 : ∀ o, o ∈ hs ↔ Bar n as ts o) : gs = hs :=
  List.Perm.eq_of_pairwise (fun a b _ _ h1 h2 => List.le_antisymm h1 h2) s1 s2 ((List.perm_ext_iff_of_nodup n1 n2).mpr fun o => (m1 o).trans (m2 o).symm)
/-- in each one some least one lies -/
theorem least_in {gs : List (List Int)} (nd : ∀ o ∈ gs, o.Nodup) (rise : ∀ o ∈ gs, o.Pairwise (· < ·)) : ∀ (k : Nat) (l : List Int), l ∈ gs → l.length ≤ k → ∃ o ∈ leastL gs, ∀ z ∈ o, z ∈ l := by
  intro k
  induction k with
  | zero =>
    intro l hl hk
    refine ⟨l, List.mem_filter.mpr ⟨hl, ?_⟩, fun z hz => hz⟩
    have : l = [] := List.length_eq_zero_iff.mp (by omega)
    subst this
    rw [Bool.not_eq_true', List.any_eq_false]
    intro o ho c
    unfold liesB at c
    rw [Bool.and_eq_true, Bool.not_eq_true', decide_eq_false_iff_not] at c
    refine c.1 ?_
    cases o with
    | nil => rfl
    | cons x o =>
      have := c.2
      simp at this
  | succ k ih =>
    intro l hl hk
    by_cases c : (gs.any fun o => liesB o l) = true
    · obtain ⟨o, ho, hc⟩ := List.any_eq_true.mp c
      unfold liesB at hc
      rw [Bool.and_eq_true, Bool.not_eq_true', decide_eq_false_iff_not, List.all_eq_true] at hc
      have sub : ∀ z ∈ o, z ∈ l := fun z hz => of_decide_eq_true (hc.2 z hz)
      have lt : o.length < l.length := by
        have le := nodup_le (nd o ho) (m := l) sub
        rcases Nat.lt_or_ge o.length l.length with h | h
        · exact h
        · exfalso
          refine hc.1 (rise_eq (rise o ho) (rise l hl) fun z => ⟨sub z, fun hz => Classical.byContradiction fun no => ?_⟩)
          have := nodup_le (l := z :: o) (m := l) (List.nodup_cons.mpr ⟨no, nd o ho⟩) (fun y hy => by
            rcases List.mem_cons.mp hy with e | e
            · exact e ▸ hz
            · exact sub y e)
          rw [List.length_cons] at this
          omega
      obtain ⟨m, hm, hs⟩ := ih o ho (by omega)
      exact ⟨m, hm, fun z hz => sub z (hs z hz)⟩
    · refine ⟨l, List.mem_filter.mpr ⟨hl, ?_⟩, fun z hz => hz⟩
      simpa using c
def spChoices (K : PySem.W.Frag) : Sp := fun vs H Q _ => ∃ (a : Addr) (n : Nat), vs = [.ref a] ∧ SqL K H a ((things n).map V.int) ∧ n ≤ 6 ∧
  ∀ (H' : Hp) (r : Addr) (xs : List V), Same H H' → H r = none → H' r = some (.lst xs) → LsAt H' xs (allLots n) → (∀ x ∈ xs, ∃ q : Addr, x = .ref q ∧ H q = none) → Q (.ref r) H'
def spBarred (K : PySem.W.Frag) (C : Addr) : Sp := fun vs H Q _ => ∃ (p : Addr) (n : Nat) (as ts : List (Int × Int)), vs = [.ref p] ∧ PlanAt K C H p n as ts ∧
  ∀ (H' : Hp) (r : Addr) (acc : List V) (gs : List (List Int)), Same H H' → H r = none → H' r = some (.lst acc) → LsAt H' acc gs → (∀ z ∈ acc, ∃ t : Addr, z = .ref t ∧ H t = none) → acc.length ≤ 64 → gs.Pairwise (· ≤ ·) → gs.Nodup → (∀ o, o ∈ gs ↔ Bar n as ts o) → Q (.ref r) H'
def spLiesIn (K : PySem.W.Frag) : Sp := fun vs H Q _ => ∃ (b c : Addr) (l m : List Int), vs = [.ref b, .ref c] ∧ SqL K H b (l.map V.int) ∧ SqL K H c (m.map V.int) ∧ l.length ≤ 60 ∧ ∀ H', Same H H' → Q (.bl (liesB l m)) H'
def spLeast (K : PySem.W.Frag) (C : Addr) : Sp := fun vs H Q _ => ∃ (p : Addr) (n : Nat) (as ts : List (Int × Int)), vs = [.ref p] ∧ PlanAt K C H p n as ts ∧
  ∀ (H' : Hp) (r : Addr) (acc : List V) (gs : List (List Int)), Same H H' → H r = none → H' r = some (.lst acc) → LsAt H' acc (leastL gs) → (∀ z ∈ acc, ∃ t : Addr, z = .ref t ∧ H t = none) → acc.length ≤ 64 → gs.Pairwise (· ≤ ·) → gs.Nodup → (∀ o, o ∈ gs ↔ Bar n as ts o) → Q (.ref r) H'
theorem pow6 {k : Nat} (h : k ≤ 6) : 2 ^ k ≤ 64 := Nat.le_trans (Nat.pow_le_pow_right (by decide) h) (by decide)
/-- refs of lists are not where nothing is -/
theorem ls_new {G : Hp} {D : Addr} {xs : List V} {os : List (List Int)} (ls : LsAt G xs os) (hD : G D = none) : ∀ z ∈ xs, z ≠ .ref D := by
  intro z hz e
  obtain ⟨j, hj⟩ := List.getElem?_of_mem hz
  obtain ⟨_, rj, _, ej, hrj⟩ := ls_at ls hj
  rw [e] at ej
  cases ej
  rw [hD] at hrj
  cases hrj
section
variable {P : Program} {w : World} {K : PySem.W.Frag} {mg : Str → Option Value} {base : Heap}
abbrev nAL : List Str := ["values", "found", "value", "some"]
theorem things_at {n k : Nat} {v : V} (h : ((things n).map V.int)[k]? = some v) : v = .int (k : Int) ∧ k < n := by
  have hk := lt_of_at h
  rw [List.length_map, things_len] at hk
  rw [List.getElem?_map, things, List.getElem?_map, List.getElem?_range hk] at h
  exact ⟨(Option.some.inj h).symm, hk⟩
abbrev nBL : List Str := ["plan", "lot"]
end
end Tk

namespace Tk
open PySem PySem.Spec PyProof.Rows L2
section
variable {n n2 : Nat} {o : List Int} {as ts as2 ts2 as' ts' : List (Int × Int)}
theorem ren_named (pm : o.Perm (things n)) (pas : Prs n as) (pts : Prs n ts) (lt : ∀ p ∈ ts, p.1 < p.2) (ea : as'.Perm (as.map (rpL o))) (et : ts'.Perm (ts.map (rtL o))) : Ren as ts as' ts' (· ∈ things n) (nmL o) := by
  have lo : o.length = n := by rw [pm.length_eq, things_len]
  have nd := pm.nodup_iff.mpr (things_nodup n)
  have rg : ∀ x ∈ things n, 0 ≤ x ∧ x < (o.length : Int) := fun x hx => by rw [lo]; exact mem_things.mp hx
  have inj : ∀ x y, x ∈ things n → y ∈ things n → nmL o x = nmL o y → x = y := fun x y hx hy e => nm_inj nd (rg x hx) (rg y hy) e
  have inA : ∀ p ∈ as, p.1 ∈ things n ∧ p.2 ∈ things n := fun p hp => by
    obtain ⟨a, b, c, d, _⟩ := pas.2.2 p hp
    exact ⟨mem_things.mpr ⟨a, b⟩, mem_things.mpr ⟨c, d⟩⟩
  have inT : ∀ p ∈ ts, p.1 ∈ things n ∧ p.2 ∈ things n := fun p hp => by
    obtain ⟨a, b, c, d, _⟩ := pts.2.2 p hp
    exact ⟨mem_things.mpr ⟨a, b⟩, mem_things.mpr ⟨c, d⟩⟩
  have one : ∀ x y, x ∈ things n → y ∈ things n → (x, y) ∈ ts → (nmL o x, nmL o y) ∈ ts' ∨ (nmL o y, nmL o x) ∈ ts' := by
    intro x y hx hy h
    have ne : nmL o x ≠ nmL o y := fun e => by
      have := inj x y hx hy e
      have := lt _ h
      simp only at this
      omega
    rw [et.mem_iff, et.mem_iff, List.mem_map, List.mem_map]
    rcases rt_cases (o := o) (x, y) ne with ⟨e, _⟩ | ⟨e, _⟩
    · exact .inl ⟨_, h, e⟩
    · exact .inr ⟨_, h, e⟩
  have back : ∀ x y, x ∈ things n → y ∈ things n → (nmL o x, nmL o y) ∈ ts' → (x, y) ∈ ts ∨ (y, x) ∈ ts := by
    intro x y hx hy h
    rw [et.mem_iff, List.mem_map] at h
    obtain ⟨p, hp, e⟩ := h
    obtain ⟨i1, i2⟩ := inT p hp
    have ne : nmL o p.1 ≠ nmL o p.2 := fun e => by
      have := inj _ _ i1 i2 e
      have := lt _ hp
      omega
    rcases rt_cases (o := o) p ne with ⟨e2, _⟩ | ⟨e2, _⟩ <;> (rw [e2] at e; obtain ⟨e3, e4⟩ := Prod.mk.inj e)
    · left
      rw [← inj _ _ i1 hx e3, ← inj _ _ i2 hy e4]; exact hp
    · right
      rw [← inj _ _ i2 hx e3, ← inj _ _ i1 hy e4]; exact hp
  refine ⟨inj, fun x y hx hy => ?_, fun x y hx hy => ?_⟩
  · rw [ea.mem_iff, List.mem_map]
    constructor
    · rintro ⟨p, hp, e⟩
      obtain ⟨i1, i2⟩ := inA p hp
      obtain ⟨e3, e4⟩ := Prod.mk.inj e
      rw [← inj _ _ i1 hx e3, ← inj _ _ i2 hy e4]; exact hp
    · exact fun h => ⟨_, h, rfl⟩
  · constructor
    · rintro (h | h)
      · exact back x y hx hy h
      · exact (back y x hy hx h).symm
    · rintro (h | h)
      · exact one x y hx hy h
      · exact (one y x hy hx h).symm
theorem nm_into (pm : o.Perm (things n)) : ∀ y ∈ things n, nmL o y ∈ things n := fun y hy => by
  have lo : o.length = n := by rw [pm.length_eq, things_len]
  have h := mem_things.mp hy
  exact pm.mem_iff.mp (nm_mem h.1 (by rw [lo]; exact h.2))
theorem nm_onto (pm : o.Perm (things n)) : ∀ z ∈ things n, ∃ y ∈ things n, z = nmL o y := fun z hz => by
  have lo : o.length = n := by rw [pm.length_eq, things_len]
  obtain ⟨i, hi, e⟩ := List.getElem_of_mem (pm.mem_iff.mpr hz)
  refine ⟨(i : Int), mem_things.mpr ⟨by omega, by omega⟩, ?_⟩
  have h := nm_it (o := o) (x := (i : Int)) (by omega) (by omega)
  rw [show ((i : Int)).toNat = i by omega, List.getElem?_eq_getElem hi] at h
  rw [← e]
  exact Option.some.inj h
theorem nm_beh {u : Int} (hu : u ∈ things n2) : nmL (behL n n2) u = u + n := by
  obtain ⟨h0, h1⟩ := mem_things.mp hu
  have e := nm_it (o := behL n n2) h0 (by rw [beh_len]; exact h1)
  have e2 : (behL n n2)[u.toNat]? = some (((n + u.toNat : Nat)) : Int) := by
    unfold behL
    rw [List.getElem?_map, List.getElem?_range (by omega)]; rfl
  rw [e] at e2
  rw [Option.some.inj e2]
  omega
theorem bes_of (pas : Prs n as) (pts : Prs n ts) (pas2 : Prs n2 as2) (pts2 : Prs n2 ts2) (lt2 : ∀ p ∈ ts2, p.1 < p.2) (ea : as'.Perm (as2.map (rpL (behL n n2)) ++ as)) (et : ts'.Perm (ts2.map (rtL (behL n n2)) ++ ts)) : Bes n n2 as ts as2 ts2 as' ts' := by
  have rg : ∀ {k : Nat} {ps : List (Int × Int)}, Prs k ps → Rg k ps := fun h x y hp => by
    obtain ⟨a, b, c, d, _⟩ := h.2.2 _ hp
    exact ⟨mem_things.mpr ⟨a, b⟩, mem_things.mpr ⟨c, d⟩⟩
  have two : ∀ {ps qs ps' : List (Int × Int)} {f : Int × Int → Int × Int}, ps'.Perm (qs.map f ++ ps) → (∀ p ∈ qs, f p = (p.1 + (n : Int), p.2 + (n : Int))) → Two n ps qs ps' := by
    intro ps qs ps' f pm hf x y
    rw [pm.mem_iff, List.mem_append, List.mem_map]
    constructor
    · rintro (⟨p, hp, e⟩ | h)
      · rw [hf p hp] at e
        obtain ⟨e1, e2⟩ := Prod.mk.inj e
        exact .inr ⟨p.1, p.2, hp, e1.symm, e2.symm⟩
      · exact .inl h
    · rintro (h | ⟨u, v, h, rfl, rfl⟩)
      · exact .inr h
      · exact .inl ⟨_, h, hf _ h⟩
  refine ⟨two ea fun p hp => ?_, two et fun p hp => ?_, rg pas, rg pts, rg pas2, rg pts2⟩
  · obtain ⟨i1, i2⟩ := rg pas2 p.1 p.2 hp
    unfold rpL
    rw [nm_beh i1, nm_beh i2]
  · obtain ⟨i1, i2⟩ := rg pts2 p.1 p.2 hp
    have := lt2 p hp
    unfold rtL
    rw [nm_beh i1, nm_beh i2, if_neg (by omega), if_pos (by omega)]
/-- a row of names in sequence -/
theorem im_row {n' : Nat} {f : Int → Int} {l m : List Int} (R : Ren as ts as' ts' (· ∈ things n) f) (into : ∀ y ∈ things n, f y ∈ things n') (lot : Lot n l) (pm : m.Perm (l.map f)) (so : m.Pairwise (· ≤ ·)) : m = imgL n' f l := by
  have nd : (l.map f).Nodup := nd_mapOn (lt_nd lot.1) fun a ha b hb e => R.inj a b (lot.2 a ha) (lot.2 b hb) e
  refine rise_eq (le_lt so (pm.nodup_iff.mpr nd)) imgL_lot.1 fun z => ?_
  rw [pm.mem_iff, List.mem_map, imgL_img (fun y hy => into y (lot.2 y hy)) z]
  exact ⟨fun ⟨y, h, e⟩ => ⟨y, h, e.symm⟩, fun ⟨y, h, e⟩ => ⟨y, h, e.symm⟩⟩
theorem im_rows {n' : Nat} {f : Int → Int} {gs hs ds : List (List Int)} (R : Ren as ts as' ts' (· ∈ things n) f) (into : ∀ y ∈ things n, f y ∈ things n') (onto : ∀ z ∈ things n', ∃ y ∈ things n, z = f y)
    (n1 : gs.Nodup) (m1 : ∀ o, o ∈ gs ↔ Bar n as ts o) (s2 : hs.Pairwise (· ≤ ·)) (n2 : hs.Nodup) (m2 : ∀ o, o ∈ hs ↔ Bar n' as' ts' o) (pm : ds.Perm (gs.map (imgL n' f))) (so : ds.Pairwise (· ≤ ·)) : hs = ds := by
  have lotg : ∀ l ∈ gs, Lot n l := fun l hl => ((m1 l).mp hl).lot
  have im : ∀ l ∈ gs, Img f l (imgL n' f l) := fun l hl => imgL_img fun y hy => into y ((lotg l hl).2 y hy)
  refine bars_one (n := n') (as := as') (ts := ts') s2 n2 m2 so (pm.nodup_iff.mpr (nd_mapOn n1 fun a ha b hb e => ?_)) fun o => ?_
  · refine rise_eq (lotg a ha).1 (lotg b hb).1 fun z => ?_
    have sub : ∀ {a b : List Int}, a ∈ gs → b ∈ gs → imgL n' f a = imgL n' f b → z ∈ a → z ∈ b := fun {a b} ha hb e hz => by
      obtain ⟨y, hy, e2⟩ := (im b hb (f z)).mp (e ▸ (im a ha (f z)).mpr ⟨z, hz, rfl⟩)
      rw [R.inj z y ((lotg a ha).2 z hz) ((lotg b hb).2 y hy) e2]; exact hy
    exact ⟨sub ha hb e, sub hb ha e.symm⟩
  · rw [pm.mem_iff, List.mem_map]
    constructor
    · rintro ⟨l, hl, rfl⟩
      exact (bar_ren R (lotg l hl).2 (im l hl) (lotg l hl) imgL_lot).mpr ((m1 l).mp hl)
    · intro b
      have ip := preL_img (n := n) (f := f) (l' := o) fun z hz => onto z (b.lot.2 z hz)
      have bp := (bar_ren R preL_lot.2 ip preL_lot b.lot).mp b
      refine ⟨preL n f o, (m1 _).mpr bp, rise_eq imgL_lot.1 b.lot.1 fun z => ?_⟩
      rw [ip z, imgL_img (fun y hy => into y (preL_lot.2 y hy)) z]
/-- the bars of a cut plan -/
theorem cut_rows {l : List Int} {gs hs ds : List (List Int)} (lot : Lot n l) (R : Ren as ts as' ts' (· ∈ l) fun x => ((l.idxOf x : Nat) : Int)) (n1 : gs.Nodup) (m1 : ∀ o, o ∈ gs ↔ Bar n as ts o)
    (s2 : hs.Pairwise (· ≤ ·)) (n2 : hs.Nodup) (m2 : ∀ o, o ∈ hs ↔ Bar l.length as' ts' o) (pm : ds.Perm ((gs.filter fun o => o.all fun z => decide (z ∈ l)).map fun o => o.map fun x => ((l.idxOf x : Nat) : Int))) (so : ds.Pairwise (· ≤ ·)) : hs = ds := by
  have keep : ∀ o, o ∈ (gs.filter fun o => o.all fun z => decide (z ∈ l)) ↔ Bar n as ts o ∧ ∀ z ∈ o, z ∈ l := fun o => by
    rw [List.mem_filter, m1 o, List.all_eq_true]
    exact and_congr Iff.rfl (forall_congr' fun z => forall_congr' fun _ => decide_eq_true_iff)
  have img : ∀ o : List Int, Img (fun x => ((l.idxOf x : Nat) : Int)) o (o.map fun x => ((l.idxOf x : Nat) : Int)) := fun o z => by
    rw [List.mem_map]
    exact ⟨fun ⟨y, h, e⟩ => ⟨y, h, e.symm⟩, fun ⟨y, h, e⟩ => ⟨y, h, e.symm⟩⟩
  have lo : ∀ o : List Int, o.Pairwise (· < ·) → (∀ z ∈ o, z ∈ l) → Lot l.length (o.map fun x => ((l.idxOf x : Nat) : Int)) := fun o up sub => by
    refine ⟨?_, fun z hz => ?_⟩
    · rw [List.pairwise_map]
      exact List.Pairwise.imp_of_mem (fun {a b} ha hb c => by have := idx_lt lot.1 (sub a ha) (sub b hb) c; show ((_ : Nat) : Int) < ((_ : Nat) : Int); omega) up
    · obtain ⟨y, hy, rfl⟩ := List.mem_map.mp hz
      have := List.idxOf_lt_length_of_mem (sub y hy)
      exact mem_things.mpr ⟨by omega, by omega⟩
  refine bars_one (n := l.length) (as := as') (ts := ts') s2 n2 m2 so (pm.nodup_iff.mpr (nd_mapOn (n1.filter _) fun a ha b hb e => ?_)) fun o => ?_
  · obtain ⟨ba, sa⟩ := (keep a).mp ha
    obtain ⟨bb, sb⟩ := (keep b).mp hb
    refine rise_eq ba.lot.1 bb.lot.1 fun z => ?_
    have sub : ∀ {a b : List Int}, (∀ z ∈ a, z ∈ l) → (∀ z ∈ b, z ∈ l) → (a.map fun x => ((l.idxOf x : Nat) : Int)) = (b.map fun x => ((l.idxOf x : Nat) : Int)) → z ∈ a → z ∈ b := fun {a b} ha hb e hz => by
      obtain ⟨y, hy, e2⟩ := (img b _).mp (e ▸ (img a _).mpr ⟨z, hz, rfl⟩)
      rw [R.inj z y (ha z hz) (hb y hy) e2]; exact hy
    exact ⟨sub sa sb e, sub sb sa e.symm⟩
  · rw [pm.mem_iff, List.mem_map]
    constructor
    · rintro ⟨q, hq, rfl⟩
      obtain ⟨b, sub⟩ := (keep q).mp hq
      exact (bar_ren R sub (img q) b.lot (lo q b.lot.1 sub)).mpr b
    · intro b
      have lp : ∀ y ∈ l.filter (fun y => decide (((l.idxOf y : Nat) : Int) ∈ o)), y ∈ l := fun y hy => (List.mem_filter.mp hy).1
      have lq : Lot n (l.filter fun y => decide (((l.idxOf y : Nat) : Int) ∈ o)) := ⟨lot.1.sublist List.filter_sublist, fun y hy => lot.2 y (lp y hy)⟩
      have ip : Img (fun x => ((l.idxOf x : Nat) : Int)) (l.filter fun y => decide (((l.idxOf y : Nat) : Int) ∈ o)) o := fun z => by
        constructor
        · intro hz
          have h := mem_things.mp (b.lot.2 z hz)
          have e : ((l.idxOf (nmL l z) : Nat) : Int) = z := nm_idx (lt_nd lot.1) h
          exact ⟨nmL l z, List.mem_filter.mpr ⟨nm_mem h.1 h.2, decide_eq_true (by rw [e]; exact hz)⟩, e.symm⟩
        · rintro ⟨y, hy, rfl⟩
          exact of_decide_eq_true (List.mem_filter.mp hy).2
      have bp := (bar_ren R lp ip lq b.lot).mp b
      refine ⟨_, (keep _).mpr ⟨bp, lp⟩, rise_eq (lo _ lq.1 lp).1 b.lot.1 fun z => ?_⟩
      rw [ip z, img _ z]
/-- the bars of plans beside one another -/
theorem bes_rows {gs1 gs2 hs ds : List (List Int)} (B : Bes n n2 as ts as2 ts2 as' ts') (n1 : gs1.Nodup) (m1 : ∀ o, o ∈ gs1 ↔ Bar n as ts o) (n2' : gs2.Nodup) (m2 : ∀ o, o ∈ gs2 ↔ Bar n2 as2 ts2 o)
    (s3 : hs.Pairwise (· ≤ ·)) (n3 : hs.Nodup) (m3 : ∀ o, o ∈ hs ↔ Bar (n + n2) as' ts' o) (pm : ds.Perm (gs1 ++ gs2.map (upL (n : Int)))) (so : ds.Pairwise (· ≤ ·)) : hs = ds := by
  have nd : (gs1 ++ gs2.map (upL (n : Int))).Nodup := by
    rw [List.nodup_append]
    refine ⟨n1, nd_mapOn n2' fun a _ b _ e => ?_, fun a ha b hb e => ?_⟩
    · unfold upL at e
      exact (List.map_inj_right (f := fun x : Int => x + (n : Int)) (fun x y h => by have h' : x + (n : Int) = y + n := h; omega)).mp e
    · obtain ⟨c, hc, rfl⟩ := List.mem_map.mp hb
      have b1 := (m1 a).mp ha
      have b2 := (m2 c).mp hc
      subst e
      cases c with
      | nil => exact absurd b2.two (by simp)
      | cons y c =>
        have h1 := mem_things.mp (b1.lot.2 (y + (n : Int)) (by unfold upL; simp))
        have h2 := mem_things.mp (b2.lot.2 y (by simp))
        omega
  refine bars_one (n := n + n2) (as := as') (ts := ts') s3 n3 m3 so (pm.nodup_iff.mpr nd) fun o => ?_
  rw [pm.mem_iff, List.mem_append, List.mem_map, bes_bar B, m1 o]
  refine or_congr Iff.rfl ⟨fun ⟨q, h, e⟩ => ⟨q, (m2 q).mp h, e.symm⟩, fun ⟨q, h, e⟩ => ⟨q, (m2 q).mpr h, e.symm⟩⟩
end
end Tk

namespace Tk
open PySem PySem.Spec PyProof.Rows L2
/-! ## plans in other names: the same plan, the parts, who leads -/
theorem srt_eq {A B : List (Int × Int)} (s1 : SrtPs A) (s2 : SrtPs B) (pm : A.Perm B) : A = B := List.Perm.eq_of_pairwise (fun a b _ _ h1 h2 => lex_anti h1 h2) s1 s2 pm
theorem rows_one {gs hs : List (List Int)} (s1 : gs.Pairwise (· ≤ ·)) (n1 : gs.Nodup) (s2 : hs.Pairwise (· ≤ ·)) (n2 : hs.Nodup) (m : ∀ o, o ∈ gs ↔ o ∈ hs) : gs = hs :=
  List.Perm.eq_of_pairwise (fun a b _ _ h1 h2 => List.le_antisymm h1 h2) s1 s2 ((List.perm_ext_iff_of_nodup n1 n2).mpr m)
theorem rows_perm {gs hs : List (List Int)} (s1 : gs.Pairwise (· ≤ ·)) (s2 : hs.Pairwise (· ≤ ·)) (pm : gs.Perm hs) : gs = hs :=
  List.Perm.eq_of_pairwise (fun a b _ _ h1 h2 => List.le_antisymm h1 h2) s1 s2 pm
theorem map_congr2 {α β : Type} {f g : α → β} {l : List α} (h : ∀ x ∈ l, f x = g x) : l.map f = l.map g := List.map_congr_left h
section
variable {n : Nat} {o o2 : List Int} {as ts as' ts' : List (Int × Int)}
theorem in_prs {ps : List (Int × Int)} (h : Prs (n : Int) ps) : ∀ p ∈ ps, p.1 ∈ things n ∧ p.2 ∈ things n := fun p hp => by
  obtain ⟨a, b, c, d, _⟩ := h.2.2 p hp
  exact ⟨mem_things.mpr ⟨a, b⟩, mem_things.mpr ⟨c, d⟩⟩
/-! back again -/
theorem nm_back (pm : o.Perm (things n)) {x : Int} (hx : x ∈ things n) : nmL (idxL n o) (nmL o x) = x := by
  have lo : o.length = n := by rw [pm.length_eq, things_len]
  have nd := pm.nodup_iff.mpr (things_nodup n)
  rw [idx_nm (nm_into pm x hx)]
  exact nm_idx nd (by rw [lo]; exact mem_things.mp hx)
theorem idx_perm (pm : o.Perm (things n)) : (idxL n o).Perm (things n) := by
  have lo : o.length = n := by rw [pm.length_eq, things_len]
  have nd := pm.nodup_iff.mpr (things_nodup n)
  refine (List.perm_ext_iff_of_nodup ?_ (things_nodup n)).mpr fun z => ?_
  · refine nd_mapOn (things_nodup n) fun a ha b hb e => ?_
    exact idx_inj (pm.mem_iff.mpr ha) (pm.mem_iff.mpr hb) (by omega)
  · unfold idxL
    rw [List.mem_map]
    constructor
    · rintro ⟨x, hx, rfl⟩
      have := List.idxOf_lt_length_of_mem (pm.mem_iff.mpr hx)
      exact mem_things.mpr ⟨by omega, by omega⟩
    · intro hz
      exact ⟨nmL o z, nm_into pm z hz, nm_idx nd (by rw [lo]; exact mem_things.mp hz)⟩
theorem rp_back (pm : o.Perm (things n)) {p : Int × Int} (h : p.1 ∈ things n ∧ p.2 ∈ things n) : rpL (idxL n o) (rpL o p) = p := by
  unfold rpL
  rw [nm_back pm h.1, nm_back pm h.2]
theorem rt_of {u v : Int} (c : nmL o u ≤ nmL o v) : rtL o (u, v) = (nmL o u, nmL o v) := by
  unfold rtL
  have h1 : ¬ nmL o v < nmL o u := by omega
  by_cases h2 : nmL o v > nmL o u
  · rw [if_neg h1, if_pos h2]
  · rw [if_neg h1, if_neg h2]
    have : nmL o u = nmL o v := by omega
    rw [this]
theorem rt_of' {u v : Int} (c : nmL o v ≤ nmL o u) : rtL o (u, v) = (nmL o v, nmL o u) := by
  unfold rtL
  have h1 : ¬ nmL o v > nmL o u := by omega
  by_cases h2 : nmL o v < nmL o u
  · rw [if_pos h2, if_neg h1]
  · rw [if_neg h2, if_neg h1]
    have : nmL o u = nmL o v := by omega
    rw [this]
theorem rt_back (pm : o.Perm (things n)) {p : Int × Int} (h : p.1 ∈ things n ∧ p.2 ∈ things n) (lt : p.1 < p.2) : rtL (idxL n o) (rtL o p) = p := by
  obtain ⟨u, v⟩ := p
  have e1 := nm_back pm h.1
  have e2 := nm_back pm h.2
  simp only at e1 e2 lt
  by_cases c : nmL o u ≤ nmL o v
  · rw [rt_of c, rt_of (by rw [e1, e2]; omega), e1, e2]
  · rw [rt_of' (o := o) (u := u) (v := v) (by omega), rt_of' (by rw [e1, e2]; omega), e1, e2]
/-! its own names -/
theorem nm_own {x : Int} (hx : x ∈ things n) : nmL (things n) x = x := by
  have h := mem_things.mp hx
  have e := nm_it (o := things n) h.1 (by rw [things_len]; exact h.2)
  unfold things at e
  rw [List.getElem?_map, List.getElem?_range (by omega)] at e
  have e2 := Option.some.inj e
  exact e2.symm.trans (by show ((x.toNat : Nat) : Int) = x; omega)
theorem rp_own {p : Int × Int} (h : p.1 ∈ things n ∧ p.2 ∈ things n) : rpL (things n) p = p := by
  unfold rpL
  rw [nm_own h.1, nm_own h.2]
theorem rt_own {p : Int × Int} (h : p.1 ∈ things n ∧ p.2 ∈ things n) (lt : p.1 < p.2) : rtL (things n) p = p := by
  obtain ⟨u, v⟩ := p
  have e1 := nm_own h.1
  have e2 := nm_own h.2
  simp only at e1 e2 lt
  rw [rt_of (by rw [e1, e2]; omega), e1, e2]
/-! names of names -/
theorem map_own (lo : o.length = n) : (things n).map (nmL o) = o := by
  refine List.ext_getElem? fun i => ?_
  by_cases c : i < n
  · rw [List.getElem?_map]
    have e : (things n)[i]? = some ((i : Nat) : Int) := by
      unfold things
      rw [List.getElem?_map, List.getElem?_range c]; rfl
    rw [e]
    have := nm_it (o := o) (x := ((i : Nat) : Int)) (by omega) (by omega)
    rw [show ((i : Nat) : Int).toNat = i by omega] at this
    exact this.symm
  · rw [List.getElem?_eq_none (by rw [List.length_map, things_len]; omega), List.getElem?_eq_none (by omega)]
theorem nm_nm (lo : o.length = n) {x : Int} (hx : x ∈ things n) : nmL (o.map (nmL o2)) x = nmL o2 (nmL o x) := by
  have h := mem_things.mp hx
  have e1 := nm_it (o := o) h.1 (by rw [lo]; exact h.2)
  have e2 := nm_it (o := o.map (nmL o2)) h.1 (by rw [List.length_map, lo]; exact h.2)
  rw [List.getElem?_map, e1] at e2
  exact (Option.some.inj e2).symm
theorem nms_perm (pm : o.Perm (things n)) (pm2 : o2.Perm (things n)) : (o.map (nmL o2)).Perm (things n) := by
  have e := pm.map (nmL o2)
  rw [map_own (by rw [pm2.length_eq, things_len])] at e
  exact e.trans pm2
theorem rp_nm (lo : o.length = n) {p : Int × Int} (h : p.1 ∈ things n ∧ p.2 ∈ things n) : rpL o2 (rpL o p) = rpL (o.map (nmL o2)) p := by
  show (nmL o2 (nmL o p.1), nmL o2 (nmL o p.2)) = (nmL _ p.1, nmL _ p.2)
  rw [nm_nm lo h.1, nm_nm lo h.2]
theorem rt_sym {u v : Int} : rtL o (u, v) = rtL o (v, u) := by
  by_cases c : nmL o u ≤ nmL o v
  · rw [rt_of c, rt_of' c]
  · rw [rt_of' (by omega), rt_of (by omega)]
theorem rt_nm (lo : o.length = n) {p : Int × Int} (h : p.1 ∈ things n ∧ p.2 ∈ things n) : rtL o2 (rtL o p) = rtL (o.map (nmL o2)) p := by
  obtain ⟨u, v⟩ := p
  have e1 := nm_nm (o2 := o2) lo h.1
  have e2 := nm_nm (o2 := o2) lo h.2
  simp only at e1 e2
  have go : rtL o2 (nmL o u, nmL o v) = rtL (o.map (nmL o2)) (u, v) := by
    unfold rtL
    simp only [e1, e2]
  by_cases c : nmL o u ≤ nmL o v
  · rw [rt_of c]; exact go
  · rw [rt_of' (o := o) (u := u) (v := v) (by omega), rt_sym (o := o2) (u := nmL o v) (v := nmL o u)]; exact go
/-! who leads -/
theorem reach_to {ps qs : List (Int × Int)} {f : Int → Int} (h : ∀ p ∈ ps, (f p.1, f p.2) ∈ qs) {x y : Int} (r : Reach ps x y) : Reach qs (f x) (f y) := by
  induction r with
  | refl => exact .refl
  | tail _ p ih => exact .tail ih (h _ p)
theorem reach_from {ps qs : List (Int × Int)} {f : Int → Int} {S : Int → Prop} (inj : ∀ x y, S x → S y → f x = f y → x = y) (im : ∀ q ∈ qs, ∃ p ∈ ps, S p.1 ∧ S p.2 ∧ q = (f p.1, f p.2)) {x w : Int} (hx : S x) (r : Reach qs (f x) w) : ∃ y, S y ∧ w = f y ∧ Reach ps x y := by
  induction r with
  | refl => exact ⟨x, hx, rfl, .refl⟩
  | tail _ p ih =>
    obtain ⟨b, hb, rfl, rb⟩ := ih
    obtain ⟨⟨u, v⟩, hp, hu, hv, e⟩ := im _ p
    obtain ⟨e1, e2⟩ := Prod.mk.inj e
    have := inj _ _ hb hu e1
    subst this
    exact ⟨v, hv, e2, .tail rb hp⟩
theorem leads_ren (pm : o.Perm (things n)) (pas : Prs (n : Int) as) (ea : as'.Perm (as.map (rpL o))) {x y : Int} (hx : x ∈ things n) (hy : y ∈ things n) : Reach as' (nmL o x) (nmL o y) ↔ Reach as x y := by
  have lo : o.length = n := by rw [pm.length_eq, things_len]
  have nd := pm.nodup_iff.mpr (things_nodup n)
  have inj : ∀ x y, x ∈ things n → y ∈ things n → nmL o x = nmL o y → x = y := fun x y hx hy e => nm_inj nd (by rw [lo]; exact mem_things.mp hx) (by rw [lo]; exact mem_things.mp hy) e
  constructor
  · intro r
    obtain ⟨z, hz, e, rz⟩ := reach_from (S := (· ∈ things n)) inj (fun q hq => by
      rw [ea.mem_iff, List.mem_map] at hq
      obtain ⟨p, hp, e⟩ := hq
      exact ⟨p, hp, (in_prs pas p hp).1, (in_prs pas p hp).2, e.symm⟩) hx r
    rw [inj y z hy hz e]; exact rz
  · exact fun r => reach_to (fun p hp => ea.mem_iff.mpr (List.mem_map.mpr ⟨p, hp, rfl⟩)) r
/-! the parts -/
theorem mem_parts {l : List Int} : l ∈ partsL n ts ↔ ∃ x ∈ things n, l = cl n ts x := by
  unfold partsL
  rw [List.mem_map]
  constructor
  · rintro ⟨x, hx, rfl⟩
    exact ⟨x, (List.mem_filter.mp hx).1, rfl⟩
  · rintro ⟨x, hx, rfl⟩
    obtain ⟨a, b⟩ := cl_hd (ts := ts) hx
    refine ⟨_, List.mem_filter.mpr ⟨a, ?_⟩, b⟩
    unfold isHd
    rw [decide_eq_true_eq, b]
theorem hd_cl {x : Int} (h : isHd n ts x = true) (hx : x ∈ things n) : ∃ l, cl n ts x = x :: l := by
  unfold isHd at h
  have h' := of_decide_eq_true h
  have := cl_self (ts := ts) hx
  cases e : cl n ts x with
  | nil => rw [e] at this; cases this
  | cons y l =>
    rw [e] at h'
    have : y = x := h'
    exact ⟨l, by rw [this]⟩
theorem parts_srt : (partsL n ts).Pairwise (· ≤ ·) := by
  unfold partsL
  rw [List.pairwise_map]
  refine List.Pairwise.imp_of_mem (fun {a b} ha hb c => ?_) ((things_rise n).filter _)
  obtain ⟨a1, a2⟩ := List.mem_filter.mp ha
  obtain ⟨b1, b2⟩ := List.mem_filter.mp hb
  obtain ⟨l, e1⟩ := hd_cl a2 a1
  obtain ⟨m, e2⟩ := hd_cl b2 b1
  rw [e1, e2]
  exact List.le_of_lt (List.Lex.rel c)
theorem parts_nd : (partsL n ts).Nodup := by
  unfold partsL
  refine nd_mapOn ((things_nodup n).filter _) fun a ha b hb e => ?_
  obtain ⟨a1, a2⟩ := List.mem_filter.mp ha
  obtain ⟨b1, b2⟩ := List.mem_filter.mp hb
  obtain ⟨l, e1⟩ := hd_cl a2 a1
  obtain ⟨m, e2⟩ := hd_cl b2 b1
  rw [e1, e2] at e
  exact (List.cons.inj e).1
theorem cl_lot {x : Int} : Lot n (cl n ts x) := ⟨(things_rise n).filter _, fun y hy => (mem_cl.mp hy).1⟩
theorem tie_ren (pm : o.Perm (things n)) (pts : Prs (n : Int) ts) (lt : ∀ p ∈ ts, p.1 < p.2) (et : ts'.Perm (ts.map (rtL o))) {x z : Int} (hx : x ∈ things n) : (z ∈ things n ∧ Reach (both ts') (nmL o x) z) ↔ ∃ y, y ∈ things n ∧ z = nmL o y ∧ Reach (both ts) x y := by
  have lo : o.length = n := by rw [pm.length_eq, things_len]
  have nd := pm.nodup_iff.mpr (things_nodup n)
  have inj : ∀ x y, x ∈ things n → y ∈ things n → nmL o x = nmL o y → x = y := fun x y hx hy e => nm_inj nd (by rw [lo]; exact mem_things.mp hx) (by rw [lo]; exact mem_things.mp hy) e
  have im : ∀ q ∈ both ts', ∃ p ∈ both ts, p.1 ∈ things n ∧ p.2 ∈ things n ∧ q = (nmL o p.1, nmL o p.2) := by
    have one : ∀ q ∈ ts', ∃ p ∈ both ts, p.1 ∈ things n ∧ p.2 ∈ things n ∧ q = (nmL o p.1, nmL o p.2) := by
      intro q hq
      rw [et.mem_iff, List.mem_map] at hq
      obtain ⟨⟨u, v⟩, hp, rfl⟩ := hq
      obtain ⟨i1, i2⟩ := in_prs pts _ hp
      by_cases c : nmL o u ≤ nmL o v
      · exact ⟨(u, v), mem_both.mpr (.inl hp), i1, i2, rt_of c⟩
      · exact ⟨(v, u), mem_both.mpr (.inr hp), i2, i1, rt_of' (by omega)⟩
    rintro ⟨a, b⟩ hq
    rcases mem_both.mp hq with h | h
    · exact one _ h
    · obtain ⟨⟨u, v⟩, hp, i1, i2, e⟩ := one _ h
      obtain ⟨e1, e2⟩ := Prod.mk.inj e
      exact ⟨(v, u), mem_both.mpr ((mem_both.mp hp).symm), i2, i1, by rw [e1, e2]⟩
  have to : ∀ p ∈ both ts, (nmL o p.1, nmL o p.2) ∈ both ts' := by
    have one : ∀ u v, (u, v) ∈ ts → (nmL o u, nmL o v) ∈ ts' ∨ (nmL o v, nmL o u) ∈ ts' := by
      intro u v hp
      by_cases c : nmL o u ≤ nmL o v
      · exact .inl (et.mem_iff.mpr (List.mem_map.mpr ⟨_, hp, rt_of c⟩))
      · exact .inr (et.mem_iff.mpr (List.mem_map.mpr ⟨_, hp, rt_of' (by omega)⟩))
    rintro ⟨u, v⟩ hp
    rcases mem_both.mp hp with h | h
    · exact mem_both.mpr (one u v h)
    · exact mem_both.mpr (one v u h).symm
  constructor
  · rintro ⟨_, r⟩
    exact reach_from (S := (· ∈ things n)) inj im hx r
  · rintro ⟨y, hy, rfl, r⟩
    exact ⟨nm_into pm y hy, reach_to to r⟩
theorem cl_ren (pm : o.Perm (things n)) (pts : Prs (n : Int) ts) (lt : ∀ p ∈ ts, p.1 < p.2) (et : ts'.Perm (ts.map (rtL o))) {x : Int} (hx : x ∈ things n) : cl n ts' (nmL o x) = imgL n (nmL o) (cl n ts x) := by
  refine rise_eq cl_lot.1 imgL_lot.1 fun z => ?_
  rw [mem_cl, tie_ren pm pts lt et hx, imgL_img (fun y hy => nm_into pm y (cl_lot.2 y hy)) z]
  constructor
  · rintro ⟨y, hy, e, r⟩
    exact ⟨y, mem_cl.mpr ⟨hy, r⟩, e⟩
  · rintro ⟨y, hy, e⟩
    obtain ⟨a, b⟩ := mem_cl.mp hy
    exact ⟨y, a, e, b⟩
theorem parts_ren {ds : List (List Int)} (pm : o.Perm (things n)) (pts : Prs (n : Int) ts) (lt : ∀ p ∈ ts, p.1 < p.2) (et : ts'.Perm (ts.map (rtL o))) (pd : ds.Perm ((partsL n ts).map (imgL n (nmL o)))) (so : ds.Pairwise (· ≤ ·)) : ds = partsL n ts' := by
  have lo : o.length = n := by rw [pm.length_eq, things_len]
  have nd := pm.nodup_iff.mpr (things_nodup n)
  have inj : ∀ x y, x ∈ things n → y ∈ things n → nmL o x = nmL o y → x = y := fun x y hx hy e => nm_inj nd (by rw [lo]; exact mem_things.mp hx) (by rw [lo]; exact mem_things.mp hy) e
  refine rows_one so (pd.nodup_iff.mpr (nd_mapOn parts_nd fun a ha b hb e => ?_)) parts_srt parts_nd fun l => ?_
  · obtain ⟨x, hx, rfl⟩ := mem_parts.mp ha
    obtain ⟨y, hy, rfl⟩ := mem_parts.mp hb
    rw [← cl_ren pm pts lt et hx, ← cl_ren pm pts lt et hy] at e
    have h : nmL o y ∈ cl n ts' (nmL o x) := by rw [e]; exact cl_self (nm_into pm y hy)
    obtain ⟨z, hz, ez, rz⟩ := (tie_ren pm pts lt et hx).mp (mem_cl.mp h)
    rw [inj y z hy hz ez]
    exact cl_eq rz
  · rw [pd.mem_iff, List.mem_map, mem_parts]
    constructor
    · rintro ⟨m, hm, rfl⟩
      obtain ⟨x, hx, rfl⟩ := mem_parts.mp hm
      exact ⟨nmL o x, nm_into pm x hx, (cl_ren pm pts lt et hx).symm⟩
    · rintro ⟨w, hw, rfl⟩
      obtain ⟨x, hx, rfl⟩ := nm_onto pm w hw
      exact ⟨cl n ts x, mem_parts.mpr ⟨x, hx, rfl⟩, (cl_ren pm pts lt et hx).symm⟩
end
end Tk

namespace Tk
open PySem PySem.Spec PyProof.Rows L2
abbrev sPairsF : Stmt := top 56
abbrev sIsFull : Stmt := top 43
abbrev rMnF : List V → Hp → VK → Prop := fun xs H Q => ∃ i j, xs = [V.int i, V.int j] ∧ Q (V.int (if j < i then j else i)) H
abbrev rMxF : List V → Hp → VK → Prop := fun xs H Q => ∃ i j, xs = [V.int i, V.int j] ∧ Q (V.int (if j > i then j else i)) H
/-! ## full plans -/
noncomputable def fullB (n : Nat) (as ts : List (Int × Int)) : Bool := (looseP n as ts).isEmpty && plainB n as ts
def joinL (as ts : List (Int × Int)) : List (Int × Int) := (as.map fun p => mnx p.1 p.2) ++ ts
section
variable {n : Nat} {as ts as' ts' : List (Int × Int)}
theorem plain_less (sa : ∀ p ∈ as, p ∈ as') (st : ∀ p ∈ ts, p ∈ ts') (h : PlainP n as' ts') : PlainP n as ts := fun x hx => Nat.le_trans (nodup_le (lt_nd gl_lot.1) (gl_more sa st)) (h x hx)
theorem plain_perm (sa : ∀ p, p ∈ as ↔ p ∈ as') (st : ∀ p, p ∈ ts ↔ p ∈ ts') : plainB n as ts = plainB n as' ts' := by
  rw [Bool.eq_iff_iff, plainB_iff, plainB_iff]
  exact ⟨plain_less (fun p => (sa p).mpr) (fun p => (st p).mpr), plain_less (fun p => (sa p).mp) (fun p => (st p).mp)⟩
theorem jB_iff {p : Int × Int} : jB as ts p = true ↔ p ∈ as ∨ p ∈ ts ∨ swp p ∈ as ∨ swp p ∈ ts := by
  unfold jB
  rw [Bool.or_eq_true, decide_eq_true_eq, decide_eq_true_eq, List.mem_append, List.mem_append, or_assoc]
theorem loose_nil : (looseP n as ts).isEmpty = true ↔ ∀ x ∈ things n, ∀ y ∈ things n, x < y → jB as ts (x, y) = true := by
  unfold looseP
  rw [List.isEmpty_iff, List.filter_eq_nil_iff]
  constructor
  · intro h x hx y hy l
    have := h (x, y) (mem_rowsT.mpr ⟨(mem_things.mp hx).1, l, (mem_things.mp hy).2⟩)
    simpa using this
  · intro h p hp
    obtain ⟨a, b, c⟩ := (mem_rowsT (x := p.1) (y := p.2)).mp hp
    have := h p.1 (mem_things.mpr ⟨a, by omega⟩) p.2 (mem_things.mpr ⟨by omega, c⟩) b
    simpa using this
theorem jB_sym {x y : Int} : jB as ts (x, y) = jB as ts (y, x) := by
  rw [Bool.eq_iff_iff, jB_iff, jB_iff]
  simp only [swp]
  constructor
  · rintro (h | h | h | h)
    · exact .inr (.inr (.inl h))
    · exact .inr (.inr (.inr h))
    · exact .inl h
    · exact .inr (.inl h)
  · rintro (h | h | h | h)
    · exact .inr (.inr (.inl h))
    · exact .inr (.inr (.inr h))
    · exact .inl h
    · exact .inr (.inl h)
theorem loose_all : (looseP n as ts).isEmpty = true ↔ ∀ x ∈ things n, ∀ y ∈ things n, x ≠ y → jB as ts (x, y) = true := by
  rw [loose_nil]
  constructor
  · intro h x hx y hy ne
    rcases Int.lt_or_gt_of_ne ne with l | l
    · exact h x hx y hy l
    · rw [jB_sym]; exact h y hy x hx l
  · exact fun h x hx y hy l => h x hx y hy (by omega)
theorem full_perm (sa : ∀ p, p ∈ as ↔ p ∈ as') (st : ∀ p, p ∈ ts ↔ p ∈ ts') : fullB n as ts = fullB n as' ts' := by
  unfold fullB
  rw [plain_perm sa st]
  congr 1
  rw [Bool.eq_iff_iff, loose_all, loose_all]
  refine forall_congr' fun x => forall_congr' fun _ => forall_congr' fun y => forall_congr' fun _ => forall_congr' fun _ => ?_
  rw [jB_iff, jB_iff, sa, st, sa, st]
/-- an arrow and a tie of two things: not plain -/
theorem bow_plain {a b : Int} (pa : Prs (n : Int) as) (h : (a, b) ∈ as) (t : (a, b) ∈ ts ∨ (b, a) ∈ ts) : ¬ PlainP n as ts := fun pl => by
  obtain ⟨a0, a1, b0, b1, ne⟩ := pa.2.2 _ h
  have ha : a ∈ things n := mem_things.mpr ⟨a0, a1⟩
  have hb : b ∈ things n := mem_things.mpr ⟨b0, b1⟩
  have ne' : a ≠ b := ne
  have key : ∀ l : List Int, l.Pairwise (· < ·) → (∀ y, y ∈ l ↔ y = a ∨ y = b) → Good n as ts b l := fun l so m => by
    have ma : a ∈ l := (m a).mpr (.inl rfl)
    have mb : b ∈ l := (m b).mpr (.inr rfl)
    refine ⟨⟨so, fun y hy => ?_⟩, mb, fun y hy => ?_, fun y hy => ?_⟩
    · rcases (m y).mp hy with rfl | rfl <;> assumption
    · rcases (m y).mp hy with rfl | rfl
      · exact .tail .refl (mem_upIn.mpr ⟨h, ma, mb⟩)
      · exact .refl
    · rcases (m y).mp hy with rfl | rfl
      · exact .tail .refl (mem_tieIn.mpr ⟨t.symm, mb, ma⟩)
      · exact .refl
  have two : ∀ l : List Int, l.length = 2 → Good n as ts b l → False := fun l hl g => by
    have h1 := nodup_le (lt_nd g.lot.1) (m := gl n as ts b) (good_sub g)
    have h2 := pl b hb
    omega
  rcases Int.lt_or_gt_of_ne ne' with l | l
  · exact two [a, b] rfl (key [a, b] (by simp [l]) (fun y => by simp))
  · exact two [b, a] rfl (key [b, a] (by simp; exact l) (fun y => by simp [or_comm]))
theorem mnx_rows {a b : Int} (ha : a ∈ things n) (hb : b ∈ things n) (ne : a ≠ b) : mnx a b ∈ rowsT n n := by
  have h1 := mem_things.mp ha
  have h2 := mem_things.mp hb
  rcases Int.lt_or_gt_of_ne ne with l | l
  · rcases mnx_mem ne with e | e
    · rw [e]; exact mem_rowsT.mpr ⟨h1.1, l, h2.2⟩
    · have := mnx_lt ne
      rw [e] at this
      exact absurd this (by show ¬ b < a; omega)
  · rcases mnx_mem ne with e | e
    · have := mnx_lt ne
      rw [e] at this
      exact absurd this (by show ¬ a < b; omega)
    · rw [e]; exact mem_rowsT.mpr ⟨h2.1, l, h1.2⟩
theorem full_law {ps : List (Int × Int)} (n6 : n ≤ 6) (pa : Prs (n : Int) as) (ac : Acy as) (pt : Prs (n : Int) ts) (lt : ∀ q ∈ ts, q.1 < q.2) (pm : ps.Perm (joinL as ts)) (so : SrtPs ps) :
    (decide (ps = rowsT n n) && plainB n as ts) = fullB n as ts := by
  unfold fullB
  cases c : plainB n as ts with
  | false => rw [Bool.and_false, Bool.and_false]
  | true =>
    rw [Bool.and_true, Bool.and_true, Bool.eq_iff_iff, decide_eq_true_eq, loose_nil]
    have pl := plainB_iff.mp c
    have th : ∀ p ∈ as, p.1 ∈ things n ∧ p.2 ∈ things n ∧ p.1 ≠ p.2 := fun p hp => by
      obtain ⟨a, b, c, d, e⟩ := pa.2.2 p hp
      exact ⟨mem_things.mpr ⟨a, b⟩, mem_things.mpr ⟨c, d⟩, e⟩
    constructor
    · intro e x hx y hy l
      have h1 : (x, y) ∈ joinL as ts := pm.mem_iff.mp (by rw [e]; exact mem_rowsT.mpr ⟨(mem_things.mp hx).1, l, (mem_things.mp hy).2⟩)
      rw [jB_iff]
      rcases List.mem_append.mp h1 with h | h
      · obtain ⟨p, hp, e2⟩ := List.mem_map.mp h
        rcases mnx_mem (th p hp).2.2 with k | k
        · rw [k] at e2; rw [← e2]; exact .inl hp
        · rw [k] at e2; rw [← e2]; exact .inr (.inr (.inl hp))
      · exact .inr (.inl h)
    · intro al
      have nd : (joinL as ts).Nodup := by
        refine List.nodup_append.mpr ⟨nd_mapOn pa.1 fun p hp q hq e => ?_, pt.1, fun u hu v hv e => ?_⟩
        · obtain ⟨r, hr⟩ := ac
          rcases mnx_mem (th p hp).2.2 with k | k <;> rcases mnx_mem (th q hq).2.2 with j | j <;> rw [k, j] at e <;> obtain ⟨e1, e2⟩ := Prod.mk.inj e
          · exact Prod.ext e1 e2
          · have := hr p hp; have := hr q hq; rw [← e1, ← e2] at this; omega
          · have := hr p hp; have := hr q hq; rw [← e1, ← e2] at this; omega
          · exact Prod.ext e2 e1
        · obtain ⟨p, hp, e2⟩ := List.mem_map.mp hu
          refine bow_plain (a := p.1) (b := p.2) pa hp ?_ pl
          rw [← e, ← e2] at hv
          rcases mnx_mem (th p hp).2.2 with k | k
          · rw [k] at hv; exact .inl hv
          · rw [k] at hv; exact .inr hv
      refine srt_eq so (rowsT_srt n6) (pm.trans ((List.perm_ext_iff_of_nodup nd (rowsT_nd n6)).mpr fun q => ?_))
      constructor
      · intro h
        rcases List.mem_append.mp h with h | h
        · obtain ⟨p, hp, rfl⟩ := List.mem_map.mp h
          obtain ⟨a, b, c⟩ := th p hp
          exact mnx_rows a b c
        · obtain ⟨a, b, c, d, _⟩ := pt.2.2 q h
          exact mem_rowsT.mpr ⟨a, lt q h, d⟩
      · intro h
        obtain ⟨a, b, c⟩ := (mem_rowsT (x := q.1) (y := q.2)).mp h
        have j := al q.1 (mem_things.mpr ⟨a, by omega⟩) q.2 (mem_things.mpr ⟨by omega, c⟩) b
        rw [jB_iff] at j
        have ins : ∀ p ∈ as, (p = q ∨ p = swp q) → q ∈ joinL as ts := fun p hp e => by
          refine List.mem_append_left _ (List.mem_map.mpr ⟨p, hp, ?_⟩)
          have lt1 := mnx_lt (th p hp).2.2
          rcases mnx_mem (th p hp).2.2 with k | k
          · rw [k] at lt1 ⊢
            rcases e with e | e
            · exact e
            · rw [e] at lt1; exact absurd lt1 (by show ¬ q.2 < q.1; omega)
          · rw [k] at lt1 ⊢
            rcases e with e | e
            · rw [e] at lt1; exact absurd lt1 (by show ¬ q.2 < q.1; omega)
            · rw [e]; rfl
        rcases j with h | h | h | h
        · exact ins _ h (.inl rfl)
        · exact List.mem_append_right _ h
        · exact ins _ h (.inr rfl)
        · have := lt _ h
          exact absurd this (by show ¬ q.2 < q.1; omega)
end
theorem rsP_goF {K : PySem.W.Frag} {H : Hp} {Q : VK} {b : Addr} {xs : List V} {ps : List (Int × Int)} (hb : H b = some (.lst xs)) (ta : TA H xs ps ps.length)
    (q : ∀ (G : Hp) (p : Addr) (zs : List V) (ps1 : List (Int × Int)), Same H G → H p = none → G p = some (.lst zs) → DpAll K G zs (ps1.map dP) → ps1.Perm ps → SrtPs ps1 → Q (.ref p) G) : rSortedPO K [.ref b] H Q := by
  refine ⟨b, xs, prV H, rfl, sl_of hb, fun x hx => ?_, fun zs pz srt stb hpz => ?_⟩
  · obtain ⟨k, hk⟩ := List.getElem?_of_mem hx
    obtain ⟨t', z, e1, _, e3⟩ := ta.2 k x hk
    exact ⟨t', e1, by rw [e1, prV_eq e3]; exact e3⟩
  · obtain ⟨sA, dA⟩ := sort_pairs (K := K) ta.1 ta.2 srt stb
    exact q _ pz zs _ (same_new hpz) hpz upd_same (dps_s dA (same_new hpz)) sA.1 sA.2
theorem nil_goF {σ : L2.St} {H : Hp} {k : List V → Hp → Prop} (h : k [] H) : tNil σ H k := h
theorem eqv_psF : ∀ ps qs : List (Int × Int), PyData.eqv (.list (ps.map dP)) (.list (qs.map dP)) = decide (ps = qs) := by
  have one : ∀ p q : Int × Int, PyData.eqv (dP p) (dP q) = decide (p = q) := fun p q => by
    obtain ⟨u, v⟩ := p
    obtain ⟨x, y⟩ := q
    simp [dP, PyData.eqv, PyData.eqvAll]
    by_cases c1 : u = x <;> by_cases c2 : v = y <;> simp [c1, c2]
  have key : ∀ ps qs : List (Int × Int), PyData.eqvAll (ps.map dP) (qs.map dP) = decide (ps = qs) := by
    intro ps
    induction ps with
    | nil => intro qs; cases qs <;> simp [PyData.eqvAll]
    | cons p ps ih =>
      intro qs
      cases qs with
      | nil => simp [PyData.eqvAll]
      | cons q qs =>
        simp only [List.map_cons, PyData.eqvAll, one, ih]
        by_cases c : p = q <;> by_cases c2 : ps = qs <;> simp [c, c2]
  intro ps qs
  simp only [PyData.eqv]
  exact key ps qs
theorem ta_mutF {G : Hp} {D : Addr} {xs o o' : List V} {ps : List (Int × Int)} {k : Nat} (hD : G D = some (.lst o)) (h : TA G xs ps k) : TA (upd G D (.lst o')) xs ps k :=
  ⟨h.1, fun i x hx => by
    obtain ⟨t, z, e1, e2, e3⟩ := h.2 i x hx
    exact ⟨t, z, e1, e2, by rw [upd_ne (fun e => by rw [e, hD] at e3; cases e3)]; exact e3⟩⟩
def spPairsF : Sp := fun vs H Q _ => ∃ n : Nat, vs = [.int n] ∧ n ≤ 6 ∧ ∀ (H' : Hp) (r : Addr) (acc : List V), Same H H' → H r = none → H' r = some (.lst acc) → TA H' acc (rowsT n n) (rowsT n n).length → Q (.ref r) H'
def spFullL (K : PySem.W.Frag) : Sp := fun vs H Q _ => ∃ (n : Nat) (a b : Addr) (ys : List V) (as ts : List (Int × Int)), vs = [.int n, .ref a, .ref b] ∧ PL K H a as ∧ H b = some (.lst ys) ∧ TA H ys ts ts.length ∧ n ≤ 6 ∧ Prs (n : Int) as ∧ Acy as ∧ Prs (n : Int) ts ∧ (∀ q ∈ ts, q.1 < q.2) ∧
  ∀ (H' : Hp), Same H H' → Q (.bl (fullB n as ts)) H'
def spIsFull (K : PySem.W.Frag) (C : Addr) : Sp := fun vs H Q _ => ∃ (p : Addr) (n : Nat) (as ts : List (Int × Int)), vs = [.ref p] ∧ PlanAt K C H p n as ts ∧ ∀ (H' : Hp), Same H H' → Q (.bl (fullB n as ts)) H'
section
variable {P : Program} {w : World} {K : PySem.W.Frag} {mg : Str → Option Value} {base : Heap}
abbrev nPairsF : List Str := ["_law_size", "_law_found", "_law_low", "_law_high"]
theorem sc_pairsF : FnScope nPairsF ["_law_size"] (defScope sPairsF) := ⟨rfl, rfl, rfl, by decide +kernel, rfl, by decide +kernel, by decide +kernel⟩
theorem ok_pairsF {f : Addr} {fd : FuncData} (F : Fun K "_law_pairs" "_law_pairs" sPairsF f fd) (B : Bl mg) : FnOk P w K mg base CX0 1 f fd ["_law_size"] spPairsF := by
  refine F.ok sc_pairsF (fun vs H Q E h => ?_) (fun cdv A outer s H vs Q E hr h => ?_)
  · obtain ⟨n, rfl, _⟩ := h
    rfl
  · obtain ⟨n, rfl, n6, q⟩ := h
    refine ⟨_, pss_cons (ps_set (i := 1) sc_pairsF.nd rfl (Or.inl rfl) (pe_lst pa_nil))
      (pss_cons (ps_for PassesOwn.never rfl (pi_range1 rfl B.range (pa_cons (pv 0) pa_nil)) (pg_name (i := 2) sc_pairsF.nd rfl (Or.inr rfl))
        (pss_one (ps_expr (pe_bm PySem.F.plainAttrs_list PySem.F.slot_list_extend PySem.F.type_list_extend mt_extend (pv 1) (pa_cons
          (pe_lc (own := [("_law_high", 3)]) (g := gName 3) (tt := tYes) (te := tTup (tCons (tVar 2) (tCons (tVar 3) tNil))) rfl sc_pairsF.nd (pi_range2 rfl B.range (pa_cons (pe_op op_add (pv 2) pe_int) (pa_cons (pv 0) pa_nil))) (blkOk_by (N := nPairsF) (sc := defScope sPairsF) (by decide +kernel))
            (fun _ _ _ _ _ => pg_name (i := 3) sc_pairsF.nd rfl (Or.inl rfl)) (fun _ _ _ _ _ => pts_nil) (fun _ _ _ _ _ => pe_tup (pa_cons (pv 2) (pa_cons (pv 3) pa_nil)))) pa_nil)))))
      (pss_one (ps_ret (pv 1)))), ?_⟩
    refine ⟨szle (by show 0 ≤ 100000; decide), fun pf hpf => ?_⟩
    refine ⟨_, rfl, n, rfl, by omega, by omega, for_range (lo := 0) (n := ((n : Nat) : Int).toNat) (fun i σ G => ∃ (v2 : Option V) (acc : List V), σ = [some (V.int n), some (V.ref pf), v2, none] ∧ Same H G ∧ G pf = some (.lst acc) ∧ TA G acc (rowsT n i) (rowsT n i).length) ⟨none, [], rfl, same_new hpf, upd_same, ta_0 _ _⟩ ?_ ?_⟩
    · rintro i σ G hi ⟨v2, acc, rfl, sG, hacc, ta⟩
      have hi' : i < n := by omega
      have few := rowsT_few (n := n) (k := i) n6 (by omega)
      have la := ta.1
      refine ⟨_, rfl, .inl ⟨rfl, _, sl_of hacc⟩, ?_⟩
      refine ⟨_, rfl, _, _, rfl, rfl, _, rfl, _, _, rfl, (by omega), fun D hD => ?_⟩
      have nD : D ≠ pf := fun e => by rw [e, hacc] at hD; cases hD
      refine lc_range (lo := 0 + (i : Int) + 1) (n := ((n : Int) - (0 + (i : Int) + 1)).toNat) (fun j G2 => Same G G2 ∧ ∃ ac, G2 D = some (.lst ac) ∧ TA G2 ac (rowT n i) j) ⟨same_new hD, [], upd_same, ta_0 _ _⟩ ?_ ?_
      · rintro j G2 hj ⟨s2, ac, hac, ta2⟩
        refine ⟨rfl, _, rfl, _, rfl, szle (by show 2 ≤ 100000; decide), fun c hc => ?_⟩
        have ncD : D ≠ c := fun e => by rw [← e, hac] at hc; cases hc
        refine ⟨ac, by rw [upd_ne ncD]; exact hac, szlt (by have := ta2.1; omega), same_mut (s2.trans (same_new hc)) hD, ac ++ [.ref c], upd_same, ?_⟩
        refine ta_put (z := (0 + (i : Int), 0 + (i : Int) + 1 + (j : Int))) ta2 hac hc ?_
        unfold rowT
        rw [List.getElem?_map, List.getElem?_range (by omega)]
        refine congrArg some (Prod.ext ?_ ?_)
        · show (i : Int) = 0 + (i : Int); omega
        · show ((i + 1 + j : Nat) : Int) = 0 + (i : Int) + 1 + (j : Int); omega
      · rintro G2 ⟨s2, ac, hac, ta2⟩
        have lr : ((n : Int) - (0 + (i : Int) + 1)).toNat = (rowT n i).length := by
          unfold rowT
          rw [List.length_map, List.length_range]
          omega
        rw [lr] at ta2
        have few2 := rowsT_few (n := n) (k := i + 1) n6 (by omega)
        rw [rowsT_succ, List.length_append] at few2
        have lac := ta2.1
        have hacc2 := s2 _ _ hacc
        refine ⟨pf, D, acc, ac, rfl, rfl, hacc2, hac, szle (by omega), ?_⟩
        refine ⟨_, acc ++ ac, rfl, same_mut (sG.trans s2) hpf, upd_same, ?_⟩
        rw [rowsT_succ]
        exact ta_mutF hacc2 (ta_app (ta_s ta s2) ta2)
    · rintro σ G ⟨v2, acc, rfl, sG, hacc, ta⟩
      rw [show ((n : Nat) : Int).toNat = n by omega] at ta
      exact ⟨_, rfl, q G pf acc sG hpf hacc ta⟩
abbrev nFullL : List Str := ["_law_size", "_law_arrows", "_law_ties", "_law_joined", "_law_start", "_law_end", "_law_low", "_law_high"]
theorem sc_isFull : FnScope ["plan"] ["plan"] (defScope sIsFull) := ⟨rfl, rfl, rfl, by decide +kernel, rfl, by decide +kernel, by decide +kernel⟩
theorem ok_isFull {f f1 f2 f3 C pW gW fA fT : Addr} {fd fd1 fd2 fd3 fdW fdA fdT : FuncData} (F : Fun K "is_full" "is_full" sIsFull f fd) (M : PlM K mg C pW gW fA fT fdW fdA fdT) (D1 : Df K mg "check_plan" sChkPlan ["plan"] f1 fd1) (D2 : Df K mg "loose_pairs" sLoose ["plan"] f2 fd2)
    (D3 : Df K mg "is_plain" sIsPlain ["plan"] f3 fd3) (G3 : FnOk P w K mg base CX0 7 f3 fd3 ["plan"] (spIsPlain K C)) (B : Bl mg) : FnOk P w K mg base CX0 8 f fd ["plan"] (spIsFull K C) := by
  have G1 : FnOk P w K mg base CX0 1 f1 fd1 ["plan"] (spChkPlan C) := ok_chkPlan D1.F M.c M.ins B
  have G2 : FnOk P w K mg base CX0 3 f2 fd2 ["plan"] (spLoose K C) := ok_loose D2.F M B
  refine F.ok sc_isFull (fun vs H Q E h => ?_) (fun cdv A outer s H vs Q E hr h => ?_)
  · obtain ⟨p, n, as, ts, rfl, _⟩ := h
    rfl
  · obtain ⟨p, n, as, ts, rfl, hP, q⟩ := h
    refine ⟨_, pss_cons (ps_expr (pe_call G1 (hr.mono (by decide)) rfl D1.g D1.F.kp D1.b .nil pass0 (pa_cons (pv 0) pa_nil)))
      (pss_one (ps_ret (pe_and (pe_cmpR op_eq (pe_callB call_len_seq (by rfl) B.len PySem.boot_len (pa_cons (pe_call G2 (hr.mono (by decide)) rfl D2.g D2.F.kp D2.b .nil pass0 (pa_cons (pv 0) pa_nil)) pa_nil)) pe_int (nomark _))
        (pe_one (pe_call G3 hr rfl D3.g D3.F.kp D3.b .nil pass0 (pa_cons (pv 0) pa_nil)))))), ?_⟩
    obtain ⟨⟨dx, a0, t0, hp, _⟩, _⟩ := id hP
    refine ⟨_, rfl, p, dx, _, rfl, hp, ?_⟩
    refine ⟨_, rfl, p, n, as, ts, rfl, hP, fun H1 r s1 _ ⟨acc, hacc, ta⟩ => ?_⟩
    refine ⟨r, _, rfl, .inl (sl_of hacc), rfl, ?_⟩
    have e : V.bl (decide (V.int (acc.length : Nat) = V.int 0)) = V.bl ((looseP n as ts).isEmpty) := by
      rw [dec_bl, ta.1]
      cases looseP n as ts with
      | nil => rfl
      | cons a l =>
        rw [decide_eq_false (by rw [List.length_cons]; omega)]
        rfl
    rw [e]
    unfold fullB at q
    cases c : (looseP n as ts).isEmpty with
    | true =>
      rw [c] at q
      refine ⟨_, rfl, iteT ⟨_, rfl, p, n, as, ts, rfl, plan_s hP s1, fun H2 s2 => ?_⟩⟩
      have := q H2 (s1.trans s2)
      rw [Bool.true_and] at this
      exact this
    | false =>
      rw [c] at q
      exact ⟨_, rfl, iteF (q H1 s1)⟩
end
end Tk

/-! plain mathematics: walks along pairs, roads -/
namespace Tk
theorem fm_congr {α β : Type} {f g : α → List β} {l : List α} (h : ∀ x ∈ l, f x = g x) : l.flatMap f = l.flatMap g := by
  induction l with
  | nil => rfl
  | cons x l ih =>
    rw [List.flatMap_cons, List.flatMap_cons, h x (List.mem_cons_self ..), ih fun y hy => h y (List.mem_cons_of_mem _ hy)]
theorem flatMap_permL {α β : Type} {f g : α → List β} (l : List α) (h : ∀ x ∈ l, (f x).Perm (g x)) : (l.flatMap f).Perm (l.flatMap g) := by
  induction l with
  | nil => exact .refl _
  | cons x l ih =>
    rw [List.flatMap_cons, List.flatMap_cons]
    exact (h x (List.mem_cons_self ..)).append (ih fun y hy => h y (List.mem_cons_of_mem _ hy))
theorem flatMap_cons_perm {α β : Type} (f : α → β) (g : α → List β) (l : List α) : (l.flatMap fun x => f x :: g x).Perm (l.map f ++ l.flatMap g) := by
  induction l with
  | nil => exact .refl _
  | cons x l ih =>
    rw [List.flatMap_cons, List.flatMap_cons, List.map_cons, List.cons_append, List.cons_append]
    refine .cons _ ?_
    refine ((List.Perm.refl (g x)).append ih).trans ?_
    rw [← List.append_assoc, ← List.append_assoc]
    exact List.perm_append_comm.append (.refl _)
theorem swap_perm {α β : Type} (U : List α) (D : List β) : (U.flatMap fun u => D.map fun d => (u, d)).Perm (D.flatMap fun d => U.map fun u => (u, d)) := by
  induction U with
  | nil =>
    have : (D.flatMap fun d => ([] : List α).map fun u => (u, d)) = [] := by
      induction D with
      | nil => rfl
      | cons d D ih => rw [List.flatMap_cons, ih]; rfl
    rw [this]
    exact .refl _
  | cons u U ih =>
    rw [List.flatMap_cons]
    exact ((List.Perm.refl _).append ih).trans (flatMap_cons_perm (fun d => (u, d)) (fun d => U.map fun u => (u, d)) D).symm
/-- an order of all things along arrows without rings -/
theorem topo_ex {n : Nat} {ps : List (Int × Int)} (ha : Acy ps) (hr : ∀ p ∈ ps, p.1 ∈ things n) : ∀ (k : Nat) (o l : List Int), l.length = k → OInv n ps o l → ∃ o', Topo n ps o' := by
  intro k
  induction k with
  | zero =>
    intro o l hl inv
    rw [List.length_eq_zero_iff.mp hl] at inv
    exact ⟨o, oinv_end inv⟩
  | succ k ih =>
    intro o l hl inv
    have ne : l ≠ [] := fun e => by rw [e] at hl; simp at hl
    obtain ⟨x, hx⟩ := List.exists_mem_of_ne_nil _ (freeL_ne ha ne)
    have hxl := (mem_freeL.mp hx).1
    exact ih (o ++ [x]) (l.erase x) (by rw [List.length_erase_of_mem hxl]; omega) (oinv_step inv hr hx)
/-- a numbering of the things that rises along the arrows -/
structure Rank (n : Nat) (ps : List (Int × Int)) (r : Int → Nat) : Prop where
  up : ∀ p ∈ ps, r p.2 < r p.1
  lt : ∀ x ∈ things n, r x < n
  inj : ∀ x ∈ things n, ∀ y ∈ things n, r x = r y → x = y
theorem rank_ex {n : Nat} {as : List (Int × Int)} (ha : Acy as) (hi : ∀ p ∈ as, p.1 ∈ things n ∧ p.2 ∈ things n) : ∃ r, Rank n (as.map fun p => (p.2, p.1)) r := by
  obtain ⟨o, T⟩ := topo_ex ha (fun p hp => (hi p hp).1) _ [] (things n) rfl (oinv_0 n as)
  have at' : ∀ x ∈ things n, o[o.idxOf x]? = some x := fun x hx => by
    have h := List.idxOf_lt_length_of_mem ((T.mem x).mpr hx)
    rw [List.getElem?_eq_getElem h, List.getElem_idxOf h]
  refine ⟨fun x => o.idxOf x, fun p hp => ?_, fun x hx => ?_, fun x hx y hy e => ?_⟩
  · obtain ⟨q, hq, rfl⟩ := List.mem_map.mp hp
    exact T.at_ q hq _ _ (at' _ (hi q hq).1) (at' _ (hi q hq).2)
  · have h := List.idxOf_lt_length_of_mem ((T.mem x).mpr hx)
    rw [topo_len T] at h
    exact h
  · have h1 := at' x hx
    have h2 := at' y hy
    rw [show o.idxOf x = o.idxOf y from e, h2] at h1
    exact (Option.some.inj h1).symm
def lastW (w : List Int) : Int := w.getLast?.getD 0
theorem lastW_snoc {w : List Int} {x : Int} : lastW (w ++ [x]) = x := by simp [lastW]
/-- a walk, one step longer -/
def nxW (ps : List (Int × Int)) (w : List Int) : List (List Int) := (ps.filter fun p => decide (p.1 = lastW w)).map fun p => w ++ [p.2]
/-- all walks that begin so, by at most k steps more -/
def exts (ps : List (Int × Int)) : Nat → List Int → List (List Int)
  | 0, w => [w]
  | k + 1, w => w :: (nxW ps w).flatMap (exts ps k)
section
variable {n : Nat} {ps ps' : List (Int × Int)} {r : Int → Nat}
theorem mem_nx {w v : List Int} : v ∈ nxW ps w ↔ ∃ p ∈ ps, p.1 = lastW w ∧ v = w ++ [p.2] := by
  unfold nxW
  rw [List.mem_map]
  constructor
  · rintro ⟨p, hp, rfl⟩
    obtain ⟨h1, h2⟩ := List.mem_filter.mp hp
    exact ⟨p, h1, of_decide_eq_true h2, rfl⟩
  · rintro ⟨p, h1, h2, rfl⟩
    exact ⟨p, List.mem_filter.mpr ⟨h1, decide_eq_true h2⟩, rfl⟩
theorem nx_less (up : ∀ p ∈ ps, r p.2 < r p.1) {w v : List Int} (h : v ∈ nxW ps w) : r (lastW v) < r (lastW w) := by
  obtain ⟨p, hp, e, rfl⟩ := mem_nx.mp h
  rw [lastW_snoc, ← e]
  exact up p hp
theorem exts_self {k : Nat} {w : List Int} : w ∈ exts ps k w := by
  cases k with
  | zero => exact List.mem_singleton.mpr rfl
  | succ k => exact List.mem_cons_self ..
theorem exts_ne {k : Nat} {w : List Int} : exts ps k w ≠ [] := fun e => by
  have := exts_self (ps := ps) (k := k) (w := w)
  rw [e] at this
  exact nomatch this
theorem exts_more (up : ∀ p ∈ ps, r p.2 < r p.1) : ∀ (k : Nat) (w : List Int), r (lastW w) ≤ k → exts ps (k + 1) w = exts ps k w := by
  intro k
  induction k with
  | zero =>
    intro w h
    have : nxW ps w = [] := by
      cases e : nxW ps w with
      | nil => rfl
      | cons v l =>
        have := nx_less up (w := w) (v := v) (by rw [e]; exact List.mem_cons_self ..)
        omega
    show w :: (nxW ps w).flatMap _ = [w]
    rw [this]
    rfl
  | succ k ih =>
    intro w h
    show w :: (nxW ps w).flatMap (exts ps (k + 1)) = w :: (nxW ps w).flatMap (exts ps k)
    congr 1
    refine fm_congr fun v hv => ih v ?_
    have := nx_less up hv
    omega
theorem exts_step (up : ∀ p ∈ ps, r p.2 < r p.1) {k : Nat} {w : List Int} (h : r (lastW w) ≤ k) : exts ps k w = w :: (nxW ps w).flatMap (exts ps k) := by
  rw [← exts_more up k w h]
  rfl
theorem exts_closed (up : ∀ p ∈ ps, r p.2 < r p.1) : ∀ (k : Nat) (w v u : List Int), r (lastW w) ≤ k → v ∈ exts ps k w → u ∈ nxW ps v → u ∈ exts ps k w := by
  intro k
  induction k with
  | zero =>
    intro w v u h hv hu
    rw [List.mem_singleton.mp hv] at hu
    have := nx_less up hu
    omega
  | succ k ih =>
    intro w v u h hv hu
    rcases List.mem_cons.mp hv with rfl | hv
    · exact List.mem_cons_of_mem _ (List.mem_flatMap.mpr ⟨u, hu, exts_self⟩)
    · obtain ⟨z, hz, hv⟩ := List.mem_flatMap.mp hv
      have := nx_less up hz
      exact List.mem_cons_of_mem _ (List.mem_flatMap.mpr ⟨z, hz, ih z v u (by omega) hv hu⟩)
theorem exts_pre : ∀ (k : Nat) (w v : List Int), v ∈ exts ps k w → ∃ u, v = w ++ u := by
  intro k
  induction k with
  | zero => intro w v h; exact ⟨[], by rw [List.mem_singleton.mp h, List.append_nil]⟩
  | succ k ih =>
    intro w v h
    rcases List.mem_cons.mp h with rfl | h
    · exact ⟨[], (List.append_nil _).symm⟩
    · obtain ⟨z, hz, h⟩ := List.mem_flatMap.mp h
      obtain ⟨p, _, _, rfl⟩ := mem_nx.mp hz
      obtain ⟨u, rfl⟩ := ih _ v h
      exact ⟨p.2 :: u, by rw [List.append_assoc]; rfl⟩
theorem exts_in {S : Int → Prop} (hp : ∀ p ∈ ps, S p.2) : ∀ (k : Nat) (w v : List Int), (∀ y ∈ w, S y) → v ∈ exts ps k w → ∀ y ∈ v, S y := by
  intro k
  induction k with
  | zero => intro w v hw h; rw [List.mem_singleton.mp h]; exact hw
  | succ k ih =>
    intro w v hw h
    rcases List.mem_cons.mp h with rfl | h
    · exact hw
    · obtain ⟨z, hz, h⟩ := List.mem_flatMap.mp h
      obtain ⟨p, h1, _, rfl⟩ := mem_nx.mp hz
      refine ih _ v (fun y hy => ?_) h
      rcases List.mem_append.mp hy with h | h
      · exact hw y h
      · rw [List.mem_singleton.mp h]; exact hp p h1
theorem exts_len (up : ∀ p ∈ ps, r p.2 < r p.1) : ∀ (k : Nat) (w v : List Int), v ∈ exts ps k w → v.length + r (lastW v) ≤ w.length + r (lastW w) := by
  intro k
  induction k with
  | zero => intro w v h; rw [List.mem_singleton.mp h]; exact Nat.le_refl _
  | succ k ih =>
    intro w v h
    rcases List.mem_cons.mp h with rfl | h
    · exact Nat.le_refl _
    · obtain ⟨z, hz, h⟩ := List.mem_flatMap.mp h
      have h1 := ih z v h
      have h2 := nx_less up hz
      obtain ⟨p, _, _, rfl⟩ := mem_nx.mp hz
      rw [List.length_append, List.length_singleton] at h1
      omega
theorem exts_reach (up : ∀ p ∈ ps, r p.2 < r p.1) {k : Nat} {s t : Int} (h : r s ≤ k) {R : Int → Int → Prop} (r0 : R s s) (r1 : ∀ u p, R s u → p ∈ ps → p.1 = u → R s p.2) : ∀ v ∈ exts ps k [s], R s (lastW v) := by
  have key : ∀ (k : Nat) (w v : List Int), R s (lastW w) → v ∈ exts ps k w → R s (lastW v) := by
    intro k
    induction k with
    | zero => intro w v hw h; rw [List.mem_singleton.mp h]; exact hw
    | succ k ih =>
      intro w v hw h
      rcases List.mem_cons.mp h with rfl | h
      · exact hw
      · obtain ⟨z, hz, h⟩ := List.mem_flatMap.mp h
        obtain ⟨p, h1, h2, rfl⟩ := mem_nx.mp hz
        refine ih _ v ?_ h
        rw [lastW_snoc]
        exact r1 _ p hw h1 h2
  exact fun v hv => key k [s] v r0 hv
/-- in another sequence of pairs -/
theorem nx_perm (pm : ps.Perm ps') {w : List Int} : (nxW ps w).Perm (nxW ps' w) := (pm.filter _).map _
theorem exts_perm (pm : ps.Perm ps') : ∀ (k : Nat) (w : List Int), (exts ps k w).Perm (exts ps' k w) := by
  intro k
  induction k with
  | zero => intro w; exact .refl _
  | succ k ih =>
    intro w
    refine .cons _ (((nx_perm pm).flatMap_right _).trans (flatMap_permL _ fun v _ => ih v))
/-- in other names -/
theorem last_map {f : Int → Int} {w : List Int} (h : w ≠ []) : lastW (w.map f) = f (lastW w) := by
  rw [← List.dropLast_concat_getLast h]
  rw [List.map_append, List.map_cons, List.map_nil, lastW_snoc, lastW_snoc]
theorem last_mem {w : List Int} (h : w ≠ []) : lastW w ∈ w := by
  have e : lastW w = w.getLast h := by unfold lastW; rw [List.getLast?_eq_some_getLast h]; rfl
  rw [e]
  exact List.getLast_mem h
theorem exts_map {f : Int → Int} {S : Int → Prop} (inj : ∀ x y, S x → S y → f x = f y → x = y) (hp : ∀ p ∈ ps, S p.1 ∧ S p.2) : ∀ (k : Nat) (w : List Int), w ≠ [] → (∀ y ∈ w, S y) → exts (ps.map fun p => (f p.1, f p.2)) k (w.map f) = (exts ps k w).map (List.map f) := by
  intro k
  induction k with
  | zero => intro w _ _; rfl
  | succ k ih =>
    intro w ne hw
    have hl := hw _ (last_mem ne)
    have e : nxW (ps.map fun p => (f p.1, f p.2)) (w.map f) = (nxW ps w).map (List.map f) := by
      unfold nxW
      rw [List.filter_map, List.map_map, List.map_map, last_map ne]
      have e1 : ps.filter ((fun p : Int × Int => decide (p.1 = f (lastW w))) ∘ fun p => (f p.1, f p.2)) = ps.filter fun p => decide (p.1 = lastW w) := by
        refine List.filter_congr fun p hp' => ?_
        show decide (f p.1 = f (lastW w)) = _
        by_cases c : p.1 = lastW w
        · rw [c]; simp
        · rw [decide_eq_false c, decide_eq_false fun z => c (inj _ _ (hp p hp').1 hl z)]
      rw [e1]
      refine List.map_congr_left fun p _ => ?_
      show w.map f ++ [f p.2] = (w ++ [p.2]).map f
      rw [List.map_append]
      rfl
    show w.map f :: (nxW _ (w.map f)).flatMap _ = _
    rw [e, List.flatMap_map]
    show _ = (w :: (nxW ps w).flatMap (exts ps k)).map (List.map f)
    rw [List.map_cons, List.map_flatMap]
    congr 1
    refine fm_congr fun v hv => ?_
    obtain ⟨p, h1, _, rfl⟩ := mem_nx.mp hv
    refine ih _ (by simp) fun y hy => ?_
    rcases List.mem_append.mp hy with h | h
    · exact hw y h
    · rw [List.mem_singleton.mp h]; exact (hp p h1).2
/-- how many -/
theorem pow_sum : ∀ (m : Nat) (l : List Nat), l.Nodup → (∀ x ∈ l, x < m) → (l.map fun x => 2 ^ x).sum + 1 ≤ 2 ^ m := by
  intro m
  induction m with
  | zero =>
    intro l _ h
    cases l with
    | nil => simp
    | cons x l => exact absurd (h x (List.mem_cons_self ..)) (by omega)
  | succ m ih =>
    intro l nd h
    by_cases c : m ∈ l
    · have pe := List.perm_cons_erase c
      have nd' := pe.nodup_iff.mp nd
      have h1 := ih (l.erase m) (List.nodup_cons.mp nd').2 fun x hx => by
        have h2 := h x (List.mem_of_mem_erase hx)
        have h3 : x ≠ m := fun e => (List.nodup_cons.mp nd').1 (e ▸ hx)
        omega
      have e := (pe.map fun x => 2 ^ x).sum_nat
      rw [List.map_cons, List.sum_cons] at e
      rw [e, Nat.pow_succ]
      omega
    · have h1 := ih l nd fun x hx => by
        have h2 := h x hx
        have h3 : x ≠ m := fun e => c (e ▸ hx)
        omega
      rw [Nat.pow_succ]
      omega
theorem sum_le {α : Type} {f g : α → Nat} : ∀ (l : List α), (∀ x ∈ l, f x ≤ g x) → (l.map f).sum ≤ (l.map g).sum
  | [], _ => Nat.le_refl _
  | x :: l, h => by
    rw [List.map_cons, List.map_cons, List.sum_cons, List.sum_cons]
    exact Nat.add_le_add (h x (List.mem_cons_self ..)) (sum_le l fun y hy => h y (List.mem_cons_of_mem _ hy))
theorem exts_count (up : ∀ p ∈ ps, r p.2 < r p.1) (inj : ∀ p ∈ ps, ∀ q ∈ ps, r p.2 = r q.2 → p.2 = q.2) (nd : ps.Nodup) : ∀ (k : Nat) (w : List Int), (exts ps k w).length ≤ 2 ^ r (lastW w) := by
  intro k
  induction k with
  | zero => intro w; exact Nat.one_le_two_pow
  | succ k ih =>
    intro w
    show (w :: (nxW ps w).flatMap (exts ps k)).length ≤ _
    rw [List.length_cons, List.length_flatMap]
    have h1 : ((nxW ps w).map fun v => (exts ps k v).length).sum ≤ ((nxW ps w).map fun v => 2 ^ r (lastW v)).sum := sum_le _ fun v _ => ih v
    have h2 : (nxW ps w).map (fun v => 2 ^ r (lastW v)) = (((nxW ps w).map fun v => r (lastW v)).map fun x => 2 ^ x) := by rw [List.map_map]; rfl
    have h3 : ((nxW ps w).map fun v => r (lastW v)).Nodup := by
      unfold nxW
      rw [List.map_map]
      show List.Pairwise _ _
      rw [List.pairwise_map]
      refine List.Pairwise.imp_of_mem (fun {p q} hp hq ne e => ?_) (nd.sublist List.filter_sublist)
      obtain ⟨a1, a2⟩ := List.mem_filter.mp hp
      obtain ⟨b1, b2⟩ := List.mem_filter.mp hq
      have e' : r p.2 = r q.2 := by
        have : r (lastW (w ++ [p.2])) = r (lastW (w ++ [q.2])) := e
        rwa [lastW_snoc, lastW_snoc] at this
      exact ne (Prod.ext ((of_decide_eq_true a2).trans (of_decide_eq_true b2).symm) (inj p a1 q b1 e'))
    have h4 := pow_sum (r (lastW w)) _ h3 fun x hx => by
      obtain ⟨v, hv, rfl⟩ := List.mem_map.mp hx
      exact nx_less up hv
    rw [h2] at h1
    omega
end
/-! ## roads -/
def topB (ts : List (Int × Int)) (a b : Int) : Bool := decide (a = b ∨ (a, b) ∈ ts ∨ (b, a) ∈ ts)
def rdsL (ts : List (Int × Int)) (U D : List (List Int)) : List (List Int × List Int) := U.flatMap fun u => (D.filter fun d => topB ts (lastW u) (lastW d)).map fun d => (u, d.reverse)
def rds (as ts : List (Int × Int)) (k : Nat) (s e : Int) : List (List Int × List Int) := rdsL ts (exts (as.map fun p => (p.2, p.1)) k [s]) (exts (as.map fun p => (p.2, p.1)) k [e])
theorem topB_sym {ts : List (Int × Int)} {a b : Int} : topB ts a b = topB ts b a := by
  unfold topB
  rw [Bool.eq_iff_iff, decide_eq_true_eq, decide_eq_true_eq]
  constructor
  · rintro (h | h | h)
    · exact .inl h.symm
    · exact .inr (.inr h)
    · exact .inr (.inl h)
  · rintro (h | h | h)
    · exact .inl h.symm
    · exact .inr (.inr h)
    · exact .inr (.inl h)
theorem topB_congr {ts ts' : List (Int × Int)} (h : ∀ p, p ∈ ts ↔ p ∈ ts') {a b : Int} : topB ts a b = topB ts' a b := by
  unfold topB
  rw [Bool.eq_iff_iff, decide_eq_true_eq, decide_eq_true_eq, h, h]
theorem rdsL_perm {ts ts' : List (Int × Int)} {U U' D D' : List (List Int)} (h : ∀ p, p ∈ ts ↔ p ∈ ts') (pU : U.Perm U') (pD : D.Perm D') : (rdsL ts U D).Perm (rdsL ts' U' D') := by
  unfold rdsL
  refine (pU.flatMap_right _).trans (flatMap_permL _ fun u _ => ?_)
  have e : (fun d => topB ts (lastW u) (lastW d)) = fun d => topB ts' (lastW u) (lastW d) := by
    funext d
    exact topB_congr h
  rw [e]
  exact (pD.filter _).map _
theorem rds_perm {as as' ts ts' : List (Int × Int)} {k : Nat} {s e : Int} (pa : as.Perm as') (h : ∀ p, p ∈ ts ↔ p ∈ ts') : (rds as ts k s e).Perm (rds as' ts' k s e) :=
  rdsL_perm h (exts_perm (pa.map _) k _) (exts_perm (pa.map _) k _)
theorem rds_as {ts : List (Int × Int)} {U D : List (List Int)} : rdsL ts U D = ((U.flatMap fun u => D.map fun d => (u, d)).filter fun q => topB ts (lastW q.1) (lastW q.2)).map fun q => (q.1, q.2.reverse) := by
  unfold rdsL
  rw [List.filter_flatMap, List.map_flatMap]
  refine fm_congr fun u _ => ?_
  rw [List.filter_map, List.map_map]
  rfl
/-- from the end to the start -/
theorem rds_turn {ts : List (Int × Int)} {U D : List (List Int)} : (rdsL ts D U).Perm ((rdsL ts U D).map fun q => (q.2.reverse, q.1.reverse)) := by
  rw [rds_as, rds_as, List.map_map]
  have e1 : ((fun q : List Int × List Int => (q.2.reverse, q.1.reverse)) ∘ fun q : List Int × List Int => (q.1, q.2.reverse)) = (fun q : List Int × List Int => (q.1, q.2.reverse)) ∘ fun q : List Int × List Int => (q.2, q.1) := by
    funext q
    show (q.2.reverse.reverse, q.1.reverse) = (q.2, q.1.reverse)
    rw [List.reverse_reverse]
  rw [e1, ← List.map_map]
  refine List.Perm.map _ ?_
  have e2 : (D.flatMap fun u => U.map fun d => (u, d)) = (D.flatMap fun d => U.map fun u => (u, d)).map fun q : List Int × List Int => (q.2, q.1) := by
    rw [List.map_flatMap]
    refine fm_congr fun d _ => ?_
    rw [List.map_map]
    rfl
  rw [e2, List.filter_map]
  refine List.Perm.map _ ?_
  have e3 : ((fun q : List Int × List Int => topB ts (lastW q.1) (lastW q.2)) ∘ fun q : List Int × List Int => (q.2, q.1)) = fun q => topB ts (lastW q.1) (lastW q.2) := by
    funext q
    exact topB_sym
  rw [e3]
  exact (swap_perm U D).symm.filter _
theorem rds_len {ts : List (Int × Int)} {U D : List (List Int)} : (rdsL ts U D).length ≤ U.length * D.length := by
  rw [rds_as, List.length_map]
  refine Nat.le_trans (List.length_filter_le ..) ?_
  induction U with
  | nil => simp
  | cons u U ih =>
    rw [List.flatMap_cons, List.length_append, List.length_map, List.length_cons, Nat.succ_mul]
    omega
theorem mem_rds {ts : List (Int × Int)} {U D : List (List Int)} {q : List Int × List Int} : q ∈ rdsL ts U D ↔ q.1 ∈ U ∧ ∃ d ∈ D, topB ts (lastW q.1) (lastW d) = true ∧ q.2 = d.reverse := by
  unfold rdsL
  rw [List.mem_flatMap]
  constructor
  · rintro ⟨u, hu, h⟩
    obtain ⟨d, hd, rfl⟩ := List.mem_map.mp h
    obtain ⟨h1, h2⟩ := List.mem_filter.mp hd
    exact ⟨hu, d, h1, h2, rfl⟩
  · rintro ⟨hu, d, hd, h, e⟩
    exact ⟨q.1, hu, List.mem_map.mpr ⟨d, List.mem_filter.mpr ⟨hd, h⟩, Prod.ext rfl e.symm⟩⟩
/-- in other names -/
theorem rdsL_map {ts ts' : List (Int × Int)} {f : Int → Int} {U D : List (List Int)} (hU : ∀ u ∈ U, u ≠ []) (hD : ∀ u ∈ D, u ≠ []) (h : ∀ u ∈ U, ∀ d ∈ D, topB ts' (f (lastW u)) (f (lastW d)) = topB ts (lastW u) (lastW d)) :
    rdsL ts' (U.map (List.map f)) (D.map (List.map f)) = (rdsL ts U D).map fun q => (q.1.map f, q.2.map f) := by
  unfold rdsL
  rw [List.flatMap_map, List.map_flatMap]
  refine fm_congr fun u hu => ?_
  rw [List.filter_map, List.map_map, List.map_map]
  have e : D.filter ((fun d => topB ts' (lastW (u.map f)) (lastW d)) ∘ List.map f) = D.filter fun d => topB ts (lastW u) (lastW d) := by
    refine List.filter_congr fun d hd => ?_
    show topB ts' (lastW (u.map f)) (lastW (d.map f)) = _
    rw [last_map (hU u hu), last_map (hD d hd)]
    exact h u hu d hd
  rw [e]
  refine List.map_congr_left fun d _ => ?_
  show (u.map f, (d.map f).reverse) = (u.map f, d.reverse.map f)
  rw [List.map_reverse]
end Tk

namespace Tk
open PySem PySem.Spec PyProof.Rows L2
/-! ## sorted, of lists of pairs -/
def flatP (ps : List (Int × Int)) : List Int := ps.flatMap fun p => [p.1, p.2]
theorem flatP_cons (p : Int × Int) (ps : List (Int × Int)) : flatP (p :: ps) = p.1 :: p.2 :: flatP ps := rfl
theorem flatP_inj : ∀ {ps qs : List (Int × Int)}, flatP ps = flatP qs → ps = qs
  | [], [], _ => rfl
  | [], q :: qs, h => by rw [flatP_cons] at h; exact nomatch h
  | p :: ps, [], h => by rw [flatP_cons] at h; exact nomatch h
  | p :: ps, q :: qs, h => by
    rw [flatP_cons, flatP_cons] at h
    injection h with h1 h
    injection h with h2 h
    rw [flatP_inj h, Prod.ext h1 h2]
section
open PySem.W
theorem alike_dP (p q : Int × Int) : alike (dP p) (dP q) = true := by simp [dP, alike, alikeAll]
theorem alike_dPsA : ∀ ps qs : List (Int × Int), alikeAll (ps.map dP) (qs.map dP) = true
  | [], _ => by simp [alikeAll]
  | _ :: _, [] => by simp [alikeAll]
  | p :: ps, q :: qs => by
    show alikeAll (dP p :: ps.map dP) (dP q :: qs.map dP) = true
    simp only [alikeAll, alike_dP, alike_dPsA ps qs, Bool.and_self]
theorem eqv_dPq {p q : Int × Int} : PyData.eqv (dP p) (dP q) = decide (p = q) := by
  obtain ⟨u, v⟩ := p
  obtain ⟨x, y⟩ := q
  simp [dP, PyData.eqv, PyData.eqvAll]
  by_cases c1 : u = x <;> by_cases c2 : v = y <;> simp [c1, c2]
theorem rowLt_pairs : ∀ ps qs : List (Int × Int), rowLt (ps.map dP) (qs.map dP) = decide (flatP ps < flatP qs)
  | [], [] => by
    have e : rowLt [] [] = false := lex_irrefl _
    simpa [flatP] using e
  | [], q :: qs => by
    have e : rowLt [] (dP q :: qs.map dP) = true := by
      unfold rowLt
      rw [toks_all_cons]
      simp only [keyToksAll]
      rw [lex_diff (O := itemOrd) (by simp)]
      rfl
    simpa [flatP_cons, flatP] using e
  | p :: ps, [] => by
    have e : rowLt (dP p :: ps.map dP) [] = false := by
      unfold rowLt
      rw [toks_all_cons]
      simp only [keyToksAll]
      rw [lex_diff (O := itemOrd) (by simp)]
      rfl
    simpa [flatP_cons, flatP] using e
  | p :: ps, q :: qs => by
    have e : rowLt (dP p :: ps.map dP) (dP q :: qs.map dP) = if p = q then rowLt (ps.map dP) (qs.map dP) else decide (p.1 < q.1 ∨ (p.1 = q.1 ∧ p.2 < q.2)) := by
      unfold rowLt
      rw [dataLt_cons (alike_dP p q), eqv_dPq]
      have e2 : dataLt (dP p) (dP q) = decide (p.1 < q.1 ∨ (p.1 = q.1 ∧ p.2 < q.2)) := dataLt_ii p.1 p.2 q.1 q.2
      rw [e2]
      by_cases c : p = q <;> simp [c]
    show rowLt (dP p :: ps.map dP) (dP q :: qs.map dP) = _
    rw [e, flatP_cons, flatP_cons]
    by_cases h : p = q
    · rw [if_pos h, rowLt_pairs ps qs, h]
      simp [List.cons_lt_cons_iff]
    · rw [if_neg h]
      obtain ⟨u, v⟩ := p
      obtain ⟨x, y⟩ := q
      simp only [List.cons_lt_cons_iff]
      by_cases c1 : u = x
      · have c2 : v ≠ y := fun c => h (by rw [c1, c])
        simp [c1, c2]
      · simp [c1]
theorem dataLe_prs {β : Type} (x : β → List (Int × Int)) : dataLe false (fun b => .list ((x b).map dP)) = fun p q => decide (flatP (x p) ≤ flatP (x q)) := by
  funext p q
  show (!dataLt (.list ((x q).map dP)) (.list ((x p).map dP))) = _
  rw [dataLt_list]
  show (!rowLt ((x q).map dP) ((x p).map dP)) = _
  rw [rowLt_pairs]
  by_cases h : flatP (x q) < flatP (x p)
  · have h' : ¬ flatP (x p) ≤ flatP (x q) := fun r => List.not_lt.mpr r h
    simp [h, h']
  · have h' : flatP (x p) ≤ flatP (x q) := List.not_lt.mp h
    simp [h, h']
end
/-- two sorted lists of the same lists of pairs -/
theorem prs_one {gs hs : List (List (Int × Int))} (s1 : gs.Pairwise fun a b => flatP a ≤ flatP b) (s2 : hs.Pairwise fun a b => flatP a ≤ flatP b) (pm : gs.Perm hs) : gs = hs :=
  List.Perm.eq_of_pairwise (fun a b _ _ h1 h2 => flatP_inj (List.le_antisymm h1 h2)) s1 s2 pm
/-- a list of lists of pairs -/
def LsQ (K : PySem.W.Frag) (G : Hp) : List V → List (List (Int × Int)) → Prop
  | [], [] => True
  | x :: xs, o :: os => (∃ (r : Addr) (zs : List V), x = .ref r ∧ G r = some (.lst zs) ∧ DpAll K G zs (o.map dP)) ∧ LsQ K G xs os
  | _, _ => False
section
variable {K : PySem.W.Frag} {G G' : Hp}
theorem lq_s (e : Same G G') : ∀ {xs : List V} {os : List (List (Int × Int))}, LsQ K G xs os → LsQ K G' xs os
  | [], [], _ => trivial
  | x :: xs, o :: os, ⟨⟨r, zs, h1, h2, h3⟩, h4⟩ => ⟨⟨r, zs, h1, e _ _ h2, dps_s h3 e⟩, lq_s e h4⟩
  | [], _ :: _, h => h.elim
  | _ :: _, [], h => h.elim
theorem lq_app : ∀ {xs ys : List V} {os ps : List (List (Int × Int))}, LsQ K G xs os → LsQ K G ys ps → LsQ K G (xs ++ ys) (os ++ ps)
  | [], _, [], _, _, h => h
  | x :: xs, _, o :: os, _, ⟨h1, h2⟩, h => ⟨h1, lq_app h2 h⟩
  | [], _, _ :: _, _, h, _ => h.elim
  | _ :: _, _, [], _, h, _ => h.elim
theorem lq_len : ∀ {xs : List V} {os : List (List (Int × Int))}, LsQ K G xs os → xs.length = os.length
  | [], [], _ => rfl
  | x :: xs, o :: os, ⟨_, h⟩ => by simp [lq_len h]
  | [], _ :: _, h => h.elim
  | _ :: _, [], h => h.elim
theorem lq_at : ∀ {xs : List V} {os : List (List (Int × Int))}, LsQ K G xs os → ∀ {i : Nat} {x : V}, xs[i]? = some x → ∃ (o : List (Int × Int)) (r : Addr) (zs : List V), os[i]? = some o ∧ x = .ref r ∧ G r = some (.lst zs) ∧ DpAll K G zs (o.map dP)
  | [], [], _, _, _, h => by simp at h
  | x :: xs, o :: os, ⟨⟨r, zs, h1, h2, h3⟩, h4⟩, i, y, h => by
    cases i with
    | zero =>
      simp at h
      subst h
      exact ⟨o, r, zs, rfl, h1, h2, h3⟩
    | succ i => exact lq_at h4 (i := i) (by simpa using h)
  | [], _ :: _, h, _, _, _ => h.elim
  | _ :: _, [], h, _, _, _ => h.elim
abbrev dLs (ps : List (Int × Int)) : PyData := .list (ps.map dP)
theorem lq_dps : ∀ {xs : List V} {os : List (List (Int × Int))}, LsQ K G xs os → DpAll K G xs (os.map dLs)
  | [], [], _ => .nil
  | x :: xs, o :: os, ⟨⟨r, zs, h1, h2, h3⟩, h4⟩ => by
    rw [h1]
    exact .cons (.lst (sl_of h2) h3) (lq_dps h4)
  | [], _ :: _, h => h.elim
  | _ :: _, [], h => h.elim
theorem lq_zip : ∀ {xs : List V} {os : List (List (Int × Int))}, LsQ K G xs os → xs = (xs.zip os).map Prod.fst ∧ os = (xs.zip os).map Prod.snd ∧ ∀ b ∈ xs.zip os, ∃ (r : Addr) (zs : List V), b.1 = .ref r ∧ G r = some (.lst zs) ∧ DpAll K G zs (b.2.map dP)
  | [], [], _ => ⟨rfl, rfl, fun _ h => nomatch h⟩
  | x :: xs, o :: os, ⟨h1, h3⟩ => by
    obtain ⟨a, b, c⟩ := lq_zip h3
    refine ⟨by simp only [List.zip_cons_cons, List.map_cons]; rw [← a], by simp only [List.zip_cons_cons, List.map_cons]; rw [← b], fun z hz => ?_⟩
    simp only [List.zip_cons_cons] at hz
    rcases List.mem_cons.mp hz with e | e
    · rw [e]; exact h1
    · exact c z e
  | [], _ :: _, h => h.elim
  | _ :: _, [], h => h.elim
theorem lq_of : ∀ {bs : List (V × List (Int × Int))}, (∀ b ∈ bs, ∃ (r : Addr) (zs : List V), b.1 = .ref r ∧ G r = some (.lst zs) ∧ DpAll K G zs (b.2.map dP)) → LsQ K G (bs.map Prod.fst) (bs.map Prod.snd)
  | [], _ => trivial
  | b :: bs, h => ⟨h b (List.mem_cons_self ..), lq_of fun c hc => h c (List.mem_cons_of_mem _ hc)⟩
/-- what changes another list -/
theorem lq_mut {D : Addr} {u : HO} (keep : ∀ {zs : List V} {o : List (Int × Int)}, DpAll K G zs (o.map dP) → DpAll K (upd G D u) zs (o.map dP)) : ∀ {xs : List V} {os : List (List (Int × Int))}, LsQ K G xs os → (∀ x ∈ xs, x ≠ .ref D) → LsQ K (upd G D u) xs os
  | [], [], _, _ => trivial
  | x :: xs, o :: os, ⟨⟨r, zs, h1, h2, h3⟩, h4⟩, n => ⟨⟨r, zs, h1, by
      have : r ≠ D := fun e => n x (List.mem_cons_self ..) (by rw [h1, e])
      rw [upd_ne this]; exact h2, keep h3⟩, lq_mut keep h4 fun y hy => n y (List.mem_cons_of_mem _ hy)⟩
  | [], _ :: _, h, _ => h.elim
  | _ :: _, [], h, _ => h.elim
end
section
open PySem.W
variable {X : Cx}
def rSortedQ (K : PySem.W.Frag) : List V → Hp → VK → Prop := fun vs H Q => ∃ (a : Addr) (xs : List V) (os : List (List (Int × Int))), vs = [V.ref a] ∧ SqL K H a xs ∧ LsQ K H xs os ∧
  ∀ (ys : List V) (os' : List (List (Int × Int))) (p : Addr), os'.Perm os → (os'.Pairwise fun a b => flatP a ≤ flatP b) → LsQ K H ys os' → ys.Perm xs → H p = none → Q (.ref p) (upd H p (.lst ys))
theorem each_valsQ : ∀ {bs : List (V × List (Int × Int))} {us : List Value}, Vals (bs.map Prod.fst) us → EachIs (fun (v : Value) (b : V × List (Int × Int)) => RelV b.1 v) us bs
  | [], _, h => by cases h; exact .nil
  | b :: bs, _, h => by
    cases h with
    | cons h1 h2 => exact .cons h1 (each_valsQ h2)
theorem vals_eachQ : ∀ {bs : List (V × List (Int × Int))} {us : List Value}, EachIs (fun (v : Value) (b : V × List (Int × Int)) => RelV b.1 v) us bs → Vals (bs.map Prod.fst) us
  | _, _, .nil => .nil
  | _, _, .cons h1 h2 => .cons h1 (vals_eachQ h2)
theorem depth_dP (p : Int × Int) : PyData.depth (dP p) ≤ 1 := by simp [dP, PyData.depth, PyData.depthAll]
theorem depth_dPs : ∀ ps : List (Int × Int), PyData.depthAll (ps.map dP) ≤ 1
  | [] => by simp [PyData.depthAll]
  | p :: ps => by
    have h1 := depth_dP p
    have h2 := depth_dPs ps
    show PyData.depthAll (dP p :: ps.map dP) ≤ 1
    simp only [PyData.depthAll]
    omega
theorem cr_sortedQ (hu : X.A.units + 64 < cLine) : CallR X (.builtin "sorted") (rSortedQ X.K) := by
  intro pins s σ H vs us Q I r h
  obtain ⟨a, xs, os, rfl, hs, ls, q⟩ := h
  obtain ⟨its, rv, hl, hz⟩ := I.list hs
  rw [Vals.ref1 r]
  obtain ⟨e1, e2, e3⟩ := lq_zip ls
  generalize xs.zip os = bs at e1 e2 e3
  subst e1
  subst e2
  have each := each_valsQ rv
  have reads : EachIs (fun (v : Value) (b : V × List (Int × Int)) => ∃ as, Reads s.heap v (PyData.list (b.2.map dP)) as) its bs := by
    clear q hs ls hl hz r
    induction each with
    | nil => exact .nil
    | @cons v b vs' bs' h1 h2 ih =>
      refine .cons ?_ (ih (fun c hc => e3 c (List.mem_cons_of_mem _ hc)) (by cases rv with | cons _ r2 => exact r2))
      obtain ⟨r0, zs, er, hr, dz⟩ := e3 b (List.mem_cons_self ..)
      rw [er] at h1
      exact Dp.reads I _ (.ref r0) v (.lst (sl_of hr) dz) h1
  refine sorted_data (enc := fun b : V × List (Int × Int) => PyData.list (b.2.map dP)) (R := fun (v : Value) (b : V × List (Int × Int)) => RelV b.1 v) hl.isList each reads (AllAlike.of fun b b' => by simp only [alike]; exact alike_dPsA _ _) (Sortable.others fun b => ⟨by simp, by simp⟩) (by rw [List.length_map] at hz; exact hz) (fun b hb => ?_) fun out hlen ho => ?_
  · have : PyData.depth (PyData.list (b.2.map dP)) ≤ 2 := by
      rw [PyData.depth]
      have := depth_dPs b.2
      omega
    omega
  · rw [dataLe_prs (fun b : V × List (Int × Int) => b.2)] at ho
    obtain ⟨ep, he'⟩ := PyProof.Rows.sortedAll_at s.heap its out.toArray
    have vo := vals_eachQ ho
    generalize hbs : bs.mergeSort (fun p q => decide (flatP p.2 ≤ flatP q.2)) = bs' at ho vo
    have pm : bs'.Perm bs := by rw [← hbs]; exact List.mergeSort_perm ..
    have srt : bs'.Pairwise (fun p q => decide (flatP p.2 ≤ flatP q.2) = true) := by
      rw [← hbs]
      refine List.pairwise_mergeSort (fun a b c h1 h2 => ?_) (fun a b => ?_) bs
      · simp only [decide_eq_true_eq] at h1 h2 ⊢
        exact List.le_trans h1 h2
      · simp only [Bool.or_eq_true, decide_eq_true_eq]
        exact List.le_total _ _
    refine ⟨.ref _, upd H (s.heap.objs.size + 1) (.lst (bs'.map Prod.fst)), I.laid (t' := s.toks) (fun _ _ => PyProof.Rows.sortedAll_old) (Nat.le_succ _) ⟨by rw [List.length_map, pm.length_eq]; rw [List.length_map] at hz; exact hz, out, ep, vo, he'⟩, rfl, ?_⟩
    refine q _ (bs'.map Prod.snd) _ (pm.map _) ?_ (lq_of fun b hb => e3 b (pm.mem_iff.mp hb)) (pm.map _) (I.hok.fresh (Nat.le_succ _))
    rw [List.pairwise_map]
    exact srt.imp fun h => of_decide_eq_true h
end
end Tk

namespace Tk
open PySem PySem.Spec PyProof.Rows L2
/-! ## lists of roads -/
def dRd (q : List Int × List Int) : PyData := .tuple [.list (q.1.map .int), .list (q.2.map .int)]
/-- a list of tuples of two lists, each of these as P says -/
def RdsP (P : Addr → Prop) (G : Hp) : List V → List (List Int × List Int) → Prop
  | [], [] => True
  | x :: xs, q :: qs => (∃ t u d : Addr, x = .ref t ∧ G t = some (.tup [.ref u, .ref d]) ∧ G u = some (.lst (q.1.map V.int)) ∧ G d = some (.lst (q.2.map V.int)) ∧ P u ∧ P d) ∧ RdsP P G xs qs
  | _, _ => False
section
variable {K : PySem.W.Frag} {P P' : Addr → Prop} {G G' : Hp}
theorem rd_s (e : Same G G') : ∀ {xs : List V} {qs : List (List Int × List Int)}, RdsP P G xs qs → RdsP P G' xs qs
  | [], [], _ => trivial
  | x :: xs, q :: qs, ⟨⟨t, u, d, h1, h2, h3, h4, h5⟩, h⟩ => ⟨⟨t, u, d, h1, e _ _ h2, e _ _ h3, e _ _ h4, h5⟩, rd_s e h⟩
  | [], _ :: _, h => h.elim
  | _ :: _, [], h => h.elim
theorem rd_mono (m : ∀ z, P z → P' z) : ∀ {xs : List V} {qs : List (List Int × List Int)}, RdsP P G xs qs → RdsP P' G xs qs
  | [], [], _ => trivial
  | x :: xs, q :: qs, ⟨⟨t, u, d, h1, h2, h3, h4, h5, h6⟩, h⟩ => ⟨⟨t, u, d, h1, h2, h3, h4, m _ h5, m _ h6⟩, rd_mono m h⟩
  | [], _ :: _, h => h.elim
  | _ :: _, [], h => h.elim
theorem rd_mut {D : Addr} {o o' : List V} (hD : G D = some (.lst o)) (m : ∀ z, P z → z ≠ D) : ∀ {xs : List V} {qs : List (List Int × List Int)}, RdsP P G xs qs → RdsP P (upd G D (.lst o')) xs qs
  | [], [], _ => trivial
  | x :: xs, q :: qs, ⟨⟨t, u, d, h1, h2, h3, h4, h5, h6⟩, h⟩ => ⟨⟨t, u, d, h1, by rw [upd_ne (fun e => by rw [e, hD] at h2; cases h2)]; exact h2, by rw [upd_ne (m _ h5)]; exact h3, by rw [upd_ne (m _ h6)]; exact h4, h5, h6⟩, rd_mut hD m h⟩
  | [], _ :: _, h => h.elim
  | _ :: _, [], h => h.elim
theorem rd_app : ∀ {xs ys : List V} {qs rs : List (List Int × List Int)}, RdsP P G xs qs → RdsP P G ys rs → RdsP P G (xs ++ ys) (qs ++ rs)
  | [], _, [], _, _, h => h
  | x :: xs, _, q :: qs, _, ⟨h1, h2⟩, h => ⟨h1, rd_app h2 h⟩
  | [], _, _ :: _, _, h, _ => h.elim
  | _ :: _, _, [], _, h, _ => h.elim
theorem rd_len : ∀ {xs : List V} {qs : List (List Int × List Int)}, RdsP P G xs qs → xs.length = qs.length
  | [], [], _ => rfl
  | x :: xs, q :: qs, ⟨_, h⟩ => by simp [rd_len h]
  | [], _ :: _, h => h.elim
  | _ :: _, [], h => h.elim
theorem rd_at : ∀ {xs : List V} {qs : List (List Int × List Int)}, RdsP P G xs qs → ∀ {i : Nat} {x : V}, xs[i]? = some x →
    ∃ (q : List Int × List Int) (t u d : Addr), qs[i]? = some q ∧ x = .ref t ∧ G t = some (.tup [.ref u, .ref d]) ∧ G u = some (.lst (q.1.map V.int)) ∧ G d = some (.lst (q.2.map V.int)) ∧ P u ∧ P d
  | [], [], _, _, _, h => by simp at h
  | x :: xs, q :: qs, ⟨⟨t, u, d, h1, h2, h3, h4, h5, h6⟩, h7⟩, i, y, h => by
    cases i with
    | zero =>
      simp at h
      subst h
      exact ⟨q, t, u, d, rfl, h1, h2, h3, h4, h5, h6⟩
    | succ i => exact rd_at h7 (i := i) (by simpa using h)
  | [], _ :: _, h, _, _, _ => h.elim
  | _ :: _, [], h, _, _, _ => h.elim
theorem rd_dps : ∀ {xs : List V} {qs : List (List Int × List Int)}, RdsP P G xs qs → DpAll K G xs (qs.map dRd)
  | [], [], _ => .nil
  | x :: xs, q :: qs, ⟨⟨t, u, d, h1, h2, h3, h4, _⟩, h⟩ => by
    rw [h1]
    exact .cons (.tup (st_of h2) (.cons (.lst (sl_of h3) (dps_ints _)) (.cons (.lst (sl_of h4) (dps_ints _)) .nil))) (rd_dps h)
  | [], _ :: _, h => h.elim
  | _ :: _, [], h => h.elim
theorem rd_zip : ∀ {xs : List V} {qs : List (List Int × List Int)}, RdsP P G xs qs → xs = (xs.zip qs).map Prod.fst ∧ qs = (xs.zip qs).map Prod.snd ∧
    ∀ b ∈ xs.zip qs, ∃ t u d : Addr, b.1 = .ref t ∧ G t = some (.tup [.ref u, .ref d]) ∧ G u = some (.lst (b.2.1.map V.int)) ∧ G d = some (.lst (b.2.2.map V.int)) ∧ P u ∧ P d
  | [], [], _ => ⟨rfl, rfl, fun _ h => nomatch h⟩
  | x :: xs, q :: qs, ⟨h1, h3⟩ => by
    obtain ⟨a, b, c⟩ := rd_zip h3
    refine ⟨by simp only [List.zip_cons_cons, List.map_cons]; rw [← a], by simp only [List.zip_cons_cons, List.map_cons]; rw [← b], fun z hz => ?_⟩
    simp only [List.zip_cons_cons] at hz
    rcases List.mem_cons.mp hz with e | e
    · rw [e]; exact h1
    · exact c z e
  | [], _ :: _, h => h.elim
  | _ :: _, [], h => h.elim
theorem rd_of : ∀ {bs : List (V × (List Int × List Int))}, (∀ b ∈ bs, ∃ t u d : Addr, b.1 = .ref t ∧ G t = some (.tup [.ref u, .ref d]) ∧ G u = some (.lst (b.2.1.map V.int)) ∧ G d = some (.lst (b.2.2.map V.int)) ∧ P u ∧ P d) → RdsP P G (bs.map Prod.fst) (bs.map Prod.snd)
  | [], _ => trivial
  | b :: bs, h => ⟨h b (List.mem_cons_self ..), rd_of fun c hc => h c (List.mem_cons_of_mem _ hc)⟩
end
/-! ## sorted, of a list of roads -/
def rdLe (p q : List Int × List Int) : Prop := p.1 < q.1 ∨ (p.1 = q.1 ∧ p.2 ≤ q.2)
instance rdLe_dec (p q : List Int × List Int) : Decidable (rdLe p q) := by unfold rdLe; infer_instance
theorem rdLe_anti {p q : List Int × List Int} (h1 : rdLe p q) (h2 : rdLe q p) : p = q := by
  rcases h1 with h1 | ⟨e1, l1⟩
  · rcases h2 with h2 | ⟨e2, _⟩
    · exact absurd (List.lt_trans h1 h2) (List.lt_irrefl _)
    · rw [e2] at h1; exact absurd h1 (List.lt_irrefl _)
  · rcases h2 with h2 | ⟨_, l2⟩
    · rw [e1] at h2; exact absurd h2 (List.lt_irrefl _)
    · exact Prod.ext e1 (List.le_antisymm l1 l2)
theorem rd_one {gs hs : List (List Int × List Int)} (s1 : gs.Pairwise rdLe) (s2 : hs.Pairwise rdLe) (pm : gs.Perm hs) : gs = hs :=
  List.Perm.eq_of_pairwise (fun a b _ _ h1 h2 => rdLe_anti h1 h2) s1 s2 pm
theorem eqv_li {l m : List Int} : PyData.eqv (.list (l.map .int)) (.list (m.map .int)) = decide (l = m) := by
  have key : ∀ l m : List Int, PyData.eqvAll (l.map .int) (m.map .int) = decide (l = m) := by
    intro l
    induction l with
    | nil => intro m; cases m <;> simp [PyData.eqvAll]
    | cons x l ih =>
      intro m
      cases m with
      | nil => simp [PyData.eqvAll]
      | cons y m =>
        simp only [List.map_cons, PyData.eqvAll, PyData.eqv, ih]
        by_cases c : x = y <;> by_cases c2 : l = m <;> simp [c, c2]
  simp only [PyData.eqv]
  exact key l m
section
open PySem.W
variable {X : Cx}
theorem alike_rd (p q : List Int × List Int) : alike (dRd p) (dRd q) = true := by
  have h : ∀ l m : List Int, alike (.list (l.map .int)) (.list (m.map .int)) = true := fun l m => by
    simp only [alike]
    exact alike_ints l m
  have a1 := h p.1 q.1
  have a2 := h p.2 q.2
  simp only [dRd, alike, alikeAll] at *
  simp [a1, a2]
theorem dataLt_li (l m : List Int) : dataLt (.list (l.map .int)) (.list (m.map .int)) = decide (l < m) := by
  rw [dataLt_list]
  exact dataLt_ints l m
theorem dataLt_rd (p q : List Int × List Int) : dataLt (dRd p) (dRd q) = decide (p.1 < q.1 ∨ (p.1 = q.1 ∧ p.2 < q.2)) := by
  have h : ∀ l m : List Int, alike (.list (l.map .int)) (.list (m.map .int)) = true := fun l m => by
    simp only [alike]
    exact alike_ints l m
  unfold dRd
  rw [dataLt_pair (h _ _) (h _ _), eqv_li, eqv_li, dataLt_li, dataLt_li]
  by_cases c : p.1 = q.1
  · by_cases c2 : p.2 = q.2
    · simp [c, c2, List.lt_irrefl]
    · simp [c, c2, List.lt_irrefl]
  · simp [c]
theorem dataLe_rd {β : Type} (x : β → List Int × List Int) : dataLe false (fun b => dRd (x b)) = fun p q => decide (rdLe (x p) (x q)) := by
  funext p q
  show (!dataLt (dRd (x q)) (dRd (x p))) = _
  rw [dataLt_rd]
  unfold rdLe
  by_cases h : (x q).1 < (x p).1
  · have h1 : ¬ (x p).1 < (x q).1 := fun r => List.lt_irrefl _ (List.lt_trans h r)
    have h2 : ¬ (x p).1 = (x q).1 := fun e => by rw [e] at h; exact List.lt_irrefl _ h
    simp [h, h1, h2]
  · have h' : (x p).1 ≤ (x q).1 := List.not_lt.mp h
    by_cases e : (x p).1 = (x q).1
    · by_cases h3 : (x q).2 < (x p).2
      · have h4 : ¬ (x p).2 ≤ (x q).2 := fun r => List.not_lt.mpr r h3
        simp [e, h3, h4, List.lt_irrefl]
      · have h4 : (x p).2 ≤ (x q).2 := List.not_lt.mp h3
        simp [e, h3, h4, List.lt_irrefl]
    · have h5 : (x p).1 < (x q).1 := Classical.byContradiction fun c => e (List.le_antisymm h' (List.not_lt.mp c))
      have e' : ¬ (x q).1 = (x p).1 := fun z => e z.symm
      simp [h, h5, e']
theorem depth_li (l : List Int) : PyData.depth (.list (l.map .int)) ≤ 1 := by
  have : PyData.depthAll (l.map .int) = 0 := by
    induction l with
    | nil => simp [PyData.depthAll]
    | cons x l ih => simp [PyData.depthAll, PyData.depth, ih]
  rw [PyData.depth, this]
  exact Nat.le_refl _
theorem depth_rd (q : List Int × List Int) : PyData.depth (dRd q) ≤ 2 := by
  have h1 := depth_li q.1
  have h2 := depth_li q.2
  unfold dRd
  rw [PyData.depth]
  simp only [PyData.depthAll]
  omega
def rSortedRd (K : PySem.W.Frag) : List V → Hp → VK → Prop := fun vs H Q => ∃ (a : Addr) (xs : List V) (qs : List (List Int × List Int)) (P : Addr → Prop), vs = [V.ref a] ∧ SqL K H a xs ∧ RdsP P H xs qs ∧
  ∀ (ys : List V) (qs' : List (List Int × List Int)) (p : Addr), qs'.Perm qs → qs'.Pairwise rdLe → RdsP P H ys qs' → H p = none → Q (.ref p) (upd H p (.lst ys))
theorem each_valsR : ∀ {bs : List (V × (List Int × List Int))} {us : List Value}, Vals (bs.map Prod.fst) us → EachIs (fun (v : Value) (b : V × (List Int × List Int)) => RelV b.1 v) us bs
  | [], _, h => by cases h; exact .nil
  | b :: bs, _, h => by
    cases h with
    | cons h1 h2 => exact .cons h1 (each_valsR h2)
theorem vals_eachR : ∀ {bs : List (V × (List Int × List Int))} {us : List Value}, EachIs (fun (v : Value) (b : V × (List Int × List Int)) => RelV b.1 v) us bs → Vals (bs.map Prod.fst) us
  | _, _, .nil => .nil
  | _, _, .cons h1 h2 => .cons h1 (vals_eachR h2)
theorem rdLe_trans {a b c : List Int × List Int} (h1 : rdLe a b) (h2 : rdLe b c) : rdLe a c := by
  rcases h1 with h1 | ⟨e1, l1⟩
  · rcases h2 with h2 | ⟨e2, _⟩
    · exact .inl (List.lt_trans h1 h2)
    · rw [e2] at h1; exact .inl h1
  · rcases h2 with h2 | ⟨e2, l2⟩
    · rw [← e1] at h2; exact .inl h2
    · exact .inr ⟨e1.trans e2, List.le_trans l1 l2⟩
theorem rdLe_total (a b : List Int × List Int) : rdLe a b ∨ rdLe b a := by
  rcases List.le_total a.1 b.1 with h | h
  · by_cases e : a.1 = b.1
    · rcases List.le_total a.2 b.2 with k | k
      · exact .inl (.inr ⟨e, k⟩)
      · exact .inr (.inr ⟨e.symm, k⟩)
    · exact .inl (.inl (Classical.byContradiction fun c => e (List.le_antisymm h (List.not_lt.mp c))))
  · by_cases e : a.1 = b.1
    · rcases List.le_total a.2 b.2 with k | k
      · exact .inl (.inr ⟨e, k⟩)
      · exact .inr (.inr ⟨e.symm, k⟩)
    · exact .inr (.inl (Classical.byContradiction fun c => e (List.le_antisymm (List.not_lt.mp c) h)))
theorem cr_sortedRd (hu : X.A.units + 64 < cLine) : CallR X (.builtin "sorted") (rSortedRd X.K) := by
  intro pins s σ H vs us Q I r h
  obtain ⟨a, xs, qs, P, rfl, hs, ls, q⟩ := h
  obtain ⟨its, rv, hl, hz⟩ := I.list hs
  rw [Vals.ref1 r]
  obtain ⟨e1, e2, e3⟩ := rd_zip ls
  generalize xs.zip qs = bs at e1 e2 e3
  subst e1
  subst e2
  have each := each_valsR rv
  have reads : EachIs (fun (v : Value) (b : V × (List Int × List Int)) => ∃ as, Reads s.heap v (dRd b.2) as) its bs := by
    clear q hs ls hl hz r
    induction each with
    | nil => exact .nil
    | @cons v b vs' bs' h1 h2 ih =>
      refine .cons ?_ (ih (fun c hc => e3 c (List.mem_cons_of_mem _ hc)) (by cases rv with | cons _ r2 => exact r2))
      obtain ⟨t, u, d, er, ht, hu', hd, _⟩ := e3 b (List.mem_cons_self ..)
      rw [er] at h1
      exact Dp.reads I _ (.ref t) v (.tup (st_of ht) (.cons (.lst (sl_of hu') (dps_ints _)) (.cons (.lst (sl_of hd) (dps_ints _)) .nil))) h1
  refine sorted_data (enc := fun b : V × (List Int × List Int) => dRd b.2) (R := fun (v : Value) (b : V × (List Int × List Int)) => RelV b.1 v) hl.isList each reads (AllAlike.of fun b b' => alike_rd _ _) (Sortable.tuples fun b => ⟨_, _, rfl⟩) (by rw [List.length_map] at hz; exact hz) (fun b hb => ?_) fun out hlen ho => ?_
  · have := depth_rd b.2
    omega
  · rw [dataLe_rd (fun b : V × (List Int × List Int) => b.2)] at ho
    obtain ⟨ep, he'⟩ := PyProof.Rows.sortedAll_at s.heap its out.toArray
    have vo := vals_eachR ho
    generalize hbs : bs.mergeSort (fun p q => decide (rdLe p.2 q.2)) = bs' at ho vo
    have pm : bs'.Perm bs := by rw [← hbs]; exact List.mergeSort_perm ..
    have srt : bs'.Pairwise (fun p q => decide (rdLe p.2 q.2) = true) := by
      rw [← hbs]
      refine List.pairwise_mergeSort (fun a b c h1 h2 => ?_) (fun a b => ?_) bs
      · simp only [decide_eq_true_eq] at h1 h2 ⊢
        exact rdLe_trans h1 h2
      · simp only [Bool.or_eq_true, decide_eq_true_eq]
        exact rdLe_total _ _
    refine ⟨.ref _, upd H (s.heap.objs.size + 1) (.lst (bs'.map Prod.fst)), I.laid (t' := s.toks) (fun _ _ => PyProof.Rows.sortedAll_old) (Nat.le_succ _) ⟨by rw [List.length_map, pm.length_eq]; rw [List.length_map] at hz; exact hz, out, ep, vo, he'⟩, rfl, ?_⟩
    refine q _ (bs'.map Prod.snd) _ (pm.map _) ?_ (rd_of fun b hb => e3 b (pm.mem_iff.mp hb)) (I.hok.fresh (Nat.le_succ _))
    rw [List.pairwise_map]
    exact srt.imp fun h => of_decide_eq_true h
end
theorem eqv_rd_self : ∀ qs : List (List Int × List Int), PyData.eqv (.list (qs.map dRd)) (.list (qs.map dRd)) = true := by
  intro qs
  have h1 : ∀ q, PyData.eqv (dRd q) (dRd q) = true := fun q => by
    have a1 : PyData.eqv (.list (q.1.map .int)) (.list (q.1.map .int)) = true := by rw [eqv_li]; simp
    have a2 : PyData.eqv (.list (q.2.map .int)) (.list (q.2.map .int)) = true := by rw [eqv_li]; simp
    show PyData.eqv (.tuple [.list (q.1.map .int), .list (q.2.map .int)]) (.tuple [.list (q.1.map .int), .list (q.2.map .int)]) = true
    rw [PyData.eqv, PyData.eqvAll, PyData.eqvAll, a1, a2, PyData.eqvAll]
    rfl
  have key : ∀ qs : List (List Int × List Int), PyData.eqvAll (qs.map dRd) (qs.map dRd) = true := by
    intro qs
    induction qs with
    | nil => simp [PyData.eqvAll]
    | cons q qs ih => rw [List.map_cons, PyData.eqvAll, h1, ih]; rfl
  rw [PyData.eqv]
  exact key qs
theorem lay_li (l : List Int) : PyData.canLay0 (.list (l.map .int)) = true := by
  rw [PyData.canLay0]
  induction l with
  | nil => rfl
  | cons x l ih =>
    show (PyData.canLay0 (.int x) && PyData.canLayAll0 (l.map .int)) = true
    rw [ih]; rfl
theorem shaped_rds (qs : List (List Int × List Int)) : SeqAt.shaped (.list (qs.map dRd)) = true := by
  unfold SeqAt.shaped
  rw [Bool.and_eq_true_iff]
  constructor
  · rw [PyData.canLay0]
    induction qs with
    | nil => rfl
    | cons q qs ih =>
      show (PyData.canLay0 (dRd q) && PyData.canLayAll0 (qs.map dRd)) = true
      rw [ih]
      show (PyData.canLayAll0 [.list (q.1.map .int), .list (q.2.map .int)] && true) = true
      show ((PyData.canLay0 (.list (q.1.map .int)) && (PyData.canLay0 (.list (q.2.map .int)) && true)) && true) = true
      rw [lay_li, lay_li]
      rfl
  · refine decide_eq_true ?_
    have h : PyData.depthAll (qs.map dRd) ≤ 2 := by
      induction qs with
      | nil => simp [PyData.depthAll]
      | cons q qs ih =>
        have := depth_rd q
        simp only [List.map_cons, PyData.depthAll]
        omega
    rw [PyData.depth]
    omega
/-! ## two clauses over lists -/
theorem in_list {K : PySem.W.Frag} {a : Addr} {xs : List V} {g1 : TG} {tt1 : TT} {te : TE} {vs1 : List Nat} {σ2 : L2.St} {H4 : Hp} {D : Addr} {Nx : Hp → Prop} (Pv : Nat → Hp → Prop) (h0 : Pv 0 H4) (hl : ∀ j H, j ≤ xs.length → Pv j H → SqL K H a xs)
    (hs : ∀ j x H, xs[j]? = some x → Pv j H → g1 x (wipe σ2 vs1) H fun σ3 H5 => wipe σ3 vs1 = wipe σ2 vs1 ∧ tt1 σ3 H5 fun b H6 =>
      if b = true then te σ3 H6 fun y H7 => ∃ acc, H7 D = some (.lst acc) ∧ acc.length < sizeLine ∧ Pv (j + 1) (upd H7 D (.lst (acc ++ [y]))) else Pv (j + 1) H6) (hd : ∀ H, Pv xs.length H → Nx H) :
    ∃ W1 : Nat → Nat → Hp → Prop, (∃ m, W1 0 m H4) ∧ ∀ j k H, W1 j k H →
      ((Itl K a).stop j H ∧ Nx H) ∨ ((Itl K a).go j H ∧ ∃ Nx1 : Hp → Prop, (∀ H', Nx1 H' → ∃ k', k' < k ∧ W1 (j + 1) k' H') ∧ ∀ x H', (Itl K a).yld j H x H' → g1 x (wipe σ2 vs1) H' fun σ3 H5 => wipe σ3 vs1 = wipe σ2 vs1 ∧ tt1 σ3 H5 fun b H6 =>
        if b = true then te σ3 H6 fun y H7 => ∃ acc, H7 D = some (.lst acc) ∧ acc.length < sizeLine ∧ Nx1 (upd H7 D (.lst (acc ++ [y]))) else Nx1 H6) := by
  refine ⟨fun i m H => m = xs.length - i ∧ i ≤ xs.length ∧ Pv i H, ⟨xs.length, by simp, Nat.zero_le _, h0⟩, ?_⟩
  rintro i m H ⟨rfl, hi, p⟩
  have q := hl i H hi p
  by_cases hlt : i < xs.length
  · refine .inr ⟨⟨xs, xs[i], q, by simp [hlt]⟩, Pv (i + 1), fun H' p' => ⟨xs.length - (i + 1), by omega, rfl, hlt, p'⟩, fun x H' y => ?_⟩
    obtain ⟨e, y⟩ := y
    subst e
    exact hs i x _ (y xs q) p
  · have e : i = xs.length := by omega
    subst e
    exact .inl ⟨⟨xs, q, Nat.le_refl _⟩, hd H p⟩
theorem out_list {K : PySem.W.Frag} {a : Addr} {xs : List V} {S : Hp} {Qd : Hp → Prop} (F : V → Hp → (Hp → Prop) → Prop) (Pv : Nat → Hp → Prop) (h0 : Pv 0 S) (hl : ∀ j H, j ≤ xs.length → Pv j H → SqL K H a xs) (hs : ∀ i x H, xs[i]? = some x → Pv i H → F x H (Pv (i + 1))) (hd : ∀ H, Pv xs.length H → Qd H) :
    ∃ W : Nat → Nat → Hp → Prop, (∃ m, W 0 m S) ∧ ∀ i m H, W i m H →
      ((Itl K a).stop i H ∧ Qd H) ∨ ((Itl K a).go i H ∧ ∃ Nx : Hp → Prop, (∀ H', Nx H' → ∃ m', m' < m ∧ W (i + 1) m' H') ∧ ∀ x H', (Itl K a).yld i H x H' → F x H' Nx) := by
  refine ⟨fun i m H => m = xs.length - i ∧ i ≤ xs.length ∧ Pv i H, ⟨xs.length, by simp, Nat.zero_le _, h0⟩, ?_⟩
  rintro i m H ⟨rfl, hi, p⟩
  have q := hl i H hi p
  by_cases hlt : i < xs.length
  · refine .inr ⟨⟨xs, xs[i], q, by simp [hlt]⟩, Pv (i + 1), fun H' p' => ⟨xs.length - (i + 1), by omega, rfl, hlt, p'⟩, fun x H' y => ?_⟩
    obtain ⟨e, y⟩ := y
    subst e
    exact hs i x _ (y xs q) p
  · have e : i = xs.length := by omega
    subst e
    exact .inl ⟨⟨xs, q, Nat.le_refl _⟩, hd H p⟩
end Tk

/-! plain mathematics: which plans of few things are plain, reckoned -/
namespace Tk
def closeL (bs : List (Int × Int)) (lot : List Int) : Nat → List Int → List Int
  | 0, f => f
  | k + 1, f => closeL bs lot k (growL lot bs f)
section
variable {bs : List (Int × Int)} {lot : List Int} {x : Int}
theorem close_inv : ∀ (k : Nat) {f : List Int}, GInv bs lot x f → GInv bs lot x (closeL bs lot k f)
  | 0, _, h => h
  | k + 1, _, h => close_inv k (ginv_pass h bs fun _ hp => hp)
theorem close_same : ∀ (k : Nat) {f : List Int}, growL lot bs f = f → closeL bs lot k f = f
  | 0, _, _ => rfl
  | k + 1, f, h => by
    show closeL bs lot k (growL lot bs f) = f
    rw [h]
    exact close_same k h
theorem close_cl : ∀ (k : Nat) {f : List Int}, GInv bs lot x f → lot.length ≤ f.length + k → ∀ p ∈ bs, p.2 ∈ closeL bs lot k f → p.1 ∈ lot → p.1 ∈ closeL bs lot k f
  | 0, f, h, l, p, _, _, h3 => by
    have e : f.length = lot.length := Nat.le_antisymm (nodup_le h.nd h.sub) (by omega)
    refine Classical.byContradiction fun no => ?_
    have := nodup_le (l := p.1 :: f) (m := lot) (List.nodup_cons.mpr ⟨no, h.nd⟩) fun z hz => by
      rcases List.mem_cons.mp hz with k | k
      · exact k ▸ h3
      · exact h.sub z k
    rw [List.length_cons] at this
    omega
  | k + 1, f, h, l, p, hp, h2, h3 => by
    by_cases c : (growL lot bs f).length = f.length
    · obtain ⟨e1, e2⟩ := grow_fix bs f c
      rw [close_same (k + 1) e1] at h2 ⊢
      exact e2 p hp h2 h3
    · have := grow_len (lot := lot) bs f
      exact close_cl k (ginv_pass h bs fun _ hp => hp) (by omega) p hp h2 h3
theorem close_reach (hx : x ∈ lot) (y : Int) : y ∈ closeL bs lot lot.length [x] ↔ Reach (upIn bs lot) x y :=
  grow_end (close_inv _ (ginv_0 hx)) (close_cl _ (ginv_0 hx) (by omega)) y
end
def goodC (as ts : List (Int × Int)) (l : List Int) (x : Int) : Bool := (l.all fun y => decide (y ∈ closeL as l l.length [x])) && l.all fun y => decide (y ∈ closeL (bsT ts) l l.length [x])
def plainC (n : Nat) (as ts : List (Int × Int)) : Bool := (allLots n).all fun l => decide (l.length ≤ 1) || !(l.any fun x => goodC as ts l x)
section
variable {n : Nat} {as ts : List (Int × Int)} {l : List Int} {x : Int}
theorem goodC_iff (lot : Lot n l) (hx : x ∈ l) : goodC as ts l x = true ↔ Good n as ts x l := by
  unfold goodC
  rw [Bool.and_eq_true, List.all_eq_true, List.all_eq_true]
  constructor
  · rintro ⟨h1, h2⟩
    exact ⟨lot, hx, fun y hy => (close_reach hx y).mp (of_decide_eq_true (h1 y hy)), fun y hy => up_bsT.mp ((close_reach hx y).mp (of_decide_eq_true (h2 y hy)))⟩
  · intro g
    exact ⟨fun y hy => decide_eq_true ((close_reach hx y).mpr (g.up y hy)), fun y hy => decide_eq_true ((close_reach hx y).mpr (up_bsT.mpr (g.tie y hy)))⟩
theorem plainC_iff : plainC n as ts = true ↔ PlainP n as ts := by
  unfold plainC
  rw [plain_bars, List.all_eq_true]
  constructor
  · intro h l b
    obtain ⟨x, g⟩ := bar_good b
    have := h l (mem_allLots.mpr b.lot)
    rw [Bool.or_eq_true, decide_eq_true_eq, Bool.not_eq_true'] at this
    rcases this with h1 | h1
    · have := b.two; omega
    · rw [List.any_eq_false] at h1
      exact h1 x g.mem ((goodC_iff b.lot g.mem).mpr g)
  · intro h l hl
    have lot := mem_allLots.mp hl
    rw [Bool.or_eq_true, decide_eq_true_eq, Bool.not_eq_true']
    by_cases c : l.length ≤ 1
    · exact .inl c
    · refine .inr (List.any_eq_false.mpr fun x hx e => ?_)
      exact h l (good_bar ((goodC_iff lot hx).mp e) (by omega))
theorem plainB_C : plainB n as ts = plainC n as ts := by rw [Bool.eq_iff_iff, plainB_iff, plainC_iff]
end
/-! ## each pair an arrow or a tie -/
def chStep (cs : List (List (Int × Int) × List (Int × Int))) (p : Int × Int) : List (List (Int × Int) × List (Int × Int)) := cs.flatMap fun c => [(c.1 ++ [p], c.2), (c.1, c.2 ++ [p])]
def chAll (n : Nat) : List (List (Int × Int) × List (Int × Int)) := (rowsT n n).foldl chStep [([], [])]
def chNo (n : Nat) : Nat := match n with | 0 => 1 | 1 => 1 | 2 => 2 | 3 => 8 | _ => 60
theorem ch_no {n : Nat} (h : n ≤ 4) : ((chAll n).filter fun c => plainC n c.1 c.2).length = chNo n := by
  have h1 : n = 0 ∨ n = 1 ∨ n = 2 ∨ n = 3 ∨ n = 4 := by omega
  rcases h1 with rfl | rfl | rfl | rfl | rfl <;> decide +kernel
theorem ch_unlike {n : Nat} (h : n ≤ 4) : ∀ c ∈ chAll n, c.1.length ≠ c.2.length → plainC n c.1 c.2 = true := by
  have h1 : n = 0 ∨ n = 1 ∨ n = 2 ∨ n = 3 ∨ n = 4 := by omega
  rcases h1 with rfl | rfl | rfl | rfl | rfl <;> decide +kernel
theorem ch_nd {n : Nat} (h : n ≤ 4) : (chAll n).Nodup := by
  have h1 : n = 0 ∨ n = 1 ∨ n = 2 ∨ n = 3 ∨ n = 4 := by omega
  rcases h1 with rfl | rfl | rfl | rfl | rfl <;> decide +kernel
end Tk

namespace Tk
open PySem PySem.Spec PyProof.Rows L2
/-! ## tuples of arrows and ties, sorted -/
abbrev Ch : Type := List (Int × Int) × List (Int × Int)
def dCh (c : Ch) : PyData := .tuple [.list (c.1.map dP), .list (c.2.map dP)]
def chLe (c d : Ch) : Prop := rdLe (flatP c.1, flatP c.2) (flatP d.1, flatP d.2)
instance chLe_dec (c d : Ch) : Decidable (chLe c d) := by unfold chLe; infer_instance
theorem chLe_anti {c d : Ch} (h1 : chLe c d) (h2 : chLe d c) : c = d := by
  have e := rdLe_anti h1 h2
  exact Prod.ext (flatP_inj (congrArg Prod.fst e)) (flatP_inj (congrArg Prod.snd e))
theorem ch_one {gs hs : List Ch} (s1 : gs.Pairwise chLe) (s2 : hs.Pairwise chLe) (pm : gs.Perm hs) : gs = hs := List.Perm.eq_of_pairwise (fun a b _ _ h1 h2 => chLe_anti h1 h2) s1 s2 pm
theorem eqv_pl {ps qs : List (Int × Int)} : PyData.eqv (.list (ps.map dP)) (.list (qs.map dP)) = decide (ps = qs) := by
  have key : ∀ ps qs : List (Int × Int), PyData.eqvAll (ps.map dP) (qs.map dP) = decide (ps = qs) := by
    intro ps
    induction ps with
    | nil => intro qs; cases qs <;> simp [PyData.eqvAll]
    | cons p ps ih =>
      intro qs
      cases qs with
      | nil => simp [PyData.eqvAll]
      | cons q qs =>
        simp only [List.map_cons, PyData.eqvAll, eqv_dPq, ih]
        by_cases c : p = q <;> by_cases c2 : ps = qs <;> simp [c, c2]
  simp only [PyData.eqv]
  exact key ps qs
theorem eqv_ch (c d : Ch) : PyData.eqv (dCh c) (dCh d) = decide (c = d) := by
  show PyData.eqv (.tuple _) (.tuple _) = _
  rw [PyData.eqv, PyData.eqvAll, PyData.eqvAll, PyData.eqvAll, eqv_pl, eqv_pl]
  obtain ⟨a, b⟩ := c
  obtain ⟨a', b'⟩ := d
  by_cases h1 : a = a' <;> by_cases h2 : b = b' <;> simp [h1, h2]
theorem eqv_chs : ∀ cs ds : List Ch, PyData.eqv (.list (cs.map dCh)) (.list (ds.map dCh)) = decide (cs = ds) := by
  have key : ∀ cs ds : List Ch, PyData.eqvAll (cs.map dCh) (ds.map dCh) = decide (cs = ds) := by
    intro cs
    induction cs with
    | nil => intro ds; cases ds <;> simp [PyData.eqvAll]
    | cons c cs ih =>
      intro ds
      cases ds with
      | nil => simp [PyData.eqvAll]
      | cons d ds =>
        simp only [List.map_cons, PyData.eqvAll, eqv_ch, ih]
        by_cases h1 : c = d <;> by_cases h2 : cs = ds <;> simp [h1, h2]
  intro cs ds
  simp only [PyData.eqv]
  exact key cs ds
section
open PySem.W
variable {X : Cx}
theorem alike_pl (ps qs : List (Int × Int)) : alike (.list (ps.map dP)) (.list (qs.map dP)) = true := by
  simp only [alike]
  exact alike_dPsA ps qs
theorem alike_ch (c d : Ch) : alike (dCh c) (dCh d) = true := by
  have a1 := alike_pl c.1 d.1
  have a2 := alike_pl c.2 d.2
  simp only [dCh, alike, alikeAll] at *
  simp [a1, a2]
theorem dataLt_pl (ps qs : List (Int × Int)) : dataLt (.list (ps.map dP)) (.list (qs.map dP)) = decide (flatP ps < flatP qs) := by
  rw [dataLt_list]
  exact rowLt_pairs ps qs
theorem dataLt_ch (c d : Ch) : dataLt (dCh c) (dCh d) = decide (flatP c.1 < flatP d.1 ∨ (flatP c.1 = flatP d.1 ∧ flatP c.2 < flatP d.2)) := by
  unfold dCh
  rw [dataLt_pair (alike_pl _ _) (alike_pl _ _), eqv_pl, eqv_pl, dataLt_pl, dataLt_pl]
  by_cases h : c.1 = d.1
  · by_cases h2 : c.2 = d.2
    · simp [h, h2, List.lt_irrefl]
    · simp [h, h2, List.lt_irrefl]
  · have h' : ¬ flatP c.1 = flatP d.1 := fun e => h (flatP_inj e)
    simp [h, h']
theorem dataLe_ch {β : Type} (x : β → Ch) : dataLe false (fun b => dCh (x b)) = fun p q => decide (chLe (x p) (x q)) := by
  funext p q
  have h := congrFun (congrFun (dataLe_rd (fun c : Ch => (flatP c.1, flatP c.2))) (x p)) (x q)
  show (!dataLt (dCh (x q)) (dCh (x p))) = _
  have h2 : (!dataLt (dRd (flatP (x q).1, flatP (x q).2)) (dRd (flatP (x p).1, flatP (x p).2))) = decide (rdLe (flatP (x p).1, flatP (x p).2) (flatP (x q).1, flatP (x q).2)) := h
  rw [dataLt_rd] at h2
  rw [dataLt_ch]
  exact h2
theorem depth_pl (ps : List (Int × Int)) : PyData.depth (.list (ps.map dP)) ≤ 2 := by
  have := depth_dPs ps
  rw [PyData.depth]
  omega
theorem depth_ch (c : Ch) : PyData.depth (dCh c) ≤ 3 := by
  have h1 := depth_pl c.1
  have h2 := depth_pl c.2
  unfold dCh
  rw [PyData.depth]
  simp only [PyData.depthAll]
  omega
theorem dps_zip {K : PySem.W.Frag} {G : Hp} : ∀ {xs : List V} {cs : List Ch}, DpAll K G xs (cs.map dCh) → xs = (xs.zip cs).map Prod.fst ∧ cs = (xs.zip cs).map Prod.snd ∧ ∀ b ∈ xs.zip cs, Dp K G b.1 (dCh b.2)
  | [], [], _ => ⟨rfl, rfl, fun _ h => nomatch h⟩
  | x :: xs, c :: cs, .cons h1 h3 => by
    obtain ⟨a, b, d⟩ := dps_zip h3
    refine ⟨by simp only [List.zip_cons_cons, List.map_cons]; rw [← a], by simp only [List.zip_cons_cons, List.map_cons]; rw [← b], fun z hz => ?_⟩
    simp only [List.zip_cons_cons] at hz
    rcases List.mem_cons.mp hz with e | e
    · rw [e]; exact h1
    · exact d z e
theorem dps_ofCh {K : PySem.W.Frag} {G : Hp} : ∀ {bs : List (V × Ch)}, (∀ b ∈ bs, Dp K G b.1 (dCh b.2)) → DpAll K G (bs.map Prod.fst) ((bs.map Prod.snd).map dCh)
  | [], _ => .nil
  | b :: bs, h => .cons (h b (List.mem_cons_self ..)) (dps_ofCh fun c hc => h c (List.mem_cons_of_mem _ hc))
def rSortedCh (K : PySem.W.Frag) : List V → Hp → VK → Prop := fun vs H Q => ∃ (a : Addr) (xs : List V) (cs : List Ch), vs = [V.ref a] ∧ SqL K H a xs ∧ DpAll K H xs (cs.map dCh) ∧
  ∀ (ys : List V) (cs' : List Ch) (p : Addr), cs'.Perm cs → cs'.Pairwise chLe → DpAll K H ys (cs'.map dCh) → H p = none → Q (.ref p) (upd H p (.lst ys))
theorem each_valsC : ∀ {bs : List (V × Ch)} {us : List Value}, Vals (bs.map Prod.fst) us → EachIs (fun (v : Value) (b : V × Ch) => RelV b.1 v) us bs
  | [], _, h => by cases h; exact .nil
  | b :: bs, _, h => by
    cases h with
    | cons h1 h2 => exact .cons h1 (each_valsC h2)
theorem vals_eachC : ∀ {bs : List (V × Ch)} {us : List Value}, EachIs (fun (v : Value) (b : V × Ch) => RelV b.1 v) us bs → Vals (bs.map Prod.fst) us
  | _, _, .nil => .nil
  | _, _, .cons h1 h2 => .cons h1 (vals_eachC h2)
theorem ch_sorted {bs : List (V × Ch)} : (bs.mergeSort fun p q => decide (chLe p.2 q.2)).Pairwise (fun p q => decide (chLe p.2 q.2) = true) := by
  refine List.pairwise_mergeSort (fun a b c h1 h2 => ?_) (fun a b => ?_) bs
  · simp only [decide_eq_true_eq] at h1 h2 ⊢
    exact rdLe_trans h1 h2
  · simp only [Bool.or_eq_true, decide_eq_true_eq]
    exact rdLe_total _ _
theorem cr_sortedCh (hu : X.A.units + 64 < cLine) : CallR X (.builtin "sorted") (rSortedCh X.K) := by
  intro pins s σ H vs us Q I r h
  obtain ⟨a, xs, cs, rfl, hs, ls, q⟩ := h
  obtain ⟨its, rv, hl, hz⟩ := I.list hs
  rw [Vals.ref1 r]
  obtain ⟨e1, e2, e3⟩ := dps_zip ls
  generalize xs.zip cs = bs at e1 e2 e3
  subst e1
  subst e2
  have each := each_valsC rv
  have reads : EachIs (fun (v : Value) (b : V × Ch) => ∃ as, Reads s.heap v (dCh b.2) as) its bs := by
    clear q hs ls hl hz r
    induction each with
    | nil => exact .nil
    | @cons v b vs' bs' h1 h2 ih =>
      exact .cons (Dp.reads I _ b.1 v (e3 b (List.mem_cons_self ..)) h1) (ih (fun c hc => e3 c (List.mem_cons_of_mem _ hc)) (by cases rv with | cons _ r2 => exact r2))
  refine sorted_data (enc := fun b : V × Ch => dCh b.2) (R := fun (v : Value) (b : V × Ch) => RelV b.1 v) hl.isList each reads (AllAlike.of fun b b' => alike_ch _ _) (Sortable.tuples fun b => ⟨_, _, rfl⟩) (by rw [List.length_map] at hz; exact hz) (fun b hb => ?_) fun out hlen ho => ?_
  · have := depth_ch b.2
    omega
  · rw [dataLe_ch (fun b : V × Ch => b.2)] at ho
    obtain ⟨ep, he'⟩ := PyProof.Rows.sortedAll_at s.heap its out.toArray
    have vo := vals_eachC ho
    have srt := ch_sorted (bs := bs)
    have pm : (bs.mergeSort fun p q => decide (chLe p.2 q.2)).Perm bs := List.mergeSort_perm ..
    generalize (bs.mergeSort fun p q => decide (chLe p.2 q.2)) = bs' at ho vo srt pm
    refine ⟨.ref _, upd H (s.heap.objs.size + 1) (.lst (bs'.map Prod.fst)), I.laid (t' := s.toks) (fun _ _ => PyProof.Rows.sortedAll_old) (Nat.le_succ _) ⟨by rw [List.length_map, pm.length_eq]; rw [List.length_map] at hz; exact hz, out, ep, vo, he'⟩, rfl, ?_⟩
    refine q _ (bs'.map Prod.snd) _ (pm.map _) ?_ (dps_ofCh fun b hb => e3 b (pm.mem_iff.mp hb)) (I.hok.fresh (Nat.le_succ _))
    rw [List.pairwise_map]
    exact srt.imp fun h => of_decide_eq_true h
end
end Tk

namespace Tk
open PySem PySem.Spec PyProof.Rows L2
abbrev sAllV : Stmt := top 57
/-! ## each pair an arrow or a tie, in lists -/
/-- a heap without one of its places -/
def em (D : Addr) (H : Hp) : Hp := fun b => if b = D then none else H b
theorem em_le {D : Addr} {H : Hp} : Same (em D H) H := fun b o h => by
  unfold em at h
  split at h
  · cases h
  · exact h
theorem em_get {D b : Addr} {H : Hp} {o : HO} (n : b ≠ D) (h : H b = some o) : em D H b = some o := by unfold em; rw [if_neg n]; exact h
theorem em_s {D : Addr} {H H' : Hp} (e : Same H H') : Same (em D H) (em D H') := fun b o h => by
  unfold em at h ⊢
  split at h
  · cases h
  · rename_i c
    rw [if_neg c]
    exact e _ _ h
theorem em_up {D : Addr} {H : Hp} {o : HO} : Same (em D H) (em D (upd H D o)) := fun b o' h => by
  unfold em at h ⊢
  split at h
  · cases h
  · rename_i c
    rw [if_neg c, upd_ne c]
    exact h
theorem em_of {D : Addr} {G H : Hp} (hD : G D = none) (e : Same G H) : Same G (em D H) := fun b o h => em_get (fun z => by rw [z, hD] at h; cases h) (e _ _ h)
def ChsP (K : PySem.W.Frag) (G : Hp) : List V → List Ch → Prop
  | [], [] => True
  | x :: xs, c :: cs => (∃ (t u d : Addr) (us ds : List V), x = .ref t ∧ G t = some (.tup [.ref u, .ref d]) ∧ G u = some (.lst us) ∧ DpAll K G us (c.1.map dP) ∧ G d = some (.lst ds) ∧ DpAll K G ds (c.2.map dP)) ∧ ChsP K G xs cs
  | _, _ => False
section
variable {K : PySem.W.Frag} {G G' : Hp}
theorem chs_s (e : Same G G') : ∀ {xs : List V} {cs : List Ch}, ChsP K G xs cs → ChsP K G' xs cs
  | [], [], _ => trivial
  | _ :: _, _ :: _, ⟨⟨t, u, d, us, ds, h1, h2, h3, h4, h5, h6⟩, h⟩ => ⟨⟨t, u, d, us, ds, h1, e _ _ h2, e _ _ h3, dps_s h4 e, e _ _ h5, dps_s h6 e⟩, chs_s e h⟩
  | [], _ :: _, h => h.elim
  | _ :: _, [], h => h.elim
theorem chs_len : ∀ {xs : List V} {cs : List Ch}, ChsP K G xs cs → xs.length = cs.length
  | [], [], _ => rfl
  | _ :: _, _ :: _, ⟨_, h⟩ => by simp [chs_len h]
  | [], _ :: _, h => h.elim
  | _ :: _, [], h => h.elim
theorem chs_at : ∀ {xs : List V} {cs : List Ch}, ChsP K G xs cs → ∀ {i : Nat} {x : V}, xs[i]? = some x →
    ∃ (c : Ch) (t u d : Addr) (us ds : List V), cs[i]? = some c ∧ x = .ref t ∧ G t = some (.tup [.ref u, .ref d]) ∧ G u = some (.lst us) ∧ DpAll K G us (c.1.map dP) ∧ G d = some (.lst ds) ∧ DpAll K G ds (c.2.map dP)
  | [], [], _, _, _, h => by simp at h
  | x :: xs, c :: cs, ⟨⟨t, u, d, us, ds, h1⟩, h7⟩, i, y, h => by
    cases i with
    | zero =>
      simp at h
      subst h
      exact ⟨c, t, u, d, us, ds, rfl, h1⟩
    | succ i => exact chs_at h7 (i := i) (by simpa using h)
  | [], _ :: _, h, _, _, _ => h.elim
  | _ :: _, [], h, _, _, _ => h.elim
theorem chs_app : ∀ {xs ys : List V} {cs ds : List Ch}, ChsP K G xs cs → ChsP K G ys ds → ChsP K G (xs ++ ys) (cs ++ ds)
  | [], _, [], _, _, h => h
  | _ :: _, _, _ :: _, _, ⟨h1, h2⟩, h => ⟨h1, chs_app h2 h⟩
  | [], _, _ :: _, _, h, _ => h.elim
  | _ :: _, _, [], _, h, _ => h.elim
theorem chs_dps : ∀ {xs : List V} {cs : List Ch}, ChsP K G xs cs → DpAll K G xs (cs.map dCh)
  | [], [], _ => .nil
  | _ :: _, _ :: _, ⟨⟨t, u, d, us, ds, h1, h2, h3, h4, h5, h6⟩, h⟩ => by
    rw [h1]
    exact .cons (.tup (st_of h2) (.cons (.lst (sl_of h3) h4) (.cons (.lst (sl_of h5) h6) .nil))) (chs_dps h)
  | [], _ :: _, h => h.elim
  | _ :: _, [], h => h.elim
end
theorem fil1 {p : Ch → Bool} {l : List Ch} {c : Ch} (h : p c = true) : (l ++ [c]).filter p = l.filter p ++ [c] := by rw [List.filter_append]; simp [h]
theorem fil0 {p : Ch → Bool} {l : List Ch} {c : Ch} (h : p c = false) : (l ++ [c]).filter p = l.filter p := by rw [List.filter_append]; simp [h]
def chK (n k : Nat) : List Ch := ((rowsT n n).take k).foldl chStep [([], [])]
theorem chStep_len (cs : List Ch) (p : Int × Int) : (chStep cs p).length = 2 * cs.length := by
  induction cs with
  | nil => rfl
  | cons c cs ih =>
    have : chStep (c :: cs) p = [(c.1 ++ [p], c.2), (c.1, c.2 ++ [p])] ++ chStep cs p := rfl
    rw [this, List.length_append, ih]
    simp
    omega
theorem chK_succ {n k : Nat} {p : Int × Int} (h : (rowsT n n)[k]? = some p) : chK n (k + 1) = chStep (chK n k) p := by
  unfold chK
  rw [take_at h, List.foldl_append]
  rfl
theorem chK_len {n : Nat} : ∀ {k : Nat}, k ≤ (rowsT n n).length → (chK n k).length = 2 ^ k
  | 0, _ => by unfold chK; rw [List.take_zero]; rfl
  | k + 1, h => by
    have e : (rowsT n n)[k]? = some ((rowsT n n)[k]'(by omega)) := List.getElem?_eq_getElem (by omega)
    rw [chK_succ e, chStep_len, chK_len (by omega), Nat.pow_succ]
    omega
theorem chK_short {n : Nat} : ∀ {k : Nat}, k ≤ (rowsT n n).length → ∀ c ∈ chK n k, c.1.length ≤ k ∧ c.2.length ≤ k
  | 0, _, c, hc => by
    unfold chK at hc
    rw [List.take_zero] at hc
    rw [List.mem_singleton.mp hc]
    exact ⟨Nat.le_refl _, Nat.le_refl _⟩
  | k + 1, h, c, hc => by
    have e : (rowsT n n)[k]? = some ((rowsT n n)[k]'(by omega)) := List.getElem?_eq_getElem (by omega)
    rw [chK_succ e] at hc
    obtain ⟨d, hd, h2⟩ := List.mem_flatMap.mp hc
    have ih := chK_short (by omega) d hd
    simp at h2
    rcases h2 with rfl | rfl
    · exact ⟨by simp; omega, by show d.2.length ≤ k + 1; omega⟩
    · exact ⟨by show d.1.length ≤ k + 1; omega, by simp; omega⟩
theorem rows_few4 {n : Nat} (h : n ≤ 4) : (rowsT n n).length ≤ 6 := by
  have h1 : n = 0 ∨ n = 1 ∨ n = 2 ∨ n = 3 ∨ n = 4 := by omega
  rcases h1 with rfl | rfl | rfl | rfl | rfl <;> decide +kernel
def spAllV (K : PySem.W.Frag) : Sp := fun vs H Q _ => ∃ n : Nat, vs = [.int n] ∧ n ≤ 4 ∧
  ∀ (H' : Hp) (r : Addr) (xs : List V) (cs : List Ch), Same H H' → H r = none → H' r = some (.lst xs) → DpAll K H' xs (cs.map dCh) → cs.Perm ((chAll n).filter fun c => plainC n c.1 c.2) → cs.Pairwise chLe → Q (.ref r) H'
section
variable {P : Program} {w : World} {K : PySem.W.Frag} {mg : Str → Option Value} {base : Heap}
abbrev nAllV : List Str := ["_law_size", "_law_found", "_law_pair", "_law_longer", "_law_arrows", "_law_ties", "_law_one"]
abbrev rLenV (K : PySem.W.Frag) : List V → Hp → VK → Prop := fun xs H Q => ∃ p ys, xs = [V.ref p] ∧ (SqL K H p ys ∨ SqT K H p ys) ∧ Q (V.int ys.length) H
theorem sc_allV : FnScope nAllV ["_law_size"] (defScope sAllV) := ⟨rfl, rfl, rfl, by decide +kernel, rfl, by decide +kernel, by decide +kernel⟩
theorem ok_allV {f f1 f2 : Addr} {fd fd1 fd2 : FuncData} (F : Fun K "_law_all" "_law_all" sAllV f fd) (D1 : Df K mg "_law_pairs" sPairsF ["_law_size"] f1 fd1) (D2 : Df K mg "_law_plain" sPlainF ["_law_size", "_law_arrows", "_law_ties"] f2 fd2)
    (G2 : FnOk P w K mg base CX0 3 f2 fd2 ["_law_size", "_law_arrows", "_law_ties"] (spPlainF K)) (B : Bl mg) : FnOk P w K mg base CX0 4 f fd ["_law_size"] (spAllV K) := by
  have G1 : FnOk P w K mg base CX0 1 f1 fd1 ["_law_size"] spPairsF := ok_pairsF D1.F B
  refine F.ok sc_allV (fun vs H Q E h => ?_) (fun cdv A outer s H vs Q E hr h => ?_)
  · obtain ⟨n, rfl, _⟩ := h
    rfl
  · obtain ⟨n, rfl, n4, q⟩ := h
    have hr1 : Room 1 _ := hr.mono (by decide)
    refine ⟨_, pss_cons (ps_set (i := 1) sc_allV.nd rfl (Or.inl rfl) (pe_lst (pa_cons (pe_tup (pa_cons (pe_lst pa_nil) (pa_cons (pe_lst pa_nil) pa_nil))) pa_nil)))
      (pss_cons (ps_for PassesOwn.never rfl (pi_list (pe_call G1 hr1 rfl D1.g D1.F.kp D1.b .nil pass0 (pa_cons (pv 0) pa_nil))) (pg_name (i := 2) sc_allV.nd rfl (Or.inl rfl))
        (pss_cons (ps_set (i := 3) sc_allV.nd rfl (Or.inl rfl) (pe_lst pa_nil))
        (pss_cons (ps_for PassesOwn.never rfl (pi_list (pv 1)) (pg_tup rfl (pgs_cons (pg_name (i := 4) sc_allV.nd rfl (Or.inl rfl)) (pgs_cons (pg_name (i := 5) sc_allV.nd rfl (Or.inl rfl)) pgs_nil)))
          (pss_cons (ps_expr (pe_bm PySem.F.plainAttrs_list PySem.F.slot_list_append PySem.F.type_list_append mt_append (pv 3) (pa_cons (pe_tup (pa_cons (pe_op op_cat (pv 4) (pe_lst (pa_cons (pv 2) pa_nil))) (pa_cons (pv 5) pa_nil))) pa_nil)))
          (pss_one (ps_expr (pe_bm PySem.F.plainAttrs_list PySem.F.slot_list_append PySem.F.type_list_append mt_append (pv 3) (pa_cons (pe_tup (pa_cons (pv 4) (pa_cons (pe_op op_cat (pv 5) (pe_lst (pa_cons (pv 2) pa_nil))) pa_nil))) pa_nil))))))
        (pss_one (ps_set (i := 1) sc_allV.nd rfl (Or.inl rfl) (pv 3))))))
      (pss_one (ps_ret (pe_callB (cr_sortedCh hr.units) (by rfl) B.sorted PyProof.Rows.boot_sorted (pa_cons
        (pe_lc (own := [("_law_one", 6)]) (g := gName 6) (te := tVar 6) (tt := tOr (tTest (tOp rNe (tCB (rLenV K) (tCons (tOp (rIxT K) (tVar 6) (tC (.int 0))) tNil)) (tCB (rLenV K) (tCons (tOp (rIxT K) (tVar 6) (tC (.int 1))) tNil))))
            (tB (tCall (spPlainF K) [] E0 (tCons (tVar 0) (tCons (tOp (rIxT K) (tVar 6) (tC (.int 0))) (tCons (tOp (rIxT K) (tVar 6) (tC (.int 1))) tNil))))))
          rfl sc_allV.nd (pi_list (pv 1)) (blkOk_by (N := nAllV) (sc := defScope sAllV) (by decide +kernel)) (fun _ _ _ _ _ => pg_name (i := 6) sc_allV.nd rfl (Or.inl rfl))
          (fun _ _ _ _ _ => pts_one (PW.pt (pw_or (pt_cmpR op_ne (pe_callB call_len_seq (by rfl) B.len PySem.boot_len (pa_cons (pe_ix ix_tup (pv 6) pe_int (fun _ _ => rfl)) pa_nil)) (pe_callB call_len_seq (by rfl) B.len PySem.boot_len (pa_cons (pe_ix ix_tup (pv 6) pe_int (fun _ _ => rfl)) pa_nil)) (nomark _))
            (pw_or1 (pt_val (pe_call G2 hr rfl D2.g D2.F.kp D2.b .nil pass0 (pa_cons (pv 0) (pa_cons (pe_ix ix_tup (pv 6) pe_int (fun _ _ => rfl)) (pa_cons (pe_ix ix_tup (pv 6) pe_int (fun _ _ => rfl)) pa_nil))))))))) (fun _ _ _ _ _ => pv 6)) pa_nil))))), ?_⟩
    have few := rows_few4 n4
    -- one beginning
    refine ⟨szle (by show 0 ≤ 100000; decide), fun b1 hb1 => ⟨szle (by show 0 ≤ 100000; decide), fun b2 hb2 => ⟨szle (by show 2 ≤ 100000; decide), fun b3 hb3 => ⟨szle (by show 1 ≤ 100000; decide), fun b4 hb4 => ?_⟩⟩⟩⟩
    have s1 := same_new (o := .lst []) hb1
    have s2 := same_new (o := .lst []) hb2
    have s3 := same_new (o := .tup [V.ref b1, V.ref b2]) hb3
    have s4 := same_new (o := .lst [V.ref b3]) hb4
    refine ⟨_, rfl, n, rfl, by omega, fun G1 r0 ps s5 _ hr0 tps => ⟨r0, rfl, ⟨ps, sl_of hr0⟩, ?_⟩⟩
    have init : ChsP K G1 [.ref b3] (chK n 0) := by
      have e0 : chK n 0 = [([], [])] := by unfold chK; rw [List.take_zero]; rfl
      rw [e0]
      exact ⟨⟨b3, b1, b2, [], [], rfl, (s4.trans s5) _ _ upd_same, (((s2.trans s3).trans s4).trans s5) _ _ upd_same, .nil, ((s3.trans s4).trans s5) _ _ upd_same, .nil⟩, trivial⟩
    have s15 := (((s1.trans s2).trans s3).trans s4).trans s5
    have hf0 : G1 b4 = some (.lst [V.ref b3]) := s5 _ _ upd_same
    clear s1 s2 s3 s4 s5 hb1 hb2 hb3 hb4
    refine for_list (K := K) (a := r0) (xs := ps) (fun k σ G => ∃ (fo : Addr) (xs : List V) (v2 v3 v4 v5 : Option V), σ = [some (V.int n), some (V.ref fo), v2, v3, v4, v5, none] ∧ Same G1 G ∧ G fo = some (.lst xs) ∧ ChsP K G xs (chK n k))
      ⟨b4, _, none, none, none, none, rfl, fun _ _ h => h, hf0, init⟩ (fun k σ G _ z => by obtain ⟨_, _, _, _, _, _, _, z, _⟩ := z; exact sl_of (z _ _ hr0)) ?_ ?_
    · rintro k y σ G hy ⟨fo, xs, v2, v3, v4, v5, rfl, sG, hfo, hch⟩
      obtain ⟨pt, z, rfl, hz, hpt⟩ := tps.2 k y hy
      have hk := lt_of_at hz
      have lch := chK_len (n := n) (k := k) (by omega)
      have pw64 : 2 ^ k ≤ 32 := by
        have : k ≤ 5 := by omega
        calc 2 ^ k ≤ 2 ^ 5 := Nat.pow_le_pow_right (by decide) this
          _ = 32 := rfl
      have lxs := chs_len hch
      refine ⟨szle (by show 0 ≤ 100000; decide), fun D hD => ?_⟩
      have sD := same_new (o := .lst []) hD
      refine ⟨_, rfl, fo, rfl, ⟨xs, sl_of (sD _ _ hfo)⟩, for_list (K := K) (a := fo) (xs := xs) (fun i σ G2 => ∃ (acc : List V) (v4 v5 : Option V), σ = [some (V.int n), some (V.ref fo), some (V.ref pt), some (V.ref D), v4, v5, none] ∧ Same G G2 ∧ G2 D = some (.lst acc) ∧ ChsP K (em D G2) acc (chStep ((chK n k).take i) z))
        ⟨[], _, _, rfl, sD, upd_same, trivial⟩ (fun i σ G2 _ h => by obtain ⟨_, _, _, _, h, _⟩ := h; exact sl_of (h _ _ hfo)) ?_ ?_⟩
      · rintro i x σ G2 hx ⟨acc, v4, v5, rfl, s2, hacc, hca⟩
        obtain ⟨c, t, u, d, us, ds, hc, rfl, h1, h2, h3, h4, h5⟩ := chs_at hch hx
        have hi := lt_of_at hx
        have lac := chs_len hca
        rw [chStep_len, List.length_take] at lac
        obtain ⟨c1, c2⟩ := chK_short (n := n) (k := k) (by omega) c (List.mem_of_getElem? hc)
        have lus : us.length = c.1.length := by rw [dps_len h3, List.length_map]
        have lds : ds.length = c.2.length := by rw [dps_len h5, List.length_map]
        have hptG := sG _ _ hpt
        refine ⟨t, _, rfl, st_of (s2 _ _ h1), rfl, _, _, rfl, _, _, rfl, rfl, ?_⟩
        -- an arrow
        refine ⟨_, rfl, .inl ⟨rfl, _, sl_of hacc⟩, _, rfl, _, rfl, szle (by show 1 ≤ 100000; decide), fun e1 he1 => ?_⟩
        have y1 := same_new (o := .lst [V.ref pt]) he1
        refine ⟨u, e1, us, _, rfl, rfl, (s2.trans y1) _ _ h2, upd_same, szle (by rw [List.length_singleton]; omega), fun e2 he2 => ?_⟩
        have y2 := same_new (o := .lst (us ++ [V.ref pt])) he2
        refine ⟨_, rfl, szle (by show 2 ≤ 100000; decide), fun e3 he3 => ?_⟩
        have y3 := same_new (o := .tup [V.ref e2, V.ref d]) he3
        have y13 := (y1.trans y2).trans y3
        have n3 : e3 ≠ D := fun e => by rw [e, (y1.trans y2) _ _ hacc] at he3; cases he3
        have n2 : e2 ≠ D := fun e => by rw [e, y1 _ _ hacc] at he2; cases he2
        refine ⟨D, acc, _, rfl, rfl, y13 _ _ hacc, szlt (by omega), ?_⟩
        have sA : Same G (em D (upd (upd (upd G2 e1 (.lst [V.ref pt])) e2 (.lst (us ++ [V.ref pt]))) e3 (.tup [V.ref e2, V.ref d]))) := em_of hD (s2.trans y13)
        have put1 : ChsP K (em D (upd (upd (upd (upd G2 e1 (.lst [V.ref pt])) e2 (.lst (us ++ [V.ref pt]))) e3 (.tup [V.ref e2, V.ref d])) D (.lst (acc ++ [V.ref e3])))) (acc ++ [.ref e3]) (chStep ((chK n k).take i) z ++ [(c.1 ++ [z], c.2)]) := by
          refine chs_s em_up (chs_app (chs_s (em_s y13) hca) ⟨⟨e3, e2, d, _, ds, rfl, em_get n3 upd_same, em_get n2 (y3 _ _ upd_same), ?_, sA _ _ h4, dps_s h5 sA⟩, trivial⟩)
          rw [List.map_append]
          exact dps_app (dps_s h3 sA) (.cons (dP_mk (st_of (sA _ _ hptG))) .nil)
        have sB : Same G (upd (upd (upd (upd G2 e1 (.lst [V.ref pt])) e2 (.lst (us ++ [V.ref pt]))) e3 (.tup [V.ref e2, V.ref d])) D (.lst (acc ++ [V.ref e3]))) := same_mut (s2.trans y13) hD
        have hB : (upd (upd (upd (upd G2 e1 (.lst [V.ref pt])) e2 (.lst (us ++ [V.ref pt]))) e3 (.tup [V.ref e2, V.ref d])) D (.lst (acc ++ [V.ref e3]))) D = some (.lst (acc ++ [V.ref e3])) := upd_same
        generalize upd (upd (upd (upd G2 e1 (.lst [V.ref pt])) e2 (.lst (us ++ [V.ref pt]))) e3 (.tup [V.ref e2, V.ref d])) D (.lst (acc ++ [V.ref e3])) = G3 at put1 sB hB
        clear sA y1 y2 y3 y13 n3 n2 he1 he2 he3
        -- a tie
        refine ⟨_, rfl, .inl ⟨rfl, _, sl_of hB⟩, _, rfl, _, rfl, _, rfl, szle (by show 1 ≤ 100000; decide), fun e1' he1 => ?_⟩
        have y1 := same_new (o := .lst [V.ref pt]) he1
        refine ⟨d, e1', ds, _, rfl, rfl, (sB.trans y1) _ _ h4, upd_same, szle (by rw [List.length_singleton]; omega), fun e2' he2 => ?_⟩
        have y2 := same_new (o := .lst (ds ++ [V.ref pt])) he2
        refine ⟨szle (by show 2 ≤ 100000; decide), fun e3' he3 => ?_⟩
        have y3 := same_new (o := .tup [V.ref u, V.ref e2']) he3
        have y13 := (y1.trans y2).trans y3
        have n3 : e3' ≠ D := fun e => by rw [e, (y1.trans y2) _ _ hB] at he3; cases he3
        have n2 : e2' ≠ D := fun e => by rw [e, y1 _ _ hB] at he2; cases he2
        refine ⟨D, _, _, rfl, rfl, y13 _ _ hB, szlt (by rw [List.length_append, List.length_singleton]; omega), ?_⟩
        have sA := em_of hD (sB.trans y13)
        refine ⟨_, _, _, rfl, same_mut (sB.trans y13) hD, upd_same, ?_⟩
        have es : chStep ((chK n k).take (i + 1)) z = chStep ((chK n k).take i) z ++ [(c.1 ++ [z], c.2)] ++ [(c.1, c.2 ++ [z])] := by
          rw [take_at hc]
          unfold chStep
          rw [List.flatMap_append]
          simp
        rw [es]
        refine chs_s em_up (chs_app (chs_s (em_s y13) put1) ⟨⟨e3', u, e2', us, _, rfl, em_get n3 upd_same, sA _ _ h2, dps_s h3 sA, em_get n2 (y3 _ _ upd_same), ?_⟩, trivial⟩)
        rw [List.map_append]
        exact dps_app (dps_s h5 sA) (.cons (dP_mk (st_of (sA _ _ hptG))) .nil)
      · rintro σ G2 ⟨acc, v4, v5, rfl, s2, hacc, hca⟩
        rw [lxs, List.take_length] at hca
        refine ⟨_, rfl, D, acc, _, _, _, _, rfl, sG.trans s2, hacc, ?_⟩
        rw [chK_succ hz]
        exact chs_s em_le hca
    · rintro σ G ⟨fo, xs, v2, v3, v4, v5, rfl, sG, hfo, hch⟩
      have ek : chK n ps.length = chAll n := by
        unfold chK chAll
        rw [tps.1, List.take_length]
      rw [ek] at hch
      have lxs := chs_len hch
      have la : (chAll n).length ≤ 64 := by
        have h1 := chK_len (n := n) (k := (rowsT n n).length) (Nat.le_refl _)
        have e2 : chK n (rowsT n n).length = chAll n := by unfold chK chAll; rw [List.take_length]
        rw [e2] at h1
        rw [h1]
        calc 2 ^ (rowsT n n).length ≤ 2 ^ 6 := Nat.pow_le_pow_right (by decide) few
          _ = 64 := rfl
      refine ⟨_, rfl, fo, rfl, ⟨xs, sl_of hfo⟩, fun D hD => ?_⟩
      refine lc_list (xs := xs) (fun k G2 => Same G G2 ∧ ∃ acc, G2 D = some (.lst acc) ∧ ChsP K (em D G2) acc (((chAll n).take k).filter fun c => plainC n c.1 c.2) ∧ acc.length ≤ k) ⟨same_new hD, [], upd_same, trivial, Nat.le_refl _⟩ (fun k G2 _ z => sl_of (z.1 _ _ hfo)) ?_ ?_
      · rintro k x G2 hx ⟨s2, acc, hacc, hca, lk⟩
        obtain ⟨c, t, u, d, us, ds, hc, rfl, h1, h2, h3, h4, h5⟩ := chs_at hch hx
        have hk := lt_of_at hx
        have lus : us.length = c.1.length := by rw [dps_len h3, List.length_map]
        have lds : ds.length = c.2.length := by rw [dps_len h5, List.length_map]
        have yes : ∀ {G3 : Hp}, Same G2 G3 → plainC n c.1 c.2 = true → ∃ acc, G3 D = some (.lst acc) ∧ acc.length < sizeLine ∧ (Same G (upd G3 D (.lst (acc ++ [.ref t]))) ∧ ∃ acc', (upd G3 D (.lst (acc ++ [.ref t]))) D = some (.lst acc') ∧
            ChsP K (em D (upd G3 D (.lst (acc ++ [.ref t])))) acc' (((chAll n).take (k + 1)).filter fun c => plainC n c.1 c.2) ∧ acc'.length ≤ k + 1) := fun {G3} s3 cp => by
          have sA := em_of hD (s2.trans s3)
          refine ⟨acc, s3 _ _ hacc, szlt (by omega), same_mut (s2.trans s3) hD, acc ++ [.ref t], upd_same, ?_, by rw [List.length_append, List.length_singleton]; omega⟩
          rw [take_at hc, fil1 (p := fun c => plainC n c.1 c.2) cp]
          exact chs_s em_up (chs_app (chs_s (em_s s3) hca) ⟨⟨t, u, d, us, ds, rfl, sA _ _ h1, sA _ _ h2, dps_s h3 sA, sA _ _ h4, dps_s h5 sA⟩, trivial⟩)
        refine ⟨rfl, _, rfl, t, _, _, _, rfl, rfl, st_of (s2 _ _ h1), rfl, u, us, rfl, .inl (sl_of (s2 _ _ h2)), _, rfl, t, _, _, _, rfl, rfl, st_of (s2 _ _ h1), rfl, d, ds, rfl, .inl (sl_of (s2 _ _ h4)), rfl, _, ne_bl, ?_⟩
        by_cases cu : us.length = ds.length
        · rw [decide_eq_true (show ((us.length : Nat) : Int) = (ds.length : Nat) by omega)]
          refine iteF ⟨_, rfl, _, rfl, t, _, _, _, rfl, rfl, st_of (s2 _ _ h1), rfl, _, rfl, t, _, _, _, rfl, rfl, st_of (s2 _ _ h1), rfl, n, u, d, c.1, c.2, rfl, ⟨us, sl_of (s2 _ _ h2), dps_s h3 s2⟩, ⟨ds, sl_of (s2 _ _ h4), dps_s h5 s2⟩, by omega, fun G3 s3 => ⟨_, rfl, ?_⟩⟩
          rw [plainB_C]
          by_cases cp : plainC n c.1 c.2 = true
          · rw [cp]
            exact iteT ⟨_, rfl, yes s3 cp⟩
          · rw [Bool.not_eq_true] at cp
            rw [cp]
            refine iteF ⟨s2.trans s3, acc, s3 _ _ hacc, ?_, by omega⟩
            rw [take_at hc, fil0 (p := fun c => plainC n c.1 c.2) cp]
            exact chs_s (em_s s3) hca
        · rw [decide_eq_false (show ¬ ((us.length : Nat) : Int) = (ds.length : Nat) by omega)]
          exact iteT ⟨_, rfl, yes (fun _ _ h => h) (ch_unlike n4 c (List.mem_of_getElem? hc) (by omega))⟩
      · rintro G2 ⟨s2, acc, hacc, hca, _⟩
        rw [lxs, List.take_length] at hca
        refine ⟨D, acc, _, rfl, sl_of hacc, chs_dps (chs_s em_le hca), fun ys cs' p pm so dp hp => ?_⟩
        have sp := same_new (o := .lst ys) hp
        exact q _ p ys cs' (((s15.trans sG).trans s2).trans sp) (((s15.trans sG).trans s2).free hp) upd_same (dps_s dp sp) pm so
end
end Tk

namespace Tk
open PySem PySem.Spec PyProof.Rows L2
def spWithArrow (K : PySem.W.Frag) (C : Addr) : Sp := fun vs H Q _ => ∃ (p t : Addr) (n : Nat) (as ts : List (Int × Int)) (i j : Int), vs = [.ref p, .ref t] ∧ PlanAt K C H p n as ts ∧ SqT K H t [.int i, .int j] ∧ Prs n (as ++ [(i, j)]) ∧ Acy (as ++ [(i, j)]) ∧
  ∀ (H' : Hp) (x : Addr) (as' ts' : List (Int × Int)), Same H H' → as'.Perm (as ++ [(i, j)]) → ts'.Perm ts → PlanAt K C H' x n as' ts' → Q (.ref x) H'
def spWithTie (K : PySem.W.Frag) (C : Addr) : Sp := fun vs H Q _ => ∃ (p t : Addr) (n : Nat) (as ts : List (Int × Int)) (i j : Int), vs = [.ref p, .ref t] ∧ PlanAt K C H p n as ts ∧ SqT K H t [.int i, .int j] ∧ Prs n (ts ++ [(i, j)]) ∧ i < j ∧
  ∀ (H' : Hp) (x : Addr) (as' ts' : List (Int × Int)), Same H H' → as'.Perm as → ts'.Perm (ts ++ [(i, j)]) → PlanAt K C H' x n as' ts' → Q (.ref x) H'
def spNoRing (K : PySem.W.Frag) (C : Addr) : Sp := fun vs H Q _ => ∃ (p t : Addr) (n : Nat) (as ts : List (Int × Int)) (i j : Int), vs = [.ref p, .ref t] ∧ PlanAt K C H p n as ts ∧ SqT K H t [.int i, .int j] ∧ Prs n (as ++ [(i, j)]) ∧ ∀ H', Same H H' → Q (.bl (acyB as (i, j))) H'
def spChkPlain (K : PySem.W.Frag) (C : Addr) : Sp := fun vs H Q _ => ∃ (p : Addr) (n : Nat) (as ts : List (Int × Int)), vs = [.ref p] ∧ PlanAt K C H p n as ts ∧ PlainP n as ts ∧ ∀ H', Same H H' → Q .non H'
/-- what can be put: the arrows, the ties -/
def PutA (n : Nat) (as ts : List (Int × Int)) (p : Int × Int) : Prop := (p ∈ looseP n as ts ∨ swp p ∈ looseP n as ts) ∧ Acy (as ++ [p]) ∧ PlainP n (as ++ [p]) ts
def PutT (n : Nat) (as ts : List (Int × Int)) (p : Int × Int) : Prop := p ∈ looseP n as ts ∧ PlainP n as (ts ++ [p])
def spCanPut (K : PySem.W.Frag) (C : Addr) : Sp := fun vs H Q _ => ∃ (p : Addr) (n : Nat) (as ts : List (Int × Int)), vs = [.ref p] ∧ PlanAt K C H p n as ts ∧ PlainP n as ts ∧
  ∀ (H' : Hp) (r la lt : Addr) (xs ys : List V) (A T : List (Int × Int)), Same H H' → H' r = some (.tup [.ref la, .ref lt]) → H la = none → H lt = none → la ≠ lt → H' la = some (.lst xs) → H' lt = some (.lst ys) → DpAll K H' xs (A.map dP) → DpAll K H' ys (T.map dP) →
    A.length ≤ 72 → T.length ≤ 36 → SrtPs A → A.Nodup → (∀ p, p ∈ A ↔ PutA n as ts p) → SrtPs T → T.Nodup → (∀ p, p ∈ T ↔ PutT n as ts p) → Q (.ref r) H'
theorem prs_more {n : Nat} {ps : List (Int × Int)} {p : Int × Int} (n6 : n ≤ 6) (h : Prs n ps) (no : p ∉ ps) (a : 0 ≤ p.1 ∧ p.1 < n ∧ 0 ≤ p.2 ∧ p.2 < n ∧ p.1 ≠ p.2) : Prs n (ps ++ [p]) := by
  refine prs_mk n6 ?_ ?_
  · rw [List.nodup_append]
    exact ⟨h.1, by simp, fun x hx y hy e => no (by rw [← List.mem_singleton.mp hy, ← e]; exact hx)⟩
  · intro q hq
    rcases List.mem_append.mp hq with z | z
    · exact h.2.2 q z
    · rw [List.mem_singleton.mp z]
      exact ⟨a.1, a.2.1, a.2.2.1, a.2.2.2.1, a.2.2.2.2⟩
theorem plain_congr {n : Nat} {as as' ts ts' : List (Int × Int)} (pA : as'.Perm as) (pT : ts'.Perm ts) : PlainP n as' ts' ↔ PlainP n as ts := by
  rw [plain_bars, plain_bars]
  exact ⟨fun h o b => h o (bar_congr pA pT b), fun h o b => h o (bar_congr pA.symm pT.symm b)⟩
section
variable {P : Program} {w : World} {K : PySem.W.Frag} {mg : Str → Option Value} {base : Heap}
theorem sc_withArrow : FnScope ["plan", "arrow"] ["plan", "arrow"] (defScope sWithArrow) := ⟨rfl, rfl, rfl, by decide +kernel, rfl, by decide +kernel, by decide +kernel⟩
theorem ok_withArrow {f fI C pW gW fA fT : Addr} {fd dI fdW fdA fdT : FuncData} (F : Fun K "with_arrow" "with_arrow" sWithArrow f fd) (M : PlM K mg C pW gW fA fT fdW fdA fdT)
    (MI : Mk K C fI) (bI : Binds K dI ["self", "size", "arrows", "ties"] []) (GI : FnOk P w K mg base CX0 7 fI dI ["self", "size", "arrows", "ties"] (spInit K C)) (B : Bl mg) : FnOk P w K mg base CX0 9 f fd ["plan", "arrow"] (spWithArrow K C) := by
  have GA : FnOk P w K mg base CX0 1 fA fdA ["self"] (spArr K C) := ok_arrows M.FA M.c B
  have GT : FnOk P w K mg base CX0 1 fT fdT ["self"] (spTies K C) := ok_ties M.FT M.c B
  have GW : FnOk P w K mg base CX0 1 gW fdW ["self"] (getSp C "_size") := ok_width M.FW M.c
  refine F.ok sc_withArrow (fun vs H Q E h => ?_) (fun cdv A outer s H vs Q E hr h => ?_)
  · obtain ⟨p, t, n, as, ts, i, j, rfl, _⟩ := h
    rfl
  · obtain ⟨p, t, n, as, ts, i, j, rfl, hP, ht, pas', acy', q⟩ := h
    have hr1 : Room 1 _ := hr.mono (by decide)
    have hr2 : Room 2 _ := hr.mono (by decide)
    refine ⟨_, pss_one (ps_ret (pe_make MI GI hr rfl M.c.mgC bI .nil pass0 (pa_cons (pe_prop (pv 0) M.c.cl M.prop GW hr2 M.bW .nil pass0 rfl) (pa_cons (pe_lst (StX.pa_star (pe_meth0 (pv 0) M.c.cl M.mA GA hr1 M.bA .nil pass0) (pa_cons (pv 1) pa_nil))) (pa_cons (pe_meth0 (pv 0) M.c.cl M.mT GT hr1 M.bT .nil pass0) pa_nil))))), ?_⟩
    obtain ⟨⟨dx, a0, t0, hp, _⟩, n6, pas, acy, pts, lt⟩ := id hP
    have pfn : ∀ {m : Str}, ¬ m = "_size" → ¬ m = "_arrows" → ¬ m = "_ties" → (pf n a0 t0).lookup m = none := fun h1 h2 h3 => pf_no _ _ _ h1 h2 h3
    have few1 := pas.2.1
    refine ⟨_, rfl, p, dx, _, rfl, hp, p, dx, _, _, rfl, hp, pf_size _ _ _, ?_⟩
    refine ⟨_, rfl, p, dx, _, rfl, hp, pfn (by decide +kernel) (by decide +kernel) (by decide +kernel), p, n, as, ts, rfl, hP, fun H1 l1 s1 hl1 ⟨x1, hx1, d1⟩ => ?_⟩
    have lx1 : x1.length = as.length := by rw [dps_len d1, List.length_map]
    refine ⟨l1, x1, rfl, .inr (sl_of hx1), _, rfl, szle (by simp; omega), fun lb hlb => ?_⟩
    have s2 : Same H1 (upd H1 lb (.lst (x1 ++ [.ref t]))) := same_new hlb
    have plb : PL K (upd H1 lb (.lst (x1 ++ [.ref t]))) lb (as ++ [(i, j)]) := ⟨_, sl_of upd_same, by
      rw [List.map_append]
      exact dps_app (dps_s d1 s2) (.cons (dP_mk (same_t (s1.trans s2) ht)) .nil)⟩
    have s12 := s1.trans s2
    generalize upd H1 lb (.lst (x1 ++ [.ref t])) = H2 at s12 plb
    refine ⟨_, rfl, p, dx, _, rfl, s12 _ _ hp, pfn (by decide +kernel) (by decide +kernel) (by decide +kernel), p, n, as, ts, rfl, plan_s hP s12, fun H3 l3 s3 hl3 pm3 x dx' nx ndx nex => ?_⟩
    exact mk_plan (pl_s plb s3) (pl_pa2 (pm_pl pm3)) n6 pas' acy' pts lt nx ndx fun H4 as1 ts1 s4 pA pT PA => ⟨rfl, q H4 x as1 ts1 ((s12.trans s3).trans s4) pA pT PA⟩
theorem sc_withTie : FnScope ["plan", "tie"] ["plan", "tie"] (defScope sWithTie) := ⟨rfl, rfl, rfl, by decide +kernel, rfl, by decide +kernel, by decide +kernel⟩
theorem ok_withTie {f fI C pW gW fA fT : Addr} {fd dI fdW fdA fdT : FuncData} (F : Fun K "with_tie" "with_tie" sWithTie f fd) (M : PlM K mg C pW gW fA fT fdW fdA fdT)
    (MI : Mk K C fI) (bI : Binds K dI ["self", "size", "arrows", "ties"] []) (GI : FnOk P w K mg base CX0 7 fI dI ["self", "size", "arrows", "ties"] (spInit K C)) (B : Bl mg) : FnOk P w K mg base CX0 9 f fd ["plan", "tie"] (spWithTie K C) := by
  have GA : FnOk P w K mg base CX0 1 fA fdA ["self"] (spArr K C) := ok_arrows M.FA M.c B
  have GT : FnOk P w K mg base CX0 1 fT fdT ["self"] (spTies K C) := ok_ties M.FT M.c B
  have GW : FnOk P w K mg base CX0 1 gW fdW ["self"] (getSp C "_size") := ok_width M.FW M.c
  refine F.ok sc_withTie (fun vs H Q E h => ?_) (fun cdv A outer s H vs Q E hr h => ?_)
  · obtain ⟨p, t, n, as, ts, i, j, rfl, _⟩ := h
    rfl
  · obtain ⟨p, t, n, as, ts, i, j, rfl, hP, ht, pts', ij, q⟩ := h
    have hr1 : Room 1 _ := hr.mono (by decide)
    have hr2 : Room 2 _ := hr.mono (by decide)
    refine ⟨_, pss_one (ps_ret (pe_make MI GI hr rfl M.c.mgC bI .nil pass0 (pa_cons (pe_prop (pv 0) M.c.cl M.prop GW hr2 M.bW .nil pass0 rfl) (pa_cons (pe_meth0 (pv 0) M.c.cl M.mA GA hr1 M.bA .nil pass0) (pa_cons (pe_lst (StX.pa_star (pe_meth0 (pv 0) M.c.cl M.mT GT hr1 M.bT .nil pass0) (pa_cons (pv 1) pa_nil))) pa_nil))))), ?_⟩
    obtain ⟨⟨dx, a0, t0, hp, _⟩, n6, pas, acy, pts, lt⟩ := id hP
    have pfn : ∀ {m : Str}, ¬ m = "_size" → ¬ m = "_arrows" → ¬ m = "_ties" → (pf n a0 t0).lookup m = none := fun h1 h2 h3 => pf_no _ _ _ h1 h2 h3
    have few1 := pts.2.1
    refine ⟨_, rfl, p, dx, _, rfl, hp, p, dx, _, _, rfl, hp, pf_size _ _ _, ?_⟩
    refine ⟨_, rfl, p, dx, _, rfl, hp, pfn (by decide +kernel) (by decide +kernel) (by decide +kernel), p, n, as, ts, rfl, hP, fun H0 l0 s0 hl0 pm0 => ?_⟩
    refine ⟨_, rfl, p, dx, _, rfl, s0 _ _ hp, pfn (by decide +kernel) (by decide +kernel) (by decide +kernel), p, n, as, ts, rfl, plan_s hP s0, fun H1 l1 s1 hl1 ⟨x1, hx1, d1⟩ => ?_⟩
    have lx1 : x1.length = ts.length := by rw [dps_len d1, List.length_map]
    refine ⟨l1, x1, rfl, .inr (sl_of hx1), _, rfl, szle (by simp; omega), fun lb hlb x dx' nx ndx nex => ?_⟩
    have s2 : Same H1 (upd H1 lb (.lst (x1 ++ [.ref t]))) := same_new hlb
    have plb : PL K (upd H1 lb (.lst (x1 ++ [.ref t]))) lb (ts ++ [(i, j)]) := ⟨_, sl_of upd_same, by
      rw [List.map_append]
      exact dps_app (dps_s d1 s2) (.cons (dP_mk (same_t ((s0.trans s1).trans s2) ht)) .nil)⟩
    refine mk_plan (pl_s (pm_pl pm0) (s1.trans s2)) (pl_pa2 plb) n6 pas acy pts' (fun z hz => ?_) nx ndx fun H4 as1 ts1 s4 pA pT PA => ⟨rfl, q H4 x as1 ts1 (((s0.trans s1).trans s2).trans s4) pA pT PA⟩
    rcases List.mem_append.mp hz with k | k
    · exact lt z k
    · rw [List.mem_singleton.mp k]; exact ij
abbrev nCP : List Str := ["plan", "pairs", "straight", "arrows", "arrow", "tie"]
end
end Tk

namespace Tk
open PySem PySem.Spec PyProof.Rows L2
/-! ## a plan's own lists are not D -/
def NF (C : Addr) (H : Hp) (p : Addr) (n : Nat) (D : Addr) : Prop := ∀ (dx a t : Addr), H p = some (.ins C dx (pf n a t)) → a ≠ D ∧ t ≠ D
section
variable {K : PySem.W.Frag} {C : Addr} {H H' : Hp} {p D : Addr} {n : Nat} {as ts : List (Int × Int)}
theorem nf_eq (h : NF C H p n D) (P : PlanAt K C H p n as ts) (e : H' p = H p) : NF C H' p n D := fun dx a t q => h dx a t (by rw [← e]; exact q)
theorem nf_s (h : NF C H p n D) (P : PlanAt K C H p n as ts) (e : Same H H') : NF C H' p n D := by
  obtain ⟨⟨dx, a, t, hp, _⟩, _⟩ := id P
  exact nf_eq h P ((e _ _ hp).trans hp.symm)
theorem nf_x {a : Addr} (h : NF C H p n D) (P : PlanAt K C H p n as ts) (pot : Pot H a) (e : SmX a H H') : NF C H' p n D := by
  obtain ⟨⟨dx, a', t, hp, _⟩, _⟩ := id P
  obtain ⟨u, v, g, _⟩ := pot
  exact nf_eq h P ((e _ _ (fun q => by rw [q, g] at hp; cases hp) hp).trans hp.symm)
theorem rd_mutN {c : Addr} {u : HO} {o o' : List V} (hD : H D = some (.lst o)) (nu : ∀ z, u ≠ .lst z) (h : Rd H c u) : Rd (upd H D (.lst o')) c u := by
  rcases h with h | ⟨z, h⟩
  · exact .inl (by rw [upd_ne (fun e => by rw [e, hD] at h; exact nu _ (Option.some.inj h).symm)]; exact h)
  · exact .inr ⟨z, by rw [upd_ne (fun e => by rw [e, hD] at h; cases h)]; exact h⟩
theorem t_mutN {c : Addr} {ys o o' : List V} (hD : H D = some (.lst o)) (h : SqT K H c ys) : SqT K (upd H D (.lst o')) c ys := h.elim (fun h => .inl (rd_mutN hD (fun _ e => nomatch e) h)) .inr
theorem d_mutN {o o' : List V} (hD : H D = some (.lst o)) : ∀ {ps : List (Int × Int)} {xs : List V}, DpAll K H xs (ps.map dP) → DpAll K (upd H D (.lst o')) xs (ps.map dP)
  | [], _, h => by cases h; exact .nil
  | z :: zs, _, h => by
    cases h with
    | cons g1 g2 =>
      obtain ⟨t, rfl, ht⟩ := dP_inv g1
      exact .cons (dP_mk (t_mutN hD ht)) (d_mutN hD g2)
theorem pl_mutN {b : Addr} {o o' : List V} {ps : List (Int × Int)} (hD : H D = some (.lst o)) (ne : b ≠ D) (h : PL K H b ps) : PL K (upd H D (.lst o')) b ps := by
  obtain ⟨xs, h1, h2⟩ := h
  refine ⟨xs, ?_, d_mutN hD h2⟩
  rcases h1 with (h1 | ⟨z, h1⟩) | h1
  · exact .inl (.inl (by rw [upd_ne ne]; exact h1))
  · exact .inl (.inr ⟨z, by rw [upd_ne ne]; exact h1⟩)
  · exact .inr h1
theorem plan_mutN {o o' : List V} (P : PlanAt K C H p n as ts) (h : NF C H p n D) (hD : H D = some (.lst o)) : PlanAt K C (upd H D (.lst o')) p n as ts := by
  obtain ⟨⟨dx, a, t, hp, ha, ht⟩, n6, g1, g2, g3, g4, g5, g6⟩ := P
  obtain ⟨na, nt⟩ := h dx a t hp
  exact ⟨⟨dx, a, t, by rw [upd_ne (fun e => by rw [e, hD] at hp; cases hp)]; exact hp, pl_mutN hD na ha, pl_mutN hD nt ht⟩, n6, g1, g2, g3, g4, g5, g6⟩
theorem nf_mut {D2 : Addr} {o o' : List V} (h : NF C H p n D) (P : PlanAt K C H p n as ts) (hD : H D2 = some (.lst o)) : NF C (upd H D2 (.lst o')) p n D := by
  obtain ⟨⟨dx, a', t, hp, _⟩, _⟩ := id P
  exact nf_eq h P (by rw [upd_ne (fun e => by rw [e, hD] at hp; cases hp)])
end
def exW (f w : Addr) (H : Hp) : Hp := fun b => if b = f ∨ b = w then none else H b
theorem plan_exN {K : PySem.W.Frag} {C f w : Addr} {G : Hp} {p : Addr} {n : Nat} {as ts : List (Int × Int)} {xs ys : List V} (hf : G f = some (.lst xs)) (hw : G w = some (.lst ys)) (n1 : NF C G p n f) (n2 : NF C G p n w) (P : PlanAt K C G p n as ts) : PlanAt K C (exW f w G) p n as ts := by
  have keep : ∀ {b : Addr} {o : HO}, G b = some o → b ≠ f → b ≠ w → exW f w G b = some o := fun {b o} h c d => by
    unfold exW
    rw [if_neg (by rintro (z | z) <;> contradiction)]
    exact h
  have rd : ∀ {c : Addr} {u : HO}, (∀ z, u ≠ .lst z) → Rd G c u → Rd (exW f w G) c u := fun {c u} nu h => by
    rcases h with h | ⟨z, h⟩
    · exact .inl (keep h (fun e => by rw [e, hf] at h; exact nu _ (Option.some.inj h).symm) (fun e => by rw [e, hw] at h; exact nu _ (Option.some.inj h).symm))
    · exact .inr ⟨z, keep h (fun e => by rw [e, hf] at h; cases h) (fun e => by rw [e, hw] at h; cases h)⟩
  have tt : ∀ {c : Addr} {ys : List V}, SqT K G c ys → SqT K (exW f w G) c ys := fun {c ys} h => h.elim (fun h => .inl (rd (fun _ e => nomatch e) h)) .inr
  have dd : ∀ {ps : List (Int × Int)} {xs : List V}, DpAll K G xs (ps.map dP) → DpAll K (exW f w G) xs (ps.map dP) := fun {ps} => by
    induction ps with
    | nil => intro xs h; cases h; exact .nil
    | cons z zs ih =>
      intro xs h
      cases h with
      | cons g1 g2 =>
        obtain ⟨t, rfl, ht⟩ := dP_inv g1
        exact .cons (dP_mk (tt ht)) (ih g2)
  have ll : ∀ {b : Addr} {ps : List (Int × Int)}, b ≠ f → b ≠ w → PL K G b ps → PL K (exW f w G) b ps := fun {b ps} c d h => by
    obtain ⟨xs, h1, h2⟩ := h
    refine ⟨xs, ?_, dd h2⟩
    rcases h1 with (h1 | ⟨z, h1⟩) | h1
    · exact .inl (.inl (keep h1 c d))
    · exact .inl (.inr ⟨z, keep h1 c d⟩)
    · exact .inr h1
  obtain ⟨⟨dx, a, t, hp, ha, ht⟩, n6, g1, g2, g3, g4, g5, g6⟩ := P
  obtain ⟨na, nt⟩ := n1 dx a t hp
  obtain ⟨ma, mt⟩ := n2 dx a t hp
  exact ⟨⟨dx, a, t, keep hp (fun e => by rw [e, hf] at hp; cases hp) (fun e => by rw [e, hw] at hp; cases hp), ll na ma ha, ll nt mt ht⟩, n6, g1, g2, g3, g4, g5, g6⟩
def spInitN (K : PySem.W.Frag) (C : Addr) : Sp := fun vs H Q _ => ∃ (p dx a t : Addr) (n : Nat) (as ts : List (Int × Int)), vs = [.ref p, .int n, .ref a, .ref t] ∧ H p = some (.ins C dx []) ∧ PL K H a as ∧ PA2 K H t ts ∧
  n ≤ 6 ∧ Prs n as ∧ Acy as ∧ Prs n ts ∧ (∀ q ∈ ts, q.1 < q.2) ∧
  ∀ H' as' ts', (∀ b o, b ≠ p → H b = some o → H' b = some o) → SortOf as as' → SortOf ts ts' → PlanAt K C H' p n as' ts' → (∀ dx a t, H' p = some (.ins C dx (pf n a t)) → H a = none ∧ H t = none) → Q .non H'
def spWithArrowN (K : PySem.W.Frag) (C : Addr) : Sp := fun vs H Q _ => ∃ (p t : Addr) (n : Nat) (as ts : List (Int × Int)) (i j : Int), vs = [.ref p, .ref t] ∧ PlanAt K C H p n as ts ∧ SqT K H t [.int i, .int j] ∧ Prs n (as ++ [(i, j)]) ∧ Acy (as ++ [(i, j)]) ∧
  ∀ (H' : Hp) (x : Addr) (as' ts' : List (Int × Int)), Same H H' → as'.Perm (as ++ [(i, j)]) → ts'.Perm ts → PlanAt K C H' x n as' ts' → (∀ D o, H D = some o → NF C H' x n D) → Q (.ref x) H'
def spWithTieN (K : PySem.W.Frag) (C : Addr) : Sp := fun vs H Q _ => ∃ (p t : Addr) (n : Nat) (as ts : List (Int × Int)) (i j : Int), vs = [.ref p, .ref t] ∧ PlanAt K C H p n as ts ∧ SqT K H t [.int i, .int j] ∧ Prs n (ts ++ [(i, j)]) ∧ i < j ∧
  ∀ (H' : Hp) (x : Addr) (as' ts' : List (Int × Int)), Same H H' → as'.Perm as → ts'.Perm (ts ++ [(i, j)]) → PlanAt K C H' x n as' ts' → (∀ D o, H D = some o → NF C H' x n D) → Q (.ref x) H'
/-- Plan(n, u, v), lists -/
theorem mk_planN {K : PySem.W.Frag} {C : Addr} {G : Hp} {u v x dx' : Addr} {n : Nat} {as ts : List (Int × Int)} {R : VK} {E : XK} (hu : PL K G u as) (hv : PA2 K G v ts) (n6 : n ≤ 6) (pas : Prs n as) (ac : Acy as) (pts : Prs n ts) (lt : ∀ q ∈ ts, q.1 < q.2)
    (nx : G x = none) (ndx : G dx' = none) (q : ∀ (G' : Hp) (as' ts' : List (Int × Int)), Same G G' → as'.Perm as → ts'.Perm ts → PlanAt K C G' x n as' ts' → (∀ D o, G D = some o → NF C G' x n D) → R .non G') :
    spInitN K C [.ref x, .int n, .ref u, .ref v] (upd (upd G dx' (.own x)) x (.ins C dx' [])) R E := by
  have sm : Same G (upd (upd G dx' (.own x)) x (.ins C dx' [])) := fun b o e => by
    rw [upd_ne (ne_of_none e nx), upd_ne (ne_of_none e ndx)]
    exact e
  refine ⟨x, dx', u, v, n, as, ts, rfl, upd_same, pl_s hu sm, pa2_s hv sm, n6, pas, ac, pts, lt, fun G2 as' ts' keep sA sT PA fr => ?_⟩
  refine q G2 as' ts' (fun b o e => keep b o (ne_of_none e nx) (sm b o e)) sA.1 sT.1 PA fun D o hD dx a t e => ?_
  obtain ⟨f1, f2⟩ := fr dx a t e
  have hD' := sm D o hD
  exact ⟨(fun e => by rw [e, hD'] at f1; exact nomatch f1), (fun e => by rw [e, hD'] at f2; exact nomatch f2)⟩
section
variable {P : Program} {w : World} {K : PySem.W.Frag} {mg : Str → Option Value} {base : Heap}
theorem ok_initN {f f4 f6 f7 C : Addr} {fd fd4 fd6 fd7 : FuncData} (F : Fun K "__init__" "Plan.__init__" sInit f fd) (T : PlC K mg C)
    (D4 : Df K mg "check_size" sChkSize ["size"] f4 fd4) (G4 : FnOk P w K mg base CX0 4 f4 fd4 ["size"] spChkSize)
    (D6 : Df K mg "are_arrows" sAreArr ["size", "value"] f6 fd6) (G6 : FnOk P w K mg base CX0 6 f6 fd6 ["size", "value"] (spAreArr K))
    (D7 : Df K mg "are_ties" sAreTies ["size", "value"] f7 fd7) (G7 : FnOk P w K mg base CX0 6 f7 fd7 ["size", "value"] (spAreTies K)) (B : Bl mg) :
    FnOk P w K mg base CX0 7 f fd ["self", "size", "arrows", "ties"] (spInitN K C) := by
  refine F.ok sc_init (fun vs H Q E h => ?_) (fun cdv A outer s H vs Q E hr h => ?_)
  · obtain ⟨p, dx, a, t, n, as, ts, rfl, _⟩ := h
    rfl
  · obtain ⟨p, dx, a, t, n, as, ts, rfl, hp, ha, ht, n6, pa, ac, pt, lt, q⟩ := h
    refine ⟨_, pss_cons (ps_expr (pe_call G4 (hr.mono (by decide)) rfl D4.g D4.F.kp D4.b .nil pass0 (pa_cons (pv 1) pa_nil)))
      (pss_cons (ps_if (pt_not (pt_val (pe_call G6 hr rfl D6.g D6.F.kp D6.b .nil pass0 (pa_cons (pv 1) (pa_cons (pv 2) pa_nil))))) pss_never pss_nil)
      (pss_cons (ps_if (pt_not (pt_val (pe_call G7 hr rfl D7.g D7.F.kp D7.b .nil pass0 (pa_cons (pv 1) (pa_cons (pv 3) pa_nil))))) pss_never pss_nil)
      (pss_cons (ps_fld (pv 0) (pv 1) rfl)
      (pss_cons (ps_fld (pv 0) (pe_callB cr_sortedPO (by rfl) B.sorted PyProof.Rows.boot_sorted (pa_cons
          (pe_lc (own := [("start", 4), ("end", 5)]) (g := gTup K 2 (gCons (gName 4) (gCons (gName 5) gNil))) (tt := tYes) rfl sc_init.nd (pi_sq (pv 2)) (blkOk_by (N := nInit) (sc := defScope sInit) (by decide +kernel))
            (fun _ _ _ _ _ => pg_tup rfl (pgs_cons (pg_name (i := 4) sc_init.nd rfl (Or.inl rfl)) (pgs_cons (pg_name (i := 5) sc_init.nd rfl (Or.inl rfl)) pgs_nil))) (fun _ _ _ _ _ => pts_nil)
            (fun _ _ _ _ _ => pe_tup (pa_cons (pv 4) (pa_cons (pv 5) pa_nil)))) pa_nil)) rfl)
      (pss_one (ps_fld (pv 0) (pe_callB cr_sortedPO (by rfl) B.sorted PyProof.Rows.boot_sorted (pa_cons
          (pe_lc (own := [("low", 6), ("high", 7)]) (g := gTup K 2 (gCons (gName 6) (gCons (gName 7) gNil))) (tt := tYes) rfl sc_init.nd (pi_sq (pv 3)) (blkOk_by (N := nInit) (sc := defScope sInit) (by decide +kernel))
            (fun _ _ _ _ _ => pg_tup rfl (pgs_cons (pg_name (i := 6) sc_init.nd rfl (Or.inl rfl)) (pgs_cons (pg_name (i := 7) sc_init.nd rfl (Or.inl rfl)) pgs_nil))) (fun _ _ _ _ _ => pts_nil)
            (fun _ _ _ _ _ => pe_tup (pa_cons (pv 6) (pa_cons (pv 7) pa_nil)))) pa_nil)) rfl)))))), ?_⟩
    refine ⟨_, rfl, n, rfl, by omega, by omega, ?_⟩
    refine ⟨_, rfl, _, rfl, n, a, as, rfl, ha, by omega, pa, ac, fun H1 s1 => ⟨true, rfl, iteF ?_⟩⟩
    refine ⟨_, rfl, _, rfl, n, t, ts, rfl, pa2_s ht s1, pt, lt, fun H2 s2 => ⟨true, rfl, iteF ?_⟩⟩
    have s02 : Same H H2 := s1.trans s2
    -- self._size = size
    refine ⟨_, rfl, _, rfl, p, C, dx, [], rfl, s02 _ _ hp, T.cl, T.nS, (by show 0 < 1000; decide), ?_⟩
    generalize hH3 : upd H2 p (.ins C dx (putF "_size" (.int n) [])) = H3
    have keep3 : ∀ b o, b ≠ p → H b = some o → H3 b = some o := fun b o hb e => by rw [← hH3, upd_ne hb]; exact s02 b o e
    have hp3 : H3 p = some (.ins C dx (putF "_size" (.int n) [])) := by rw [← hH3, upd_same]
    obtain ⟨xs, hxs, hd⟩ := obj_pa2 hp keep3 (pl_pa2 ha)
    obtain ⟨ys, hys, hdy⟩ := obj_pa2 hp keep3 ht
    have hlx : xs.length = as.length := by rw [dps_len hd, List.length_map]
    have hly : ys.length = ts.length := by rw [dps_len hdy, List.length_map]
    refine ⟨_, rfl, a, xs, rfl, hxs, fun it hit D hD => ?_⟩
    refine lc_sq hit (fun k G => Same H3 G ∧ ∃ acc, G D = some (.lst acc) ∧ acc.length = k ∧ ∀ (i : Nat) (x : V), acc[i]? = some x → ∃ (t : Addr) (z : Int × Int), x = V.ref t ∧ as[i]? = some z ∧ G t = some (.tup [.int z.1, .int z.2]))
      ⟨same_new hD, [], upd_same, rfl, fun i x h => by simp at h⟩ (fun k G _ p => p.1) ?_ ?_
    · rintro k x G hx ⟨sG, acc, hacc, hlen, hall⟩
      have hk := lt_of_at hx
      obtain ⟨⟨i, j⟩, u, hpk, rfl, hu⟩ := pl_at (dps_s hd sG) hx
      refine ⟨u, _, rfl, hu, rfl, _, _, rfl, _, _, rfl, rfl, rfl, _, rfl, _, rfl, szle (by show 2 ≤ 100000; decide), fun v hv => ?_⟩
      have nvD : v ≠ D := fun e => by rw [e, hacc] at hv; cases hv
      refine ⟨acc, by rw [upd_ne nvD.symm]; exact hacc, szlt (by have := pa.2.1; omega), same_mut (sG.trans (same_new hv)) hD, acc ++ [.ref v], upd_same, by simp [hlen], fun m x hm => ?_⟩
      by_cases c : m < acc.length
      · rw [List.getElem?_append_left c] at hm
        obtain ⟨t', z, e1, e2, e3⟩ := hall m x hm
        have n1 : t' ≠ v := fun e => by rw [e, hv] at e3; cases e3
        have n2 : t' ≠ D := fun e => by rw [e, hacc] at e3; cases e3
        exact ⟨t', z, e1, e2, by rw [upd_ne n2, upd_ne n1]; exact e3⟩
      · rw [List.getElem?_append_right (by omega)] at hm
        have : m - acc.length = 0 := by
          cases e : m - acc.length with
          | zero => rfl
          | succ k => rw [e] at hm; simp at hm
        rw [this] at hm
        simp at hm
        have em : m = k := by omega
        subst em
        exact ⟨v, (i, j), hm.symm, hpk, by rw [upd_ne nvD, upd_same]⟩
    · rintro G ⟨sG, acc, hacc, hlen, hall⟩
      refine ⟨D, acc, prV G, rfl, sl_of hacc, fun x hx => ?_, fun zs pz srt stb hpz => ?_⟩
      · obtain ⟨i, hi⟩ := List.getElem?_of_mem hx
        obtain ⟨t', z, e1, _, e3⟩ := hall i x hi
        exact ⟨t', e1, by rw [e1, prV_eq e3]; exact e3⟩
      obtain ⟨sortA, dpA⟩ := sort_pairs (by omega) hall srt stb
      have sG' : Same H3 (upd G pz (.lst zs)) := sG.trans (same_new hpz)
      refine ⟨_, rfl, p, C, dx, _, rfl, sG' _ _ hp3, T.cl, T.nA, (by have := putF_len "_size" (.int n) []; simp at this; omega), ?_⟩
      have npz : pz ≠ p := fun e => by rw [e, sG _ _ hp3] at hpz; cases hpz
      generalize hH4 : upd (upd G pz (.lst zs)) p (.ins C dx (putF "_arrows" (.ref pz) (putF "_size" (.int n) []))) = H4
      have hp4 : H4 p = some (.ins C dx (putF "_arrows" (.ref pz) (putF "_size" (.int n) []))) := by rw [← hH4, upd_same]
      have keep4 : ∀ b o, b ≠ p → (upd G pz (.lst zs)) b = some o → H4 b = some o := fun b o hb e => by rw [← hH4, upd_ne hb]; exact e
      have keep34 : ∀ b o, b ≠ p → H3 b = some o → H4 b = some o := fun b o hb e => keep4 b o hb (sG' b o e)
      have plA : PL K H4 pz (zs.map (prV G)) := obj_pl (sG' _ _ hp3) keep4 ⟨zs, sl_of upd_same, dps_s dpA (same_new hpz)⟩
      obtain ⟨ys, hys, hdy⟩ : PA2 K H4 t ts := obj_pa2 hp3 keep34 ⟨ys, hys, hdy⟩
      -- the ties
      refine ⟨_, rfl, t, ys, rfl, hys, fun it2 hit2 D2 hD2 => ?_⟩
      have hly : ys.length = ts.length := by rw [dps_len hdy, List.length_map]
      refine lc_sq hit2 (fun k G => Same H4 G ∧ ∃ acc, G D2 = some (.lst acc) ∧ acc.length = k ∧ ∀ (i : Nat) (x : V), acc[i]? = some x → ∃ (t : Addr) (z : Int × Int), x = V.ref t ∧ ts[i]? = some z ∧ G t = some (.tup [.int z.1, .int z.2]))
        ⟨same_new hD2, [], upd_same, rfl, fun i x h => by simp at h⟩ (fun k G _ p => p.1) ?_ ?_
      · rintro k x G2 hx ⟨sG2, acc2, hacc2, hlen2, hall2⟩
        have hk := lt_of_at hx
        obtain ⟨⟨i, j⟩, u, hpk, rfl, hu⟩ := pl_at (dps_s hdy sG2) hx
        refine ⟨u, _, rfl, hu, rfl, _, _, rfl, _, _, rfl, rfl, rfl, _, rfl, _, rfl, szle (by show 2 ≤ 100000; decide), fun v hv => ?_⟩
        have nvD : v ≠ D2 := fun e => by rw [e, hacc2] at hv; cases hv
        refine ⟨acc2, by rw [upd_ne nvD.symm]; exact hacc2, szlt (by have := pt.2.1; omega), same_mut (sG2.trans (same_new hv)) hD2, acc2 ++ [.ref v], upd_same, by simp [hlen2], fun m x hm => ?_⟩
        by_cases c : m < acc2.length
        · rw [List.getElem?_append_left c] at hm
          obtain ⟨t', z, e1, e2, e3⟩ := hall2 m x hm
          have n1 : t' ≠ v := fun e => by rw [e, hv] at e3; cases e3
          have n2 : t' ≠ D2 := fun e => by rw [e, hacc2] at e3; cases e3
          exact ⟨t', z, e1, e2, by rw [upd_ne n2, upd_ne n1]; exact e3⟩
        · rw [List.getElem?_append_right (by omega)] at hm
          have : m - acc2.length = 0 := by
            cases e : m - acc2.length with
            | zero => rfl
            | succ k => rw [e] at hm; simp at hm
          rw [this] at hm
          simp at hm
          have em : m = k := by omega
          subst em
          exact ⟨v, (i, j), hm.symm, hpk, by rw [upd_ne nvD, upd_same]⟩
      · rintro G2 ⟨sG2, acc2, hacc2, hlen2, hall2⟩
        refine ⟨D2, acc2, prV G2, rfl, sl_of hacc2, fun x hx => ?_, fun ws pw srt2 stb2 hpw => ?_⟩
        · obtain ⟨i, hi⟩ := List.getElem?_of_mem hx
          obtain ⟨t', z, e1, _, e3⟩ := hall2 i x hi
          exact ⟨t', e1, by rw [e1, prV_eq e3]; exact e3⟩
        obtain ⟨sortT, dpT⟩ := sort_pairs (by omega) hall2 srt2 stb2
        have sG2' : Same H4 (upd G2 pw (.lst ws)) := sG2.trans (same_new hpw)
        refine ⟨_, rfl, p, C, dx, _, rfl, sG2' _ _ hp4, T.cl, T.nT, (by have h1 := putF_len "_size" (.int n) []; have h2 := putF_len "_arrows" (.ref pz) (putF "_size" (.int n) []); simp at h1; omega), ?_⟩
        have keep5 : ∀ b o, b ≠ p → (upd G2 pw (.lst ws)) b = some o → (upd (upd G2 pw (.lst ws)) p (.ins C dx (putF "_ties" (.ref pw) (putF "_arrows" (.ref pz) (putF "_size" (.int n) []))))) b = some o := fun b o hb e => by rw [upd_ne hb]; exact e
        refine q _ (zs.map (prV G)) (ws.map (prV G2)) (fun b o hb e => keep5 b o hb (sG2' _ _ (keep34 b o hb (keep3 b o hb e)))) sortA sortT ?_ ?_
        rotate_left
        · intro dx' a' t' e
          rw [upd_same] at e
          have e4 : pf n pz pw = pf n a' t' := by
            injection e with e
            injection e
          have e5 := congrArg (fun l => List.lookup ("_arrows" : Str) l) e4
          have e6 := congrArg (fun l => List.lookup ("_ties" : Str) l) e4
          simp only [pf_arr, pf_ties] at e5 e6
          have e7 : a' = pz := by injection e5 with e5; injection e5 with e5; exact e5.symm
          have e8 : t' = pw := by injection e6 with e6; injection e6 with e6; exact e6.symm
          rw [e7, e8]
          constructor
          · cases hh : H pz with
            | none => rfl
            | some o => exact absurd (sG _ _ (keep3 _ _ npz hh)) (by rw [hpz]; exact fun h => nomatch h)
          · have npw : pw ≠ p := fun e => by rw [e, sG2 _ _ hp4] at hpw; cases hpw
            cases hh : H pw with
            | none => rfl
            | some o => exact absurd (sG2 _ _ (keep34 _ _ npw (keep3 _ _ npw hh))) (by rw [hpw]; exact fun h => nomatch h)
        refine ⟨⟨dx, pz, pw, upd_same, ?_, ?_⟩, n6, prs_perm pa sortA.1, acy_perm ac sortA.1, prs_perm pt sortT.1, fun z hz => lt z (sortT.1.mem_iff.mp hz), sortA.2, sortT.2⟩
        · exact obj_pl hp4 (fun b o hb e => keep5 b o hb (sG2' b o e)) plA
        · exact obj_pl (sG2' _ _ hp4) keep5 ⟨ws, sl_of upd_same, dps_s dpT (same_new hpw)⟩
theorem ok_withArrowN {f fI C pW gW fA fT : Addr} {fd dI fdW fdA fdT : FuncData} (F : Fun K "with_arrow" "with_arrow" sWithArrow f fd) (M : PlM K mg C pW gW fA fT fdW fdA fdT)
    (MI : Mk K C fI) (bI : Binds K dI ["self", "size", "arrows", "ties"] []) (GI : FnOk P w K mg base CX0 7 fI dI ["self", "size", "arrows", "ties"] (spInitN K C)) (B : Bl mg) : FnOk P w K mg base CX0 9 f fd ["plan", "arrow"] (spWithArrowN K C) := by
  have GA : FnOk P w K mg base CX0 1 fA fdA ["self"] (spArr K C) := ok_arrows M.FA M.c B
  have GT : FnOk P w K mg base CX0 1 fT fdT ["self"] (spTies K C) := ok_ties M.FT M.c B
  have GW : FnOk P w K mg base CX0 1 gW fdW ["self"] (getSp C "_size") := ok_width M.FW M.c
  refine F.ok sc_withArrow (fun vs H Q E h => ?_) (fun cdv A outer s H vs Q E hr h => ?_)
  · obtain ⟨p, t, n, as, ts, i, j, rfl, _⟩ := h
    rfl
  · obtain ⟨p, t, n, as, ts, i, j, rfl, hP, ht, pas', acy', q⟩ := h
    have hr1 : Room 1 _ := hr.mono (by decide)
    have hr2 : Room 2 _ := hr.mono (by decide)
    refine ⟨_, pss_one (ps_ret (pe_make MI GI hr rfl M.c.mgC bI .nil pass0 (pa_cons (pe_prop (pv 0) M.c.cl M.prop GW hr2 M.bW .nil pass0 rfl) (pa_cons (pe_lst (StX.pa_star (pe_meth0 (pv 0) M.c.cl M.mA GA hr1 M.bA .nil pass0) (pa_cons (pv 1) pa_nil))) (pa_cons (pe_meth0 (pv 0) M.c.cl M.mT GT hr1 M.bT .nil pass0) pa_nil))))), ?_⟩
    obtain ⟨⟨dx, a0, t0, hp, _⟩, n6, pas, acy, pts, lt⟩ := id hP
    have pfn : ∀ {m : Str}, ¬ m = "_size" → ¬ m = "_arrows" → ¬ m = "_ties" → (pf n a0 t0).lookup m = none := fun h1 h2 h3 => pf_no _ _ _ h1 h2 h3
    have few1 := pas.2.1
    refine ⟨_, rfl, p, dx, _, rfl, hp, p, dx, _, _, rfl, hp, pf_size _ _ _, ?_⟩
    refine ⟨_, rfl, p, dx, _, rfl, hp, pfn (by decide +kernel) (by decide +kernel) (by decide +kernel), p, n, as, ts, rfl, hP, fun H1 l1 s1 hl1 ⟨x1, hx1, d1⟩ => ?_⟩
    have lx1 : x1.length = as.length := by rw [dps_len d1, List.length_map]
    refine ⟨l1, x1, rfl, .inr (sl_of hx1), _, rfl, szle (by simp; omega), fun lb hlb => ?_⟩
    have s2 : Same H1 (upd H1 lb (.lst (x1 ++ [.ref t]))) := same_new hlb
    have plb : PL K (upd H1 lb (.lst (x1 ++ [.ref t]))) lb (as ++ [(i, j)]) := ⟨_, sl_of upd_same, by
      rw [List.map_append]
      exact dps_app (dps_s d1 s2) (.cons (dP_mk (same_t (s1.trans s2) ht)) .nil)⟩
    have s12 := s1.trans s2
    generalize upd H1 lb (.lst (x1 ++ [.ref t])) = H2 at s12 plb
    refine ⟨_, rfl, p, dx, _, rfl, s12 _ _ hp, pfn (by decide +kernel) (by decide +kernel) (by decide +kernel), p, n, as, ts, rfl, plan_s hP s12, fun H3 l3 s3 hl3 pm3 x dx' nx ndx nex => ?_⟩
    exact mk_planN (pl_s plb s3) (pl_pa2 (pm_pl pm3)) n6 pas' acy' pts lt nx ndx fun H4 as1 ts1 s4 pA pT PA nf => ⟨rfl, q H4 x as1 ts1 ((s12.trans s3).trans s4) pA pT PA fun D o hD => nf D o ((s12.trans s3) _ _ hD)⟩
theorem ok_withTieN {f fI C pW gW fA fT : Addr} {fd dI fdW fdA fdT : FuncData} (F : Fun K "with_tie" "with_tie" sWithTie f fd) (M : PlM K mg C pW gW fA fT fdW fdA fdT)
    (MI : Mk K C fI) (bI : Binds K dI ["self", "size", "arrows", "ties"] []) (GI : FnOk P w K mg base CX0 7 fI dI ["self", "size", "arrows", "ties"] (spInitN K C)) (B : Bl mg) : FnOk P w K mg base CX0 9 f fd ["plan", "tie"] (spWithTieN K C) := by
  have GA : FnOk P w K mg base CX0 1 fA fdA ["self"] (spArr K C) := ok_arrows M.FA M.c B
  have GT : FnOk P w K mg base CX0 1 fT fdT ["self"] (spTies K C) := ok_ties M.FT M.c B
  have GW : FnOk P w K mg base CX0 1 gW fdW ["self"] (getSp C "_size") := ok_width M.FW M.c
  refine F.ok sc_withTie (fun vs H Q E h => ?_) (fun cdv A outer s H vs Q E hr h => ?_)
  · obtain ⟨p, t, n, as, ts, i, j, rfl, _⟩ := h
    rfl
  · obtain ⟨p, t, n, as, ts, i, j, rfl, hP, ht, pts', ij, q⟩ := h
    have hr1 : Room 1 _ := hr.mono (by decide)
    have hr2 : Room 2 _ := hr.mono (by decide)
    refine ⟨_, pss_one (ps_ret (pe_make MI GI hr rfl M.c.mgC bI .nil pass0 (pa_cons (pe_prop (pv 0) M.c.cl M.prop GW hr2 M.bW .nil pass0 rfl) (pa_cons (pe_meth0 (pv 0) M.c.cl M.mA GA hr1 M.bA .nil pass0) (pa_cons (pe_lst (StX.pa_star (pe_meth0 (pv 0) M.c.cl M.mT GT hr1 M.bT .nil pass0) (pa_cons (pv 1) pa_nil))) pa_nil))))), ?_⟩
    obtain ⟨⟨dx, a0, t0, hp, _⟩, n6, pas, acy, pts, lt⟩ := id hP
    have pfn : ∀ {m : Str}, ¬ m = "_size" → ¬ m = "_arrows" → ¬ m = "_ties" → (pf n a0 t0).lookup m = none := fun h1 h2 h3 => pf_no _ _ _ h1 h2 h3
    have few1 := pts.2.1
    refine ⟨_, rfl, p, dx, _, rfl, hp, p, dx, _, _, rfl, hp, pf_size _ _ _, ?_⟩
    refine ⟨_, rfl, p, dx, _, rfl, hp, pfn (by decide +kernel) (by decide +kernel) (by decide +kernel), p, n, as, ts, rfl, hP, fun H0 l0 s0 hl0 pm0 => ?_⟩
    refine ⟨_, rfl, p, dx, _, rfl, s0 _ _ hp, pfn (by decide +kernel) (by decide +kernel) (by decide +kernel), p, n, as, ts, rfl, plan_s hP s0, fun H1 l1 s1 hl1 ⟨x1, hx1, d1⟩ => ?_⟩
    have lx1 : x1.length = ts.length := by rw [dps_len d1, List.length_map]
    refine ⟨l1, x1, rfl, .inr (sl_of hx1), _, rfl, szle (by simp; omega), fun lb hlb x dx' nx ndx nex => ?_⟩
    have s2 : Same H1 (upd H1 lb (.lst (x1 ++ [.ref t]))) := same_new hlb
    have plb : PL K (upd H1 lb (.lst (x1 ++ [.ref t]))) lb (ts ++ [(i, j)]) := ⟨_, sl_of upd_same, by
      rw [List.map_append]
      exact dps_app (dps_s d1 s2) (.cons (dP_mk (same_t ((s0.trans s1).trans s2) ht)) .nil)⟩
    refine mk_planN (pl_s (pm_pl pm0) (s1.trans s2)) (pl_pa2 plb) n6 pas acy pts' (fun z hz => ?_) nx ndx fun H4 as1 ts1 s4 pA pT PA nf => ⟨rfl, q H4 x as1 ts1 (((s0.trans s1).trans s2).trans s4) pA pT PA fun D o hD => nf D o (((s0.trans s1).trans s2) _ _ hD)⟩
    rcases List.mem_append.mp hz with k | k
    · exact lt z k
    · rw [List.mem_singleton.mp k]; exact ij
end
end Tk

namespace Tk
open PySem PySem.Spec PyProof.Rows L2
abbrev sOnceV : Stmt := top 44
/-! ## one more pair of a plan -/
/-- plans in a list, as told, each list in any sequence -/
def PlsP (K : PySem.W.Frag) (C : Addr) (n : Nat) (G : Hp) : List V → List Ch → Prop
  | [], [] => True
  | x :: xs, c :: cs => (∃ (z : Addr) (as ts : List (Int × Int)), x = .ref z ∧ PlanAt K C G z n as ts ∧ as.Perm c.1 ∧ ts.Perm c.2) ∧ PlsP K C n G xs cs
  | _, _ => False
section
variable {K : PySem.W.Frag} {C : Addr} {n : Nat} {G G' : Hp}
theorem pls_s (e : Same G G') : ∀ {xs : List V} {cs : List Ch}, PlsP K C n G xs cs → PlsP K C n G' xs cs
  | [], [], _ => trivial
  | _ :: _, _ :: _, ⟨⟨z, as, ts, h1, h2, h3⟩, h⟩ => ⟨⟨z, as, ts, h1, plan_s h2 e, h3⟩, pls_s e h⟩
  | [], _ :: _, h => h.elim
  | _ :: _, [], h => h.elim
theorem pls_len : ∀ {xs : List V} {cs : List Ch}, PlsP K C n G xs cs → xs.length = cs.length
  | [], [], _ => rfl
  | _ :: _, _ :: _, ⟨_, h⟩ => by simp [pls_len h]
  | [], _ :: _, h => h.elim
  | _ :: _, [], h => h.elim
theorem pls_app : ∀ {xs ys : List V} {cs ds : List Ch}, PlsP K C n G xs cs → PlsP K C n G ys ds → PlsP K C n G (xs ++ ys) (cs ++ ds)
  | [], _, [], _, _, h => h
  | _ :: _, _, _ :: _, _, ⟨h1, h2⟩, h => ⟨h1, pls_app h2 h⟩
  | [], _, _ :: _, _, h, _ => h.elim
  | _ :: _, _, [], _, h, _ => h.elim
theorem pls_at : ∀ {xs : List V} {cs : List Ch}, PlsP K C n G xs cs → ∀ {i : Nat} {x : V}, xs[i]? = some x → ∃ (c : Ch) (z : Addr) (as ts : List (Int × Int)), cs[i]? = some c ∧ x = .ref z ∧ PlanAt K C G z n as ts ∧ as.Perm c.1 ∧ ts.Perm c.2
  | [], [], _, _, _, h => by simp at h
  | x :: xs, c :: cs, ⟨⟨z, as, ts, h1⟩, h7⟩, i, y, h => by
    cases i with
    | zero =>
      simp at h
      subst h
      exact ⟨c, z, as, ts, rfl, h1⟩
    | succ i => exact pls_at h7 (i := i) (by simpa using h)
  | [], _ :: _, h, _, _, _ => h.elim
  | _ :: _, [], h, _, _, _ => h.elim
end
theorem thing_ix {n : Nat} {x : Int} (h0 : 0 ≤ x) (h1 : x < (n : Int)) : ((things n).map V.int)[x.toNat]? = some (.int x) ∧ ∀ (m : Nat) (z : V), m < x.toNat → ((things n).map V.int)[m]? = some z → eqV z (.int x) = false := by
  have at' : ∀ m : Nat, m < n → ((things n).map V.int)[m]? = some (.int (m : Int)) := fun m hm => by
    unfold things
    rw [List.getElem?_map, List.getElem?_map, List.getElem?_range hm]
    rfl
  refine ⟨?_, fun m z hm hz => ?_⟩
  · rw [at' _ (by omega)]
    congr 2
    omega
  · rw [at' m (by omega)] at hz
    cases hz
    show decide ((m : Int) = x) = false
    exact decide_eq_false (by omega)
theorem flat_things {n : Nat} : ((things n).map V.int).all flatV = true := flat_ints _
def spOnceV (K : PySem.W.Frag) (C : Addr) : Sp := fun vs H Q _ => ∃ (p b : Addr) (n : Nat) (as ts rest : List (Int × Int)) (lo hi : Int) (c : Ch), vs = [.ref p, .ref b] ∧ PlanAt K C H p n as ts ∧ as.Perm c.1 ∧ ts.Perm c.2 ∧ SqL K H b ((things n).map V.int) ∧ looseP n as ts = (lo, hi) :: rest ∧ (∀ q ∈ as, q.1 < q.2) ∧
  ∀ (H' : Hp) (r : Addr) (xs : List V), Same H H' → H r = none → H' r = some (.lst xs) → PlsP K C n H' xs ((([(c.1 ++ [(lo, hi)], c.2), (c.1, c.2 ++ [(lo, hi)])] : List Ch)).filter fun c => plainC n c.1 c.2) → (∀ D o, H D = some o → ∀ x ∈ xs, ∃ z, x = .ref z ∧ NF C H' z n D) → Q (.ref r) H'
section
variable {P : Program} {w : World} {K : PySem.W.Frag} {mg : Str → Option Value} {base : Heap}
abbrev nOnceV : List Str := ["plan", "order", "low", "high", "arrow", "more"]
theorem sc_onceV : FnScope nOnceV ["plan", "order"] (defScope sOnceV) := ⟨rfl, rfl, rfl, by decide +kernel, rfl, by decide +kernel, by decide +kernel⟩
theorem ok_onceV {f f1 f2 f3 f4 fI C pW gW fA fT : Addr} {fd fd1 fd2 fd3 fd4 dI fdW fdA fdT : FuncData} (F : Fun K "filled_once" "filled_once" sOnceV f fd) (M : PlM K mg C pW gW fA fT fdW fdA fdT) (D1 : Df K mg "loose_pairs" sLoose ["plan"] f1 fd1)
    (D2 : Df K mg "with_arrow" sWithArrow ["plan", "arrow"] f2 fd2) (D3 : Df K mg "with_tie" sWithTie ["plan", "tie"] f3 fd3) (D4 : Df K mg "is_plain" sIsPlain ["plan"] f4 fd4) (G4 : FnOk P w K mg base CX0 7 f4 fd4 ["plan"] (spIsPlain K C))
    (MI : Mk K C fI) (bI : Binds K dI ["self", "size", "arrows", "ties"] []) (GI : FnOk P w K mg base CX0 7 fI dI ["self", "size", "arrows", "ties"] (spInitN K C)) (B : Bl mg) : FnOk P w K mg base CX0 10 f fd ["plan", "order"] (spOnceV K C) := by
  have G1 : FnOk P w K mg base CX0 3 f1 fd1 ["plan"] (spLoose K C) := ok_loose D1.F M B
  have G2 : FnOk P w K mg base CX0 9 f2 fd2 ["plan", "arrow"] (spWithArrowN K C) := ok_withArrowN D2.F M MI bI GI B
  have G3 : FnOk P w K mg base CX0 9 f3 fd3 ["plan", "tie"] (spWithTieN K C) := ok_withTieN D3.F M MI bI GI B
  refine F.ok sc_onceV (fun vs H Q E h => ?_) (fun cdv A outer s H vs Q E hr h => ?_)
  · obtain ⟨p, b, n, as, ts, rest, lo, hi, cc, rfl, _⟩ := h
    rfl
  · obtain ⟨p, b, n, as, ts, rest, lo, hi, cc, rfl, hP, pmA, pmT, hb, hl, up, q⟩ := h
    have hr3 : Room 3 _ := hr.mono (by decide)
    have hr7 : Room 7 _ := hr.mono (by decide)
    refine ⟨_, pss_cons (ps_asg (pe_ix ix_list (pe_call G1 hr3 rfl D1.g D1.F.kp D1.b .nil pass0 (pa_cons (pv 0) pa_nil)) pe_int (fun _ _ => rfl)) (pg_tup rfl (pgs_cons (pg_name (i := 2) sc_onceV.nd rfl (Or.inl rfl)) (pgs_cons (pg_name (i := 3) sc_onceV.nd rfl (Or.inl rfl)) pgs_nil))))
      (pss_cons (ps_set (i := 4) sc_onceV.nd rfl (Or.inl rfl) (pe_ifExp (pt_cmpR op_lt (pe_bm PySem.F.plainAttrs_list PySem.F.slot_list_index PySem.F.type_list_index mt_index (pv 1) (pa_cons (pv 2) pa_nil)) (pe_bm PySem.F.plainAttrs_list PySem.F.slot_list_index PySem.F.type_list_index mt_index (pv 1) (pa_cons (pv 3) pa_nil)) (nomark _))
          (pe_tup (pa_cons (pv 2) (pa_cons (pv 3) pa_nil))) (pe_tup (pa_cons (pv 3) (pa_cons (pv 2) pa_nil)))))
      (pss_one (ps_ret (pe_lc (own := [("more", 5)]) (g := gName 5) (te := tVar 5) (tt := tB (tCall (spIsPlain K C) [] E0 (tCons (tVar 5) tNil))) rfl sc_onceV.nd
          (pi_tup (pe_tup (pa_cons (pe_call G2 hr rfl D2.g D2.F.kp D2.b .nil pass0 (pa_cons (pv 0) (pa_cons (pv 4) pa_nil))) (pa_cons (pe_call G3 hr rfl D3.g D3.F.kp D3.b .nil pass0 (pa_cons (pv 0) (pa_cons (pe_tup (pa_cons (pv 2) (pa_cons (pv 3) pa_nil))) pa_nil))) pa_nil))))
          (blkOk_by (N := nOnceV) (sc := defScope sOnceV) (by decide +kernel)) (fun _ _ _ _ _ => pg_name (i := 5) sc_onceV.nd rfl (Or.inl rfl))
          (fun _ _ _ _ _ => pts_one (pt_val (pe_call G4 hr7 rfl D4.g D4.F.kp D4.b .nil pass0 (pa_cons (pv 5) pa_nil)))) (fun _ _ _ _ _ => pv 5))))), ?_⟩
    obtain ⟨_, n6, pas, acy, pts, lt, _, _⟩ := id hP
    have inl : (lo, hi) ∈ looseP n as ts := by rw [hl]; simp
    obtain ⟨inR, notJ⟩ : (lo, hi) ∈ rowsT n n ∧ jB as ts (lo, hi) = false := by
      unfold looseP at inl
      obtain ⟨h1, h2⟩ := List.mem_filter.mp inl
      exact ⟨h1, by simpa using h2⟩
    obtain ⟨l0, l1, l2⟩ := mem_rowsT.mp inR
    have nj : ¬ ((lo, hi) ∈ as ∨ (lo, hi) ∈ ts ∨ swp (lo, hi) ∈ as ∨ swp (lo, hi) ∈ ts) := fun h => by rw [jB_iff.mpr h] at notJ; cases notJ
    have bd : 0 ≤ lo ∧ lo < (n : Int) ∧ 0 ≤ hi ∧ hi < (n : Int) ∧ lo ≠ hi := ⟨l0, by omega, by omega, l2, by omega⟩
    have pA : Prs (n : Int) (as ++ [(lo, hi)]) := prs_more n6 pas (fun h => nj (.inl h)) bd
    have pT : Prs (n : Int) (ts ++ [(lo, hi)]) := prs_more n6 pts (fun h => nj (.inr (.inl h))) bd
    have aA : Acy (as ++ [(lo, hi)]) := ⟨fun x => x.toNat, fun q hq => by
      have b := pA.2.2 q hq
      have u : q.1 < q.2 := by
        rcases List.mem_append.mp hq with k | k
        · exact up q k
        · rw [List.mem_singleton.mp k]; exact l1
      show q.1.toNat < q.2.toNat
      omega⟩
    refine ⟨_, rfl, p, n, as, ts, rfl, hP, fun H1 r1 s1 _ ⟨acc, hacc, ta⟩ => ?_⟩
    rw [hl] at ta
    obtain ⟨x0, hx0⟩ : ∃ x0, acc[0]? = some x0 := by
      cases acc with
      | nil => exact absurd ta.1 (by simp)
      | cons v l => exact ⟨v, rfl⟩
    obtain ⟨t0, z0, rfl, hz0, ht0⟩ := ta.2 0 x0 hx0
    cases hz0
    refine ⟨r1, acc, 0, _, rfl, rfl, sl_of hacc, atI_nat (j := 0) hx0, ?_⟩
    refine ⟨t0, _, rfl, st_of ht0, rfl, _, _, rfl, _, _, rfl, rfl, ?_⟩
    have hb1 := same_l s1 hb
    obtain ⟨i1, i2⟩ := thing_ix (n := n) bd.1 bd.2.1
    obtain ⟨j1, j2⟩ := thing_ix (n := n) bd.2.2.1 bd.2.2.2.1
    refine ⟨_, rfl, .inl ⟨rfl, _, hb1⟩, _, rfl, b, _, .int lo, lo.toNat, .int lo, rfl, rfl, hb1, rfl, flat_things, i1, by simp [eqV], i2, ?_⟩
    refine ⟨_, rfl, .inl ⟨rfl, _, hb1⟩, _, rfl, b, _, .int hi, hi.toNat, .int hi, rfl, rfl, hb1, rfl, flat_things, j1, by simp [eqV], j2, _, _, rfl, rfl, _, rfl, ?_⟩
    rw [decide_eq_true (show ((lo.toNat : Nat) : Int) < (hi.toNat : Nat) by omega)]
    refine iteT ⟨_, rfl, _, rfl, szle (by show 2 ≤ 100000; decide), fun c0 hc0 => ?_⟩
    have s2 := same_new (o := .tup [V.int lo, V.int hi]) hc0
    have s12 := s1.trans s2
    refine ⟨_, rfl, _, rfl, p, c0, n, as, ts, lo, hi, rfl, plan_s hP s12, st_of upd_same, pA, aA, fun H3 x1 as1 ts1 s3 pm1 pm2 P1 nf1 => ?_⟩
    have s13 := s12.trans s3
    refine ⟨_, rfl, _, rfl, _, rfl, szle (by show 2 ≤ 100000; decide), fun d0 hd0 => ?_⟩
    have s4 := same_new (o := .tup [V.int lo, V.int hi]) hd0
    have s14 := s13.trans s4
    refine ⟨p, d0, n, as, ts, lo, hi, rfl, plan_s hP s14, st_of upd_same, pT, l1, fun H5 x2 as2 ts2 s5 pm3 pm4 P2 nf2 => ⟨szle (by show 2 ≤ 100000; decide), fun tt htt => ?_⟩⟩
    have s6 := same_new (o := .tup [V.ref x1, V.ref x2]) htt
    have s16 := (s14.trans s5).trans s6
    have hpl : PlsP K C n (upd H5 tt (.tup [V.ref x1, V.ref x2])) [.ref x1, .ref x2] [(cc.1 ++ [(lo, hi)], cc.2), (cc.1, cc.2 ++ [(lo, hi)])] :=
      ⟨⟨x1, as1, ts1, rfl, plan_s P1 ((s4.trans s5).trans s6), pm1.trans (pmA.append_right _), pm2.trans pmT⟩, ⟨x2, as2, ts2, rfl, plan_s P2 s6, pm3.trans pmA, pm4.trans (pmT.append_right _)⟩, trivial⟩
    have hnf : ∀ G' : Hp, Same (upd H5 tt (.tup [V.ref x1, V.ref x2])) G' → ∀ D o, H D = some o → NF C G' x1 n D ∧ NF C G' x2 n D := fun G' e D o hD =>
      ⟨nf_s (nf1 D o (s12 _ _ hD)) P1 (((s4.trans s5).trans s6).trans e), nf_s (nf2 D o (s14 _ _ hD)) P2 (s6.trans e)⟩
    have htt' : (upd H5 tt (.tup [V.ref x1, V.ref x2])) tt = some (.tup [V.ref x1, V.ref x2]) := upd_same
    generalize upd H5 tt (.tup [V.ref x1, V.ref x2]) = G at s16 hpl htt' hnf
    obtain ⟨ch, ech⟩ : ∃ ch : List Ch, [(cc.1 ++ [(lo, hi)], cc.2), (cc.1, cc.2 ++ [(lo, hi)])] = ch := ⟨_, rfl⟩
    rw [ech] at hpl q
    have lch : ch.length = 2 := by rw [← ech]; rfl
    refine ⟨tt, rfl, ⟨_, st_of htt'⟩, fun D hD => ?_⟩
    refine lc_tup (xs := [V.ref x1, V.ref x2]) (fun k G2 => Same G G2 ∧ ∃ acc, G2 D = some (.lst acc) ∧ PlsP K C n (em D G2) acc ((ch.take k).filter fun c => plainC n c.1 c.2) ∧ acc.length ≤ k ∧ ∀ x ∈ acc, x = .ref x1 ∨ x = .ref x2) ⟨same_new hD, [], upd_same, (by rw [List.take_zero]; exact trivial), Nat.le_refl _, (fun _ h => nomatch h)⟩ (fun k G2 _ z => st_of (z.1 _ _ htt')) ?_ ?_
    · rintro k x G2 hx ⟨sG, acc2, hacc2, hpa, lk, hin⟩
      have hx12 : x = .ref x1 ∨ x = .ref x2 := by
        have := List.mem_of_getElem? hx
        simpa using this
      obtain ⟨c, z, as', ts', hc, rfl, PZ, q1, q2⟩ := pls_at hpl hx
      have hk := lt_of_at hx
      refine ⟨rfl, _, rfl, z, n, as', ts', rfl, plan_s PZ sG, fun G3 s3' => ⟨_, rfl, ?_⟩⟩
      have ep : plainB n as' ts' = plainC n c.1 c.2 := by rw [plain_perm (fun _ => q1.mem_iff) (fun _ => q2.mem_iff), plainB_C]
      rw [ep]
      have kk : k < 2 := hk
      by_cases cp : plainC n c.1 c.2 = true
      · rw [cp]
        refine iteT ⟨_, rfl, acc2, s3' _ _ hacc2, szlt (by omega), same_mut (sG.trans s3') hD, acc2 ++ [.ref z], upd_same, ?_, (by rw [List.length_append, List.length_singleton]; omega), fun y hy => (List.mem_append.mp hy).elim (hin y) fun h => by rw [List.mem_singleton.mp h]; exact hx12⟩
        rw [take_at hc, fil1 (p := fun c => plainC n c.1 c.2) cp]
        exact pls_s em_up (pls_app (pls_s (em_s s3') hpa) ⟨⟨z, as', ts', rfl, plan_s PZ (em_of hD (sG.trans s3')), q1, q2⟩, trivial⟩)
      · rw [Bool.not_eq_true] at cp
        rw [cp]
        refine iteF ⟨sG.trans s3', acc2, s3' _ _ hacc2, ?_, (by omega), hin⟩
        rw [take_at hc, fil0 (p := fun c => plainC n c.1 c.2) cp]
        exact pls_s (em_s s3') hpa
    · rintro G2 ⟨sG, acc2, hacc2, hpa, _, hin⟩
      rw [show ch.take ([V.ref x1, V.ref x2].length) = ch from List.take_of_length_le (by rw [lch]; exact Nat.le_refl _)] at hpa
      exact q G2 D acc2 (s16.trans sG) (s16.free hD) hacc2 (pls_s em_le hpa) fun D' o hD' x hx => by
        have h := hnf G2 sG D' o hD'
        rcases hin x hx with rfl | rfl
        · exact ⟨x1, rfl, h.1⟩
        · exact ⟨x2, rfl, h.2⟩
end
end Tk

/-! plain mathematics: all plans behind a plan that has some of its pairs -/
namespace Tk
def extF (c : Ch) (ps : List (Int × Int)) : List Ch := ps.foldl chStep [c]
def extP (n : Nat) (c : Ch) (ps : List (Int × Int)) : List Ch := (extF c ps).filter fun e => plainC n e.1 e.2
theorem chStep_app (xs ys : List Ch) (p : Int × Int) : chStep (xs ++ ys) p = chStep xs p ++ chStep ys p := by unfold chStep; rw [List.flatMap_append]
theorem fold_app : ∀ (ps : List (Int × Int)) (xs ys : List Ch), ps.foldl chStep (xs ++ ys) = ps.foldl chStep xs ++ ps.foldl chStep ys
  | [], _, _ => rfl
  | p :: ps, xs, ys => by
    show ps.foldl chStep (chStep (xs ++ ys) p) = _
    rw [chStep_app, fold_app ps]
    rfl
theorem extF_cons {c : Ch} {p : Int × Int} {ps : List (Int × Int)} : extF c (p :: ps) = extF (c.1 ++ [p], c.2) ps ++ extF (c.1, c.2 ++ [p]) ps := by
  show ps.foldl chStep (chStep [c] p) = _
  have e : chStep [c] p = [(c.1 ++ [p], c.2)] ++ [(c.1, c.2 ++ [p])] := rfl
  rw [e, fold_app]
  rfl
theorem extF_more : ∀ {ps : List (Int × Int)} {c e : Ch}, e ∈ extF c ps → (∀ q ∈ c.1, q ∈ e.1) ∧ ∀ q ∈ c.2, q ∈ e.2
  | [], c, e, h => by
    have : e = c := List.mem_singleton.mp h
    rw [this]
    exact ⟨fun _ h => h, fun _ h => h⟩
  | p :: ps, c, e, h => by
    rw [extF_cons] at h
    rcases List.mem_append.mp h with h | h
    · obtain ⟨h1, h2⟩ := extF_more h
      exact ⟨fun q hq => h1 q (List.mem_append_left _ hq), h2⟩
    · obtain ⟨h1, h2⟩ := extF_more h
      exact ⟨h1, fun q hq => h2 q (List.mem_append_left _ hq)⟩
theorem plain_under {n : Nat} {as ts as' ts' : List (Int × Int)} (sa : ∀ p ∈ as, p ∈ as') (st : ∀ p ∈ ts, p ∈ ts') (h : plainC n as' ts' = true) : plainC n as ts = true := by
  rw [plainC_iff, plain_bars] at h ⊢
  intro l b
  obtain ⟨x, g⟩ := bar_good b
  refine h l (good_bar (n := n) (x := x) ⟨g.lot, g.mem, fun y hy => ?_, fun y hy => ?_⟩ b.two)
  · exact reach_mono (fun ⟨u, v⟩ hp => by
      rw [mem_upIn] at hp ⊢
      exact ⟨sa _ hp.1, hp.2⟩) (g.up y hy)
  · exact reach_mono (fun ⟨u, v⟩ hp => by
      rw [mem_tieIn] at hp ⊢
      exact ⟨hp.1.imp (st _) (st _), hp.2⟩) (g.tie y hy)
theorem extP_none {n : Nat} {c : Ch} {ps : List (Int × Int)} (h : plainC n c.1 c.2 = false) : extP n c ps = [] := by
  unfold extP
  rw [List.filter_eq_nil_iff]
  intro e he hp
  obtain ⟨h1, h2⟩ := extF_more he
  rw [plain_under h1 h2 hp] at h
  cases h
theorem extP_nil {n : Nat} {c : Ch} (h : plainC n c.1 c.2 = true) : extP n c [] = [c] := by
  show ([c] : List Ch).filter _ = [c]
  simp [h]
/-- a plan's next pair: its plain children stand for it -/
theorem extP_cons {n : Nat} {c : Ch} {p : Int × Int} {ps : List (Int × Int)} : extP n c (p :: ps) = (([(c.1 ++ [p], c.2), (c.1, c.2 ++ [p])] : List Ch).filter fun c => plainC n c.1 c.2).flatMap fun d => extP n d ps := by
  have e : extP n c (p :: ps) = extP n (c.1 ++ [p], c.2) ps ++ extP n (c.1, c.2 ++ [p]) ps := by
    unfold extP
    rw [extF_cons, List.filter_append]
  rw [e]
  cases h1 : plainC n (c.1 ++ [p]) c.2 <;> cases h2 : plainC n c.1 (c.2 ++ [p])
  · rw [extP_none (c := (c.1 ++ [p], c.2)) h1, extP_none (c := (c.1, c.2 ++ [p])) h2]; simp [h1, h2]
  · rw [extP_none (c := (c.1 ++ [p], c.2)) h1]; simp [h1, h2]
  · rw [extP_none (c := (c.1, c.2 ++ [p])) h2]; simp [h1, h2]
  · simp [h1, h2]
/-- how many steps a plan may still ask for -/
def chW (k : Nat) : Nat := 2 ^ (k + 1) - 1
theorem chW_succ (k : Nat) : 2 * chW k < chW (k + 1) := by
  unfold chW
  have h1 : 2 ^ (k + 1 + 1) = 2 * 2 ^ (k + 1) := by rw [Nat.pow_succ]; omega
  have h2 : 0 < 2 ^ (k + 1) := Nat.pow_pos (by decide)
  omega
end Tk

namespace Tk
open PySem PySem.Spec PyProof.Rows L2
/-! ## plans that hold just the first pairs -/
/-- its arrows and ties are the first k pairs -/
structure Pre (n k : Nat) (c : Ch) : Prop where
  le : k ≤ (rowsT n n).length
  mem : ∀ q, (q ∈ c.1 ∨ q ∈ c.2) ↔ q ∈ (rowsT n n).take k
theorem pre_0 {n : Nat} : Pre n 0 ([], []) := ⟨Nat.zero_le _, fun q => by rw [List.take_zero]; simp⟩
theorem pre_a {n k : Nat} {c : Ch} {p : Int × Int} (h : Pre n k c) (hp : (rowsT n n)[k]? = some p) : Pre n (k + 1) (c.1 ++ [p], c.2) := by
  have hk := lt_of_at hp
  refine ⟨by omega, fun q => ?_⟩
  have e := h.mem q
  rw [take_at hp]
  show (q ∈ c.1 ++ [p] ∨ q ∈ c.2) ↔ q ∈ (rowsT n n).take k ++ [p]
  constructor
  · rintro (z | z)
    · rcases List.mem_append.mp z with z | z
      · exact List.mem_append_left _ (e.mp (.inl z))
      · exact List.mem_append_right _ z
    · exact List.mem_append_left _ (e.mp (.inr z))
  · intro z
    rcases List.mem_append.mp z with z | z
    · rcases e.mpr z with y | y
      · exact .inl (List.mem_append_left _ y)
      · exact .inr y
    · exact .inl (List.mem_append_right _ z)
theorem pre_t {n k : Nat} {c : Ch} {p : Int × Int} (h : Pre n k c) (hp : (rowsT n n)[k]? = some p) : Pre n (k + 1) (c.1, c.2 ++ [p]) := by
  have hk := lt_of_at hp
  refine ⟨by omega, fun q => ?_⟩
  have e := h.mem q
  rw [take_at hp]
  show (q ∈ c.1 ∨ q ∈ c.2 ++ [p]) ↔ q ∈ (rowsT n n).take k ++ [p]
  constructor
  · rintro (z | z)
    · exact List.mem_append_left _ (e.mp (.inl z))
    · rcases List.mem_append.mp z with z | z
      · exact List.mem_append_left _ (e.mp (.inr z))
      · exact List.mem_append_right _ z
  · intro z
    rcases List.mem_append.mp z with z | z
    · rcases e.mpr z with y | y
      · exact .inl y
      · exact .inr (List.mem_append_left _ y)
    · exact .inr (List.mem_append_right _ z)
theorem pre_up {n k : Nat} {c : Ch} (h : Pre n k c) : ∀ q, q ∈ c.1 ∨ q ∈ c.2 → q.1 < q.2 := fun q hq => by
  have := List.mem_of_mem_take ((h.mem q).mp hq)
  exact ((mem_rowsT (x := q.1) (y := q.2)).mp this).2.1
/-- the loose pairs are the other ones -/
theorem loose_pre {n k : Nat} {c : Ch} {as ts : List (Int × Int)} (n6 : n ≤ 6) (h : Pre n k c) (sa : ∀ q, q ∈ as ↔ q ∈ c.1) (st : ∀ q, q ∈ ts ↔ q ∈ c.2) : looseP n as ts = (rowsT n n).drop k := by
  have nd := rowsT_nd n6
  have j : ∀ q : Int × Int, q ∈ rowsT n n → (jB as ts q = true ↔ q ∈ (rowsT n n).take k) := fun q hq => by
    rw [jB_iff, sa, sa, st, st, ← h.mem q]
    constructor
    · rintro (z | z | z | z)
      · exact .inl z
      · exact .inr z
      · have := pre_up h _ (.inl z)
        have := ((mem_rowsT (x := q.1) (y := q.2)).mp hq).2.1
        exact absurd (show q.2 < q.1 from by assumption) (by omega)
      · have := pre_up h _ (.inr z)
        have := ((mem_rowsT (x := q.1) (y := q.2)).mp hq).2.1
        exact absurd (show q.2 < q.1 from by assumption) (by omega)
    · rintro (z | z)
      · exact .inl z
      · exact .inr (.inl z)
  unfold looseP
  have split := (List.take_append_drop k (rowsT n n)).symm
  have dj : ∀ q ∈ (rowsT n n).drop k, q ∉ (rowsT n n).take k := fun q h2 h1 => by
    have nd' := nd
    rw [split] at nd'
    exact (List.nodup_append.mp nd').2.2 q h1 q h2 rfl
  have e1 : ((rowsT n n).take k).filter (fun p => !jB as ts p) = [] := List.filter_eq_nil_iff.mpr fun q hq => by
    rw [(j q (List.mem_of_mem_take hq)).mpr hq]
    decide
  have e2 : ((rowsT n n).drop k).filter (fun p => !jB as ts p) = (rowsT n n).drop k := List.filter_eq_self.mpr fun q hq => by
    have : jB as ts q = false := by
      rw [← Bool.not_eq_true, j q (List.mem_of_mem_drop hq)]
      exact dj q hq
    rw [this]
    rfl
  conv => lhs; rw [split]
  rw [List.filter_append, e1, e2, List.nil_append]
end Tk

namespace Tk
open PySem PySem.Spec PyProof.Rows L2
abbrev sPlOrder : Stmt := inClass (top 29) 4
def spPlOrder (K : PySem.W.Frag) (C : Addr) : Sp := fun vs H Q _ => ∃ (p : Addr) (n : Nat) (as ts : List (Int × Int)), vs = [.ref p] ∧ PlanAt K C H p n as ts ∧
  ∀ H' l o, Same H H' → H l = none → H' l = some (.lst (o.map V.int)) → Topo n as o → Q (.ref l) H'
def spTieParts (K : PySem.W.Frag) (C : Addr) : Sp := fun vs H Q _ => ∃ (p : Addr) (n : Nat) (as ts : List (Int × Int)), vs = [.ref p] ∧ PlanAt K C H p n as ts ∧
  ∀ (H' : Hp) (l : Addr) (xs : List V), Same H H' → H l = none → H' l = some (.lst xs) → LsAt H' xs (partsL n ts) → FreshL H xs → (∀ x ∈ xs, x ≠ .ref l) → Q (.ref l) H'
section
variable {P : Program} {w : World} {K : PySem.W.Frag} {mg : Str → Option Value} {base : Heap}
theorem sc_plOrder : FnScope ["self"] ["self"] (defScope sPlOrder) := ⟨rfl, rfl, rfl, by decide +kernel, rfl, by decide +kernel, by decide +kernel⟩
theorem ok_plOrder {f f6 C : Addr} {fd fd6 : FuncData} (F : Fun K "order" "Plan.order" sPlOrder f fd) (T : PlC K mg C) (D6 : Df K mg "order_of" sOrdOf ["size", "arrows"] f6 fd6) (B : Bl mg) : FnOk P w K mg base CX0 2 f fd ["self"] (spPlOrder K C) := by
  have G6 : FnOk P w K mg base CX0 1 f6 fd6 ["size", "arrows"] (spOrdOf K) := ok_ordOf D6.F B
  refine F.ok sc_plOrder (fun vs H Q E h => ?_) (fun cdv A outer s H vs Q E hr h => ?_)
  · obtain ⟨p, n, as, ts, rfl, _⟩ := h
    rfl
  · obtain ⟨p, n, as, ts, rfl, ⟨⟨dx, a, t, hp, ha, ht⟩, n6, pa, ac, _, _⟩, q⟩ := h
    refine ⟨_, pss_one (ps_ret (pe_call G6 hr rfl D6.g D6.F.kp D6.b .nil pass0 (pa_cons (pe_fld (pv 0) rfl) (pa_cons (pe_fld (pv 0) rfl) pa_nil)))), ?_⟩
    refine ⟨_, rfl, p, C, dx, _, _, rfl, hp, T.cl, T.nS, pf_size _ _ _, _, rfl, p, C, dx, _, _, rfl, hp, T.cl, T.nA, pf_arr _ _ _, n, a, as, rfl, ha, by omega, pa, ac, fun H' l o s hl ho ht => q H' l o s hl ho ht⟩
abbrev nTP : List Str := ["plan", "bonds", "parts", "thing", "part"]
end
end Tk

namespace Tk
open PySem PySem.Spec PyProof.Rows L2
/-! ## an order told; of no arrows it is the things as they come -/
def spOrdNo (K : PySem.W.Frag) : Sp := fun vs H Q _ => ∃ (n : Nat) (a : Addr) (ps : List (Int × Int)), vs = [.int n, .ref a] ∧ PL K H a ps ∧ n ≤ 60 ∧ Prs n ps ∧ Acy ps ∧
  ∀ H' p o, Same H H' → H p = none → H' p = some (.lst (o.map V.int)) → Topo n ps o → (ps = [] → o = things n) → Q (.ref p) H'
def spPlOrdNo (K : PySem.W.Frag) (C : Addr) : Sp := fun vs H Q _ => ∃ (p : Addr) (n : Nat) (ts : List (Int × Int)), vs = [.ref p] ∧ PlanAt K C H p n [] ts ∧
  ∀ H' l, Same H H' → H l = none → H' l = some (.lst ((things n).map V.int)) → Q (.ref l) H'
section
variable {P : Program} {w : World} {K : PySem.W.Frag} {mg : Str → Option Value} {base : Heap}
theorem ok_ordNo {f : Addr} {fd : FuncData} (F : Fun K "order_of" "order_of" sOrdOf f fd) (B : Bl mg) : FnOk P w K mg base CX0 1 f fd ["size", "arrows"] (spOrdNo K) := by
  refine F.ok sc_ordOf (fun vs H Q E h => ?_) (fun cdv A outer s H vs Q E hr h => ?_)
  · obtain ⟨n, a, ps, rfl, _⟩ := h
    rfl
  · obtain ⟨n, a, ps, rfl, ⟨xs, hxs, hd⟩, hn, hps, hac, q⟩ := h
    refine ⟨_, pss_cons (ps_asg (pe_tup (pa_cons (pe_lst pa_nil) (pa_cons (pe_listRg rfl (by rfl) B.list (prg_1 (by rfl) B.range (pv 0))) pa_nil)))
        (pg_tup rfl (pgs_cons (pg_name (i := 2) sc_ordOf.nd rfl (Or.inl rfl)) (pgs_cons (pg_name (i := 3) sc_ordOf.nd rfl (Or.inr rfl)) pgs_nil))))
      (pss_cons (ps_while PassesOwn.never (pt_truth (pv 3) (fun _ => rfl))
        (pss_cons (ps_set (i := 4) sc_ordOf.nd rfl (Or.inr rfl)
          (pe_lc (own := [("start", 6), ("end", 7)]) (g := gTup K 2 (gCons (gName 6) (gCons (gName 7) gNil))) (tt := tTest (tOp (rIn K false) (tVar 6) (tVar 3))) rfl sc_ordOf.nd (pi_list (pv 1)) (blkOk_by (N := nOrd) (sc := defScope sOrdOf) (by decide +kernel))
            (fun _ _ _ _ _ => pg_tup rfl (pgs_cons (pg_name (i := 6) sc_ordOf.nd rfl (Or.inl rfl)) (pgs_cons (pg_name (i := 7) sc_ordOf.nd rfl (Or.inl rfl)) pgs_nil)))
            (fun _ _ _ _ _ => pts_one (pt_cmpR op_in_seq (pv 6) (pv 3) (by rfl)))
            (fun _ _ _ _ _ => pv 7)))
        (pss_cons (ps_setLc (i := 5) (own := [("thing", 8)]) (g := gName 8) (tt := tTest (tOp (rIn K true) (tVar 8) (tVar 4))) rfl sc_ordOf.nd rfl rfl (sw_true rfl rfl rfl (by decide +kernel)) (pi_list (pv 3)) (blkOk_by (N := nOrd) (sc := defScope sOrdOf) (by decide +kernel))
            (fun _ _ _ _ _ => pg_name (i := 8) sc_ordOf.nd rfl (Or.inl rfl))
            (fun _ _ _ _ _ => pts_one (pt_cmpR op_notIn_seq (pv 8) (pv 4) (by rfl)))
            (fun _ _ _ _ _ => pv 8))
        (pss_cons (ps_if (pt_not (pt_truth (pv 5) (fun _ => rfl))) (pss_one (ps_ret (pv 2))) pss_nil)
        (pss_cons (ps_expr (pe_bm PySem.F.plainAttrs_list PySem.F.slot_list_append PySem.F.type_list_append mt_append (pv 2) (pa_cons (pe_ix ix_list (pv 5) pe_int (fun _ _ => rfl)) pa_nil)))
        (pss_one (ps_expr (pe_bm PySem.F.plainAttrs_list PySem.F.slot_list_remove PySem.F.type_list_remove mt_remove (pv 3) (pa_cons (pe_ix ix_list (pv 5) pe_int (fun _ _ => rfl)) pa_nil)))))))))
      (pss_one (ps_ret (pv 2)))), ?_⟩
    have hl : xs.length = ps.length := by rw [dps_len hd, List.length_map]
    -- order, left = ([], list(range(size)))
    refine ⟨szle (by decide), fun po hpo => ?_⟩
    refine ⟨_, rfl, n, rfl, RgOk.of_le (by omega) (by omega) (by omega) (by omega), fun pl hpl => ⟨szle (by show 2 ≤ 100000; decide), fun pt hpt => ?_⟩⟩
    have npl : po ≠ pl := fun e => by rw [e, upd_same] at hpl; cases hpl
    have hpl0 : H pl = none := by rw [upd_ne npl.symm] at hpl; exact hpl
    have npt : pt ≠ po ∧ pt ≠ pl := ⟨(fun e => by rw [e, upd_ne npl, upd_same] at hpt; cases hpt), (fun e => by rw [e, upd_same] at hpt; cases hpt)⟩
    refine ⟨pt, _, rfl, st_of upd_same, rfl, _, _, rfl, _, _, rfl, rfl, ?_⟩
    refine ⟨fun m σ H1 => ∃ o l v4 v5 v6 v7 v8, σ = [some (V.int n), some (V.ref a), some (V.ref po), some (V.ref pl), v4, v5, v6, v7, v8] ∧ Same H H1 ∧ H1 po = some (.lst (o.map V.int)) ∧ H1 pl = some (.lst (l.map V.int)) ∧ OInv n ps o l ∧ (ps = [] → o ++ l = things n) ∧ l.length = m,
      ⟨n, [], things n, none, none, none, none, none, rfl, ?_, ?_, ?_, oinv_0 n ps, fun _ => rfl, things_len n⟩, ?_⟩
    · exact ((same_new hpo).trans (same_new hpl)).trans (same_new hpt)
    · rw [upd_ne npt.1.symm, upd_ne npl, upd_same]; rfl
    · rw [upd_ne npt.2.symm, upd_same, rgV_things]
    rintro m σ H1 ⟨o, l, v4, v5, v6, v7, v8, rfl, s1, ho, hll, inv, all, rfl⟩
    refine ⟨_, rfl, _, .inl ⟨_, sl_of hll, rfl⟩, ?_⟩
    cases l with
    | nil =>
      exact ⟨_, rfl, q H1 po o s1 hpo ho (oinv_end inv) fun e => by have := all e; rw [List.append_nil] at this; exact this⟩
    | cons y l0 =>
      generalize hL : y :: l0 = l at *
      have lne : l ≠ [] := by rw [← hL]; simp
      have lem : (!(l.map V.int).isEmpty) = true := by rw [← hL]; rfl
      rw [lem]
      refine ⟨_, fun σ' H' z => z, ?_⟩
      -- pushed
      refine ⟨_, rfl, a, rfl, ⟨xs, same_l s1 hxs⟩, fun D hD => ?_⟩
      refine lc_list (xs := xs) (LcP H1 D fun k => (pushedL (ps.take k) l).map V.int) (lcp_0 hD rfl) (fun k H2 _ p => same_l (s1.trans p.1) hxs) ?_ ?_
      · intro k x H2 hx p
        obtain ⟨⟨i, j⟩, t, hpk, rfl, ht⟩ := pl_at (dps_s hd (s1.trans p.1)) hx
        have short : ((pushedL (ps.take k) l).map V.int).length < 100000 := by
          have h1 := hps.2.1
          have h2 : (pushedL (ps.take k) l).length ≤ (ps.take k).length := by unfold pushedL; rw [List.length_map]; exact List.length_filter_le ..
          rw [List.length_take] at h2
          rw [List.length_map]; omega
        refine ⟨t, _, rfl, ht, rfl, _, _, rfl, _, _, rfl, rfl, rfl, _, rfl, _, rfl, pl, _, rfl, .inl (sl_of (p.1 _ _ hll)), rfl, flat_ints l, _, in_bl, ?_⟩
        have et := pushed_take (l := l) hpk
        by_cases c : i ∈ l
        · rw [decide_eq_true c]
          refine ⟨_, rfl, ?_⟩
          refine lcp_put hD p ?_ short
          rw [et, if_pos c, List.map_append]; rfl
        · rw [decide_eq_false c]
          refine iteF (lcp_no p ?_)
          rw [et, if_neg c]
      · intro H2 p
        have hD2 : H2 D = some (.lst ((pushedL (ps.take xs.length) l).map V.int)) := p.2
        rw [take_all hl.symm] at hD2
        have s2 : Same H1 H2 := p.1
        have hDn : H D = none := s1.free hD
        -- free
        refine ⟨_, rfl, pl, rfl, ⟨_, sl_of (s2 _ _ hll)⟩, fun G hG => ?_⟩
        refine lc_list (xs := l.map V.int) (LcP H2 G fun k => ((l.take k).filter fun x => !decide (x ∈ pushedL ps l)).map V.int) (lcp_0 hG rfl) (fun k H3 _ p3 => sl_of (p3.1 _ _ (s2 _ _ hll))) ?_ ?_
        · intro k x H3 hx p3
          obtain ⟨z, hz, rfl⟩ := int_at hx
          have et := filter_take (f := fun x => !decide (x ∈ pushedL ps l)) hz
          have short : (((l.take k).filter fun x => !decide (x ∈ pushedL ps l)).map V.int).length < 100000 := by
            have h2 : ((l.take k).filter fun x => !decide (x ∈ pushedL ps l)).length ≤ (l.take k).length := List.length_filter_le ..
            have h3 := nodup_le inv.nl (fun x hx => (inv.al x).mpr (.inr hx))
            rw [things_len] at h3
            rw [List.length_take] at h2
            rw [List.length_map]; omega
          refine ⟨rfl, _, rfl, _, rfl, D, _, rfl, .inl (sl_of (p3.1 _ _ hD2)), rfl, flat_ints _, _, notin_bl, ?_⟩
          by_cases c : z ∈ pushedL ps l
          · rw [decide_eq_true c]
            refine iteF (lcp_no p3 ?_)
            rw [et, if_neg (by simp [c])]
          · rw [decide_eq_false c]
            refine ⟨_, rfl, ?_⟩
            refine lcp_put hG p3 ?_ short
            rw [et, if_pos (by simp [c]), List.map_append]; rfl
        · intro H3 p3
          have hG3 : H3 G = some (.lst (((l.take (l.map V.int).length).filter fun x => !decide (x ∈ pushedL ps l)).map V.int)) := p3.2
          rw [take_all (by simp)] at hG3
          have s3 : Same H2 H3 := p3.1
          have eF : (l.filter fun x => !decide (x ∈ pushedL ps l)) = freeL ps l := rfl
          rw [eF] at hG3
          have fne := freeL_ne hac lne
          obtain ⟨x, fr, hfr⟩ : ∃ x fr, freeL ps l = x :: fr := by
            cases e : freeL ps l with
            | nil => exact absurd e fne
            | cons x fr => exact ⟨x, fr, rfl⟩
          have hxf : x ∈ freeL ps l := by rw [hfr]; exact List.mem_cons_self ..
          have next : ps = [] → (o ++ [x]) ++ l.erase x = things n := fun e => by
            have e1 : freeL ps l = l := by
              rw [e]
              unfold freeL pushedL
              simp
            rw [e1] at hfr
            rw [← all e, hfr, List.erase_cons_head]
            simp
          rw [hfr] at hG3
          refine ⟨_, rfl, _, .inl ⟨_, sl_of hG3, rfl⟩, iteF ?_⟩
          have ho3 : H3 po = some (.lst (o.map V.int)) := s3 _ _ (s2 _ _ ho)
          have hl3 : H3 pl = some (.lst (l.map V.int)) := s3 _ _ (s2 _ _ hll)
          have nG : H1 G = none := s2.free hG
          have nGo : G ≠ po := fun e => by rw [e, ho] at nG; cases nG
          have nGl : G ≠ pl := fun e => by rw [e, hll] at nG; cases nG
          have olen : (o.map V.int).length < 100000 := by
            have h3 := nodup_le inv.no (fun x hx => (inv.al x).mpr (.inl hx))
            rw [things_len] at h3
            rw [List.length_map]; omega
          refine ⟨_, rfl, .inl ⟨rfl, _, sl_of ho3⟩, _, rfl, G, _, _, _, rfl, rfl, sl_of hG3, at0, po, _, _, rfl, rfl, ho3, szlt olen, ?_⟩
          have hl4 : (upd H3 po (.lst (o.map V.int ++ [V.int x]))) pl = some (.lst (l.map V.int)) := by rw [upd_ne npl.symm]; exact hl3
          obtain ⟨j, hj1, hj2, hj3⟩ := erase_ix (mem_freeL.mp hxf).1
          refine ⟨_, rfl, .inl ⟨rfl, _, sl_of hl4⟩, _, rfl, G, _, _, _, rfl, rfl, sl_of (by rw [upd_ne nGo]; exact hG3), at0, pl, l, x, j, rfl, rfl, hl4, hj1, hj2, ?_⟩
          refine ⟨(l.erase x).length, ?_, o ++ [x], l.erase x, _, _, _, _, _, rfl, ?_, ?_, ?_, oinv_step inv (fun p hp => mem_things.mpr ⟨(hps.2.2 p hp).1, (hps.2.2 p hp).2.1⟩) hxf, next, rfl⟩
          · have := List.length_erase_of_mem (mem_freeL.mp hxf).1
            have hp : 0 < l.length := List.length_pos_of_mem (mem_freeL.mp hxf).1
            omega
          · exact same_mut (same_mut (s1.trans (s2.trans s3)) hpo) hpl0
          · rw [upd_ne npl, upd_same, List.map_append]; rfl
          · rw [upd_same, hj3]
theorem ok_plOrdNo {f f6 C : Addr} {fd fd6 : FuncData} (F : Fun K "order" "Plan.order" sPlOrder f fd) (T : PlC K mg C) (D6 : Df K mg "order_of" sOrdOf ["size", "arrows"] f6 fd6) (B : Bl mg) : FnOk P w K mg base CX0 2 f fd ["self"] (spPlOrdNo K C) := by
  have G6 : FnOk P w K mg base CX0 1 f6 fd6 ["size", "arrows"] (spOrdNo K) := ok_ordNo D6.F B
  refine F.ok sc_plOrder (fun vs H Q E h => ?_) (fun cdv A outer s H vs Q E hr h => ?_)
  · obtain ⟨p, n, ts, rfl, _⟩ := h
    rfl
  · obtain ⟨p, n, ts, rfl, ⟨⟨dx, a, t, hp, ha, ht⟩, n6, pa, ac, _, _⟩, q⟩ := h
    refine ⟨_, pss_one (ps_ret (pe_call G6 hr rfl D6.g D6.F.kp D6.b .nil pass0 (pa_cons (pe_fld (pv 0) rfl) (pa_cons (pe_fld (pv 0) rfl) pa_nil)))), ?_⟩
    refine ⟨_, rfl, p, C, dx, _, _, rfl, hp, T.cl, T.nS, pf_size _ _ _, _, rfl, p, C, dx, _, _, rfl, hp, T.cl, T.nA, pf_arr _ _ _, n, a, [], rfl, ha, by omega, pa, ac, fun H' l o s hl ho _ he => ?_⟩
    rw [he rfl] at ho
    exact q H' l s hl ho
end
end Tk

namespace Tk
open PySem PySem.Spec PyProof.Rows L2
abbrev sFilledV : Stmt := top 45
/-! ## all plain full plans, by a stack -/
/-- a heap without two of its places -/
theorem exW_le {f w : Addr} {H : Hp} : Same (exW f w H) H := fun b o h => by
  unfold exW at h
  split at h
  · cases h
  · exact h
theorem exW_s {f w : Addr} {H H' : Hp} (e : Same H H') : Same (exW f w H) (exW f w H') := fun b o h => by
  unfold exW at h ⊢
  split at h
  · cases h
  · rename_i c
    rw [if_neg c]
    exact e _ _ h
theorem exW_f {f w : Addr} {H : Hp} {o : HO} : Same (exW f w H) (exW f w (upd H f o)) := fun b o' h => by
  unfold exW at h ⊢
  split at h
  · cases h
  · rename_i c
    rw [if_neg c, upd_ne (fun z => c (.inl z))]
    exact h
theorem exW_w {f w : Addr} {H : Hp} {o : HO} : Same (exW f w H) (exW f w (upd H w o)) := fun b o' h => by
  unfold exW at h ⊢
  split at h
  · cases h
  · rename_i c
    rw [if_neg c, upd_ne (fun z => c (.inr z))]
    exact h
theorem exW_of {f w : Addr} {G H : Hp} (hf : G f = none) (hw : G w = none) (e : Same G H) : Same G (exW f w H) := fun b o h => by
  unfold exW
  rw [if_neg (by rintro (z | z) <;> (rw [z] at h; first | (rw [hf] at h; cases h) | (rw [hw] at h; cases h)))]
  exact e _ _ h
def chM (n : Nat) (W : List (Ch × Nat)) : Nat := (W.map fun e => chW ((rowsT n n).length - e.2)).sum
/-- what stands after some turns -/
structure FillI (n : Nat) (F : List Ch) (W : List (Ch × Nat)) : Prop where
  pre : ∀ e ∈ W, Pre n e.2 e.1 ∧ plainC n e.1.1 e.1.2 = true
  pm : (F ++ W.flatMap fun e => extP n e.1 ((rowsT n n).drop e.2)).Perm ((chAll n).filter fun c => plainC n c.1 c.2)
theorem plain_bare {n : Nat} (h : n ≤ 4) : plainC n [] [] = true := by
  have h1 : n = 0 ∨ n = 1 ∨ n = 2 ∨ n = 3 ∨ n = 4 := by omega
  rcases h1 with rfl | rfl | rfl | rfl | rfl <;> decide +kernel
theorem fill_0 {n : Nat} (h : n ≤ 4) : FillI n [] [(([], []), 0)] := by
  refine ⟨fun e he => ?_, ?_⟩
  · rw [List.mem_singleton.mp he]
    exact ⟨pre_0, plain_bare h⟩
  · show ([] ++ (extP n ([], []) ((rowsT n n).drop 0) ++ [])).Perm _
    rw [List.nil_append, List.append_nil, List.drop_zero]
    exact .refl _
theorem fill_put {n : Nat} {F : List Ch} {W : List (Ch × Nat)} {e : Ch × Nat} (h : FillI n F (W ++ [e])) (hd : (rowsT n n).drop e.2 = []) : FillI n (F ++ [e.1]) W := by
  obtain ⟨_, pe⟩ := h.pre e (by simp)
  refine ⟨fun d hd => h.pre d (by simp [hd]), ?_⟩
  have := h.pm
  rw [List.flatMap_append, show ([e] : List (Ch × Nat)).flatMap (fun e => extP n e.1 ((rowsT n n).drop e.2)) = extP n e.1 ((rowsT n n).drop e.2) from List.flatMap_singleton .., hd, extP_nil pe] at this
  refine List.Perm.trans ?_ this
  rw [List.append_assoc]
  exact List.perm_append_comm.append_left _
theorem fill_more {n : Nat} {F : List Ch} {W : List (Ch × Nat)} {e : Ch × Nat} {p : Int × Int} {ps : List (Int × Int)} (h : FillI n F (W ++ [e])) (hd : (rowsT n n).drop e.2 = p :: ps) :
    FillI n F (W ++ ((([(e.1.1 ++ [p], e.1.2), (e.1.1, e.1.2 ++ [p])] : List Ch).filter fun c => plainC n c.1 c.2).map fun d => (d, e.2 + 1))) := by
  obtain ⟨pr, _⟩ := h.pre e (by simp)
  have hp : (rowsT n n)[e.2]? = some p := by
    have : ((rowsT n n).drop e.2)[0]? = some p := by rw [hd]; rfl
    rw [List.getElem?_drop] at this
    simpa using this
  have h2 : (rowsT n n).drop (e.2 + 1) = ps := by
    have : (rowsT n n).drop (e.2 + 1) = ((rowsT n n).drop e.2).drop 1 := by rw [List.drop_drop]
    rw [this, hd]
    rfl
  refine ⟨fun d hd' => ?_, ?_⟩
  · rcases List.mem_append.mp hd' with k | k
    · exact h.pre d (by simp [k])
    · obtain ⟨c, hc, rfl⟩ := List.mem_map.mp k
      obtain ⟨m1, m2⟩ := List.mem_filter.mp hc
      refine ⟨?_, m2⟩
      simp at m1
      rcases m1 with rfl | rfl
      · exact pre_a pr hp
      · exact pre_t pr hp
  · have := h.pm
    rw [List.flatMap_append, show ([e] : List (Ch × Nat)).flatMap (fun e => extP n e.1 ((rowsT n n).drop e.2)) = extP n e.1 ((rowsT n n).drop e.2) from List.flatMap_singleton .., hd, extP_cons] at this
    rw [List.flatMap_append, List.flatMap_map]
    dsimp only
    rw [h2]
    exact this
theorem fill_less {n : Nat} {W : List (Ch × Nat)} {e : Ch × Nat} {p : Int × Int} {ps : List (Int × Int)} (hd : (rowsT n n).drop e.2 = p :: ps) {cs : List Ch} (hc : cs.length ≤ 2) : chM n (W ++ cs.map fun d => (d, e.2 + 1)) < chM n (W ++ [e]) := by
  have hl : e.2 < (rowsT n n).length := by
    have := congrArg List.length hd
    rw [List.length_drop, List.length_cons] at this
    omega
  unfold chM
  rw [List.map_append, List.map_append, List.sum_append, List.sum_append, List.map_map]
  have h1 : (cs.map ((fun e => chW ((rowsT n n).length - e.2)) ∘ fun d => (d, e.2 + 1))).sum = cs.length * chW ((rowsT n n).length - (e.2 + 1)) := by
    induction cs with
    | nil => simp
    | cons c cs ih =>
      rw [List.map_cons, List.sum_cons, ih (by simp at hc; omega), List.length_cons, Nat.succ_mul]
      show chW ((rowsT n n).length - (e.2 + 1)) + _ = _
      omega
  rw [h1]
  show _ < _ + (chW ((rowsT n n).length - e.2) + 0)
  have h2 := chW_succ ((rowsT n n).length - (e.2 + 1))
  rw [show (rowsT n n).length - (e.2 + 1) + 1 = (rowsT n n).length - e.2 by omega] at h2
  have h3 : cs.length * chW ((rowsT n n).length - (e.2 + 1)) ≤ 2 * chW ((rowsT n n).length - (e.2 + 1)) := Nat.mul_le_mul_right _ hc
  omega
theorem fill_drop {n : Nat} {W : List (Ch × Nat)} {e : Ch × Nat} : chM n W < chM n (W ++ [e]) := by
  unfold chM
  rw [List.map_append, List.sum_append]
  show _ < _ + (chW ((rowsT n n).length - e.2) + 0)
  have : 0 < chW ((rowsT n n).length - e.2) := by
    unfold chW
    have := Nat.pow_pos (n := (rowsT n n).length - e.2 + 1) (show 0 < 2 by decide)
    have h2 : 2 ^ ((rowsT n n).length - e.2 + 1) = 2 * 2 ^ ((rowsT n n).length - e.2) := by rw [Nat.pow_succ]; omega
    have := Nat.pow_pos (n := (rowsT n n).length - e.2) (show 0 < 2 by decide)
    omega
  omega
theorem fill_few {n : Nat} {F : List Ch} {W : List (Ch × Nat)} (n4 : n ≤ 4) (h : FillI n F W) : F.length ≤ 60 := by
  have h1 := h.pm.length_eq
  rw [List.length_append, ch_no n4] at h1
  have : chNo n ≤ 60 := by
    have h1 : n = 0 ∨ n = 1 ∨ n = 2 ∨ n = 3 ∨ n = 4 := by omega
    rcases h1 with rfl | rfl | rfl | rfl | rfl <;> decide
  omega
end Tk

namespace Tk
open PySem PySem.Spec PyProof.Rows L2
def spFilledV (K : PySem.W.Frag) (C : Addr) : Sp := fun vs H Q _ => ∃ (p : Addr) (n : Nat), vs = [.ref p, .int 64] ∧ PlanAt K C H p n [] [] ∧ n ≤ 4 ∧
  ∀ (H' : Hp) (r : Addr) (xs : List V) (cs : List Ch), Same H H' → H r = none → H' r = some (.lst xs) → PlsP K C n H' xs cs → cs.Perm ((chAll n).filter fun c => plainC n c.1 c.2) → Q (.ref r) H'
theorem pls_snoc {K : PySem.W.Frag} {C : Addr} {n : Nat} {G : Hp} : ∀ {xs : List V} {x : V} {cs : List Ch} {c : Ch}, PlsP K C n G (xs ++ [x]) (cs ++ [c]) → PlsP K C n G xs cs ∧ PlsP K C n G [x] [c]
  | [], _, [], _, h => ⟨trivial, h⟩
  | [], _, [_], _, h => h.2.elim
  | [], _, _ :: _ :: _, _, h => h.2.elim
  | [_], _, [], _, h => h.2.elim
  | _ :: _ :: _, _, [], _, h => h.2.elim
  | _ :: _, _, _ :: _, _, ⟨h1, h2⟩ => let ⟨a, b⟩ := pls_snoc h2; ⟨⟨h1, a⟩, b⟩
theorem chM_0 {n : Nat} (h : n ≤ 4) : chM n [(([], []), 0)] ≤ 1000 := by
  have h1 : n = 0 ∨ n = 1 ∨ n = 2 ∨ n = 3 ∨ n = 4 := by omega
  rcases h1 with rfl | rfl | rfl | rfl | rfl <;> decide +kernel
theorem chM_len (n : Nat) : ∀ W : List (Ch × Nat), W.length ≤ chM n W
  | [] => Nat.zero_le _
  | e :: W => by
    have h := chM_len n W
    unfold chM at h ⊢
    rw [List.map_cons, List.sum_cons, List.length_cons]
    have : 0 < chW ((rowsT n n).length - e.2) := by
      unfold chW
      have := Nat.pow_pos (n := (rowsT n n).length - e.2 + 1) (show 0 < 2 by decide)
      have := Nat.one_lt_two_pow (n := (rowsT n n).length - e.2 + 1) (by omega)
      omega
    omega
theorem pls_ex {K : PySem.W.Frag} {C f w : Addr} {n : Nat} {G : Hp} {us vs : List V} (hf : G f = some (.lst us)) (hw : G w = some (.lst vs)) : ∀ {xs : List V} {cs : List Ch}, (∀ x ∈ xs, ∃ z, x = .ref z ∧ NF C G z n f) → (∀ x ∈ xs, ∃ z, x = .ref z ∧ NF C G z n w) → PlsP K C n G xs cs → PlsP K C n (exW f w G) xs cs
  | [], [], _, _, _ => trivial
  | x :: xs, c :: cs, h1, h2, ⟨⟨z, as, ts, e, P, q⟩, h⟩ => by
    obtain ⟨z1, e1, n1⟩ := h1 x (List.mem_cons_self ..)
    obtain ⟨z2, e2, n2⟩ := h2 x (List.mem_cons_self ..)
    subst e
    cases e1
    cases e2
    exact ⟨⟨z, as, ts, rfl, plan_exN hf hw n1 n2 P, q⟩, pls_ex hf hw (fun y hy => h1 y (List.mem_cons_of_mem _ hy)) (fun y hy => h2 y (List.mem_cons_of_mem _ hy)) h⟩
  | [], _ :: _, _, _, h => h.elim
  | _ :: _, [], _, _, h => h.elim
section
variable {P : Program} {w : World} {K : PySem.W.Frag} {mg : Str → Option Value} {base : Heap}
abbrev nFilledV : List Str := ["plan", "most", "order", "found", "waiting", "here"]
theorem sc_filledV : FnScope nFilledV ["plan", "most"] (defScope sFilledV) := ⟨rfl, rfl, rfl, by decide +kernel, rfl, by decide +kernel, by decide +kernel⟩
theorem ok_filledV {f f1 f2 fO C pW gW fA fT : Addr} {fd fd1 fd2 fdO fdW fdA fdT : FuncData} (F : Fun K "filled" "filled" sFilledV f fd) (M : PlM K mg C pW gW fA fT fdW fdA fdT) (D1 : Df K mg "loose_pairs" sLoose ["plan"] f1 fd1)
    (D2 : Df K mg "filled_once" sOnceV ["plan", "order"] f2 fd2) (G2 : FnOk P w K mg base CX0 10 f2 fd2 ["plan", "order"] (spOnceV K C)) (mO : Meth K C "order" fO) (GO : FnOk P w K mg base CX0 2 fO fdO ["self"] (spPlOrdNo K C)) (bO : Binds K fdO ["self"] []) (B : Bl mg) :
    FnOk P w K mg base CX0 11 f fd ["plan", "most"] (spFilledV K C) := by
  have G1 : FnOk P w K mg base CX0 3 f1 fd1 ["plan"] (spLoose K C) := ok_loose D1.F M B
  refine F.ok sc_filledV (fun vs H Q E h => ?_) (fun cdv A outer s H vs Q E hr h => ?_)
  · obtain ⟨p, n, rfl, _⟩ := h
    rfl
  · obtain ⟨p, n, rfl, hP, n4, q⟩ := h
    have hr2 : Room 2 _ := hr.mono (by decide)
    have hr3 : Room 3 _ := hr.mono (by decide)
    refine ⟨_, pss_cons (ps_set (i := 2) sc_filledV.nd rfl (Or.inl rfl) (pe_meth0 (pv 0) M.c.cl mO GO hr2 bO .nil pass0))
      (pss_cons (ps_par (i := 3) (j := 4) rfl sc_filledV.nd rfl rfl (by decide) rfl rfl (pa_cons (pe_lst pa_nil) (pa_cons (pe_lst (pa_cons (pv 0) pa_nil)) pa_nil)) (by rfl))
      (pss_cons (ps_while PassesOwn.never (PW.pt (pw_and (pt_truth (pv 4) (fun _ => rfl)) (pw_and1 (pt_cmpR op_le (pe_callB call_len_seq (by rfl) B.len PySem.boot_len (pa_cons (pv 3) pa_nil)) (pv 1) (nomark _)))))
        (pss_cons (ps_set (i := 5) sc_filledV.nd rfl (Or.inl rfl) (pe_bm0 PySem.F.plainAttrs_list PySem.F.slot_list_pop PySem.F.type_list_pop mt_pop (pv 4)))
        (pss_one (ps_if (pt_truth (pe_call G1 hr3 rfl D1.g D1.F.kp D1.b .nil pass0 (pa_cons (pv 5) pa_nil)) (fun _ => rfl))
          (pss_one (ps_expr (pe_bm PySem.F.plainAttrs_list PySem.F.slot_list_extend PySem.F.type_list_extend mt_extend (pv 4) (pa_cons (pe_call G2 hr rfl D2.g D2.F.kp D2.b .nil pass0 (pa_cons (pv 5) (pa_cons (pv 2) pa_nil))) pa_nil))))
          (pss_one (ps_expr (pe_bm PySem.F.plainAttrs_list PySem.F.slot_list_append PySem.F.type_list_append mt_append (pv 3) (pa_cons (pv 5) pa_nil))))))))
      (pss_one (ps_ret (pv 3))))), ?_⟩
    obtain ⟨⟨dx, a0, t0, hp, _⟩, n6, _⟩ := id hP
    refine ⟨_, rfl, p, dx, _, rfl, hp, pf_no _ _ _ (by decide +kernel) (by decide +kernel) (by decide +kernel), p, n, [], rfl, hP, fun H1 lo s1 hlo0 hlo => ?_⟩
    have hP1 := plan_s hP s1
    refine ⟨szle (by decide), fun pf hpf => ⟨_, rfl, szle (by show 1 ≤ 100000; decide), fun pw hpw => ⟨_, _, rfl, ?_⟩⟩⟩
    have npw : pf ≠ pw := fun e => by rw [e, upd_same] at hpw; cases hpw
    have hpw0 : H1 pw = none := by rw [upd_ne npw.symm] at hpw; exact hpw
    have s12 := (same_new (o := .lst []) hpf).trans (same_new (o := .lst [V.ref p]) hpw)
    refine ⟨fun m σ G => ∃ (fo wa : List V) (F : List Ch) (W : List (Ch × Nat)) (v5 : Option V), σ = [some (V.ref p), some (V.int 64), some (V.ref lo), some (V.ref pf), some (V.ref pw), v5] ∧ Same H1 G ∧ G pf = some (.lst fo) ∧ G pw = some (.lst wa) ∧ PlsP K C n (exW pf pw G) fo F ∧ PlsP K C n (exW pf pw G) wa (W.map Prod.fst) ∧ FillI n F W ∧ chM n W ≤ 1000 ∧ chM n W = m,
      ⟨_, [], [.ref p], [], [(([], []), 0)], none, rfl, s12, by rw [upd_ne npw, upd_same], upd_same, trivial, ⟨⟨p, [], [], rfl, plan_s hP1 (exW_of hpf hpw0 s12), .refl _, .refl _⟩, trivial⟩, fill_0 n4, chM_0 n4, rfl⟩, ?_⟩
    rintro m σ G ⟨fo, wa, F, W, v5, rfl, sG, hf, hw, hF, hW, inv, lw, rfl⟩
    have lF := pls_len hF
    have few := fill_few n4 inv
    refine ⟨_, rfl, _, .inl ⟨_, sl_of hw, rfl⟩, ?_⟩
    rcases List.eq_nil_or_concat W with rfl | ⟨W0, e, rfl⟩
    · have wn : wa = [] := List.eq_nil_of_length_eq_zero (pls_len hW)
      subst wn
      refine ⟨_, rfl, ?_⟩
      have pm := inv.pm
      rw [List.flatMap_nil, List.append_nil] at pm
      exact q G pf fo F (s1.trans sG) (s1.free hpf) hf (pls_s exW_le hF) pm
    · rw [List.concat_eq_append] at *
      rw [List.map_append] at hW
      have lW := pls_len hW
      rcases List.eq_nil_or_concat wa with rfl | ⟨wb, x, rfl⟩
      · simp at lW
      rw [List.concat_eq_append] at *
      obtain ⟨hW1, hW2⟩ := pls_snoc (c := e.1) hW
      obtain ⟨⟨z, as, ts, rfl, PZ, pmA, pmT⟩, _⟩ := hW2
      obtain ⟨pre, _⟩ := inv.pre e (by simp)
      have lem : (!(wb ++ [V.ref z]).isEmpty) = true := by simp
      rw [lem]
      refine iteT ⟨_, rfl, pf, _, rfl, .inl (sl_of hf), _, rfl, _, _, rfl, rfl, _, rfl, ?_⟩
      rw [decide_eq_true (show ((fo.length : Nat) : Int) ≤ 64 by omega)]
      refine ⟨_, fun σ' H' z => z, ?_⟩
      refine ⟨_, rfl, .inl ⟨rfl, _, sl_of hw⟩, pw, _, V.ref z, rfl, rfl, hw, (by simp), ?_⟩
      rw [show (wb ++ [V.ref z]).dropLast = wb by simp]
      have s2 : Same H1 (upd G pw (.lst wb)) := same_mut sG hpw0
      have hf2 : (upd G pw (.lst wb)) pf = some (.lst fo) := by rw [upd_ne npw]; exact hf
      have hw2 : (upd G pw (.lst wb)) pw = some (.lst wb) := upd_same
      have hF2 := pls_s (exW_w (f := pf) (w := pw) (H := G) (o := .lst wb)) hF
      have hW2 := pls_s (exW_w (f := pf) (w := pw) (H := G) (o := .lst wb)) hW1
      have PZ2 := plan_s PZ (exW_w (f := pf) (w := pw) (H := G) (o := .lst wb))
      generalize upd G pw (.lst wb) = G2 at s2 hf2 hw2 hF2 hW2 PZ2
      have lwb : wb.length + 1 ≤ 1000 := by
        have h1 := chM_len n (W0 ++ [e])
        have h2 := pls_len hW1
        rw [List.length_map] at h2
        rw [List.length_append, List.length_singleton] at h1
        omega
      refine ⟨_, rfl, z, n, as, ts, rfl, plan_s PZ2 exW_le, fun G3 r3 s3 _ ⟨acc, hacc, ta⟩ => ⟨_, .inl ⟨_, sl_of hacc, rfl⟩, ?_⟩⟩
      have hl := loose_pre n6 pre (as := as) (ts := ts) (fun _ => pmA.mem_iff) (fun _ => pmT.mem_iff)
      have e3 := exW_s (f := pf) (w := pw) s3
      have hf3 := s3 _ _ hf2
      have hw3 := s3 _ _ hw2
      have s13 := s2.trans s3
      rw [hl] at ta
      cases hd : (rowsT n n).drop e.2 with
      | nil =>
        rw [hd] at ta
        have an : acc = [] := List.eq_nil_of_length_eq_zero ta.1
        subst an
        refine iteF ⟨_, rfl, .inl ⟨rfl, _, sl_of hf3⟩, _, rfl, pf, fo, _, rfl, rfl, hf3, szlt (by omega), ?_⟩
        refine ⟨_, fill_drop (e := e), fo ++ [.ref z], wb, F ++ [e.1], W0, _, rfl, same_mut s13 hpf, upd_same, by rw [upd_ne npw.symm]; exact hw3, ?_, pls_s (e3.trans exW_f) hW2, fill_put inv hd, Nat.le_trans (Nat.le_of_lt (fill_drop (e := e))) lw, rfl⟩
        exact pls_app (pls_s (e3.trans exW_f) hF2) ⟨⟨z, as, ts, rfl, plan_s PZ2 (e3.trans exW_f), pmA, pmT⟩, trivial⟩
      | cons pq rest =>
        obtain ⟨p1, p2⟩ := pq
        rw [hd] at ta hl
        have ae : (!acc.isEmpty) = true := by
          have := ta.1
          cases acc with
          | nil => simp at this
          | cons _ _ => rfl
        rw [ae]
        refine iteT ⟨_, rfl, .inl ⟨rfl, _, sl_of hw3⟩, ?_⟩
        refine ⟨_, rfl, _, rfl, z, lo, n, as, ts, rest, p1, p2, e.1, rfl, plan_s PZ2 (e3.trans exW_le), pmA, pmT, sl_of (s13 _ _ hlo), hl, fun q hq => pre_up pre q (.inl (pmA.mem_iff.mp hq)), fun G4 r4 xs4 s4 hr40 hr4 hpl4 hnf4 => ?_⟩
        have few4 : xs4.length ≤ 2 := by
          rw [pls_len hpl4]
          exact List.length_filter_le ..
        have hw4 := s4 _ _ hw3
        have hf4 := s4 _ _ hf3
        have e4 := exW_s (f := pf) (w := pw) s4
        have hpx : PlsP K C n (exW pf pw G4) xs4 ((([(e.1.1 ++ [(p1, p2)], e.1.2), (e.1.1, e.1.2 ++ [(p1, p2)])] : List Ch)).filter fun c => plainC n c.1 c.2) :=
          pls_ex hf4 hw4 (fun x hx => hnf4 pf _ hf3 x hx) (fun x hx => hnf4 pw _ hw3 x hx) hpl4
        refine ⟨pw, r4, wb, xs4, rfl, rfl, hw4, hr4, szle (by show wb.length + xs4.length ≤ 100000; omega), ?_⟩
        have fl := fill_less (W := W0) hd (cs := (([(e.1.1 ++ [(p1, p2)], e.1.2), (e.1.1, e.1.2 ++ [(p1, p2)])] : List Ch)).filter fun c => plainC n c.1 c.2) (List.length_filter_le ..)
        refine ⟨_, fl, fo, wb ++ xs4, F, W0 ++ ((([(e.1.1 ++ [(p1, p2)], e.1.2), (e.1.1, e.1.2 ++ [(p1, p2)])] : List Ch)).filter fun c => plainC n c.1 c.2).map (fun d => (d, e.2 + 1)), _, rfl, same_mut (s13.trans s4) hpw0, by rw [upd_ne npw]; exact hf4, upd_same, pls_s ((e3.trans e4).trans exW_w) hF2, ?_, fill_more inv hd, Nat.le_trans (Nat.le_of_lt fl) lw, rfl⟩
        rw [List.map_append, List.map_map]
        refine pls_s exW_w (pls_app (pls_s (e3.trans e4) hW2) ?_)
        rw [show ((fun e : Ch × Nat => e.1) ∘ fun d : Ch => (d, e.2 + 1)) = id from rfl, List.map_id]
        exact hpx
end
end Tk

/-! ## sorted by a key, a state being kept -/
namespace Tk
open PySem PySem.Spec PyProof.Rows
section
variable {prog : Program} {w : World} {A : Around} {E : Value → Shared → Prop}
theorem keyI_rest {s : Shared} {a kS : Addr} {b : Bool} {vs : List Value} {e1 : Nat} {P : PySem.Fin → Shared → Prop} {kz : List PyData} {f : Value} {J : List Value → Shared → Prop}
    (nk : s.heap.get? kS = some (seqObj "list" #[] 0)) (na : s.heap.get? a = some (seqObj "list" #[] e1)) (hka : kS ≠ a) (hlen : kz.length = vs.length) (hZ : vs.length ≤ sizeLine)
    (hal : PySem.W.AllAlike kz) (hsk : PySem.W.Sortable kz) (hu : ∀ d ∈ kz, A.units + d.depth < cLine)
    (j0 : J [] s) (off : ∀ (keys : List Value) (s1 : Shared) (h' : Heap) (tk : Nat), J keys s1 → (∀ (b : Addr) (o : Obj), b ≠ a → b ≠ kS → s1.heap.get? b = some o → h'.get? b = some o) → J keys { s1 with heap := h', toks := tk })
    (turn : ∀ (i : Nat) (v : Value) (keys : List Value) (s1 : Shared) (oa ok : Obj), vs[i]? = some v → keys.length = i → J keys s1 → s1.heap.get? a = some oa → s1.heap.get? kS = some ok →
      wpAny (model prog w) A (call f [v]) (fun u s2 => J (keys ++ [u]) s2 ∧ s2.heap.get? a = some oa ∧ s2.heap.get? kS = some ok) (fun _ _ => False) s1)
    (fin : ∀ (keys : List Value) (s1 : Shared), J keys s1 → keys.length = vs.length → PySem.W.EachIs (fun v k => ∃ as, Reads s1.heap v k as) keys kz)
    (h : ∀ (keys : List Value) (s1 : Shared) (out : List Value) (c : Nat), J keys s1 → keys.length = vs.length → s1.heap.get? a = some (seqObj "list" out.toArray c) → PySem.W.KeyedOut b kz vs out → P (.done (.ret .none)) s1) :
    wpAny (model prog w) A (ksk_rest a f b vs.toArray e1 (.ref kS)) P E s := by
  unfold ksk_rest
  refine wpAny_bind (wpAny_rule ?_)
  rw [List.forIn_toArray]
  refine wpAny_bind (ksk_fold (fun i s' => ∃ (kA : Array Value) (e : Nat), J kA.toList s' ∧ kA.size = i ∧ s'.heap.get? kS = some (seqObj "list" kA e) ∧ s'.heap.get? a = some (seqObj "list" #[] e1)) vs 0 s ⟨#[], 0, j0, rfl, nk, na⟩ ?_ ?_)
  · rintro j x s' hx ⟨kA, e, hJ, hz, nk', na'⟩
    rw [Nat.zero_add] at hz ⊢
    have hj := (List.getElem?_eq_some_iff.mp hx).1
    refine wpAny_bind (wpAny_attempt (wpAny_mono (turn j x kA.toList s' _ _ hx (by rw [Array.length_toList]; exact hz) hJ na' nk') (fun v s'' he => ?_) fun _ _ h => h.elim))
    obtain ⟨hJ2, na2, nk2⟩ := he
    have s1 := Heap.SameBut.update s''.heap kS (Obj.mapSeq fun x => x.push v)
    have hc2 := get?_update_seq nk2 fun x => x.push v
    have same : ∀ (b : Addr) (o : Obj), b ≠ kS → s''.heap.get? b = some o → (s''.heap.update kS (Obj.mapSeq fun x => x.push v)).get? b = some o := fun b o n q => by rw [s1.2 b n]; exact q
    refine wpAny_bind (listUpdate_at nk2 rfl (wpAny_pure ⟨rfl, kA.push v, _, ?_, ?_, hc2, same _ _ hka.symm na2⟩) (by show kA.size ≤ sizeLine; omega) (by show (kA.push v).size ≤ sizeLine + 1; rw [Array.size_push]; omega))
    · rw [Array.toList_push]
      exact off _ s'' _ s''.toks hJ2 fun b o n1 n2 q => same b o n2 q
    · rw [Array.size_push, hz]
  · rintro s' ⟨kA, e, hJ, hsz, nk', na'⟩
    rw [Nat.zero_add] at hsz
    have hlk : kA.toList.length = vs.length := by rw [Array.length_toList]; exact hsz
    have hk' := fin _ _ hJ hlk
    refine wpAny_bind (listItems_at nk' rfl (PySem.W.keyH_end (h₁ := PySem.W.hideAll s'.heap [kS]) (fun b o _ q => PySem.W.of_hideAll _ q) (PySem.W.hideAll_none _ (by simp)) nk' na' hka (PySem.W.SortsAt.data hk' hal hsk hu) hsz hZ fun h3 tk3 c k3 n3 => ?_))
    refine h kA.toList _ _ c (off _ _ h3 tk3 hJ fun b o n1 n2 q => k3 b o n1 (PySem.W.hideAll_get _ q (by simpa using n2))) hlk n3 ⟨s'.heap, kA.toList, hal, rfl, hk'⟩
theorem keyI_tree {s : Shared} {a : Addr} {b : Bool} {vs : List Value} {n : Nat} {P : PySem.Fin → Shared → Prop} {kz : List PyData} {f : Value} {J : Addr → List Value → Shared → Prop}
    (ha' : s.heap.get? a = some (seqObj "list" vs.toArray n)) (hlen : kz.length = vs.length) (hZ : vs.length ≤ sizeLine) (hal : PySem.W.AllAlike kz) (hsk : PySem.W.Sortable kz) (hu : ∀ d ∈ kz, A.units + d.depth < cLine)
    (j0 : ∀ (kS : Addr) (h' : Heap) (tk : Nat), s.heap.objs.size ≤ kS → (∀ (b : Addr) (o : Obj), b ≠ a → s.heap.get? b = some o → h'.get? b = some o) → J kS [] { s with heap := h', toks := tk })
    (off : ∀ (kS : Addr) (keys : List Value) (s1 : Shared) (h' : Heap) (tk : Nat), s.heap.objs.size ≤ kS → J kS keys s1 → (∀ (b : Addr) (o : Obj), b ≠ a → b ≠ kS → s1.heap.get? b = some o → h'.get? b = some o) → J kS keys { s1 with heap := h', toks := tk })
    (turn : ∀ (kS : Addr) (i : Nat) (v : Value) (keys : List Value) (s1 : Shared) (oa ok : Obj), s.heap.objs.size ≤ kS → vs[i]? = some v → keys.length = i → J kS keys s1 → s1.heap.get? a = some oa → s1.heap.get? kS = some ok →
      wpAny (model prog w) A (call f [v]) (fun u s2 => J kS (keys ++ [u]) s2 ∧ s2.heap.get? a = some oa ∧ s2.heap.get? kS = some ok) (fun _ _ => False) s1)
    (fin : ∀ (kS : Addr) (keys : List Value) (s1 : Shared), J kS keys s1 → keys.length = vs.length → PySem.W.EachIs (fun v k => ∃ as, Reads s1.heap v k as) keys kz)
    (h : ∀ (kS : Addr) (keys : List Value) (s1 : Shared) (out : List Value) (c : Nat), J kS keys s1 → keys.length = vs.length → s1.heap.get? a = some (seqObj "list" out.toArray c) → PySem.W.KeyedOut b kz vs out → P (.done (.ret .none)) s1) :
    wpAny (model prog w) A (ksk_tree a f b) P E s := by
  have ha : a < s.heap.objs.size := Heap.lt_size ha'
  have ho1 := get?_update_seq ha' fun _ => #[]
  unfold ksk_tree
  refine wpAny_bind (listItems_at ha' rfl (wpAny_bind (listUpdate_at ha' rfl (wpAny_bind (seqEpoch_at ho1 rfl (wpAny_bind (wpAny_newTuple (wpAny_bind (wpAny_newList (wpAny_holding ?_) (Nat.zero_le sizeLine))) hZ)))) (by rw [List.size_toArray]; exact hZ) (Nat.zero_le _))))
  have hkS : ((s.heap.update a (Obj.mapSeq fun _ => #[])).push (seqObj "tuple" vs.toArray 0)).objs.size = s.heap.objs.size + 1 := by rw [size_push', Heap.size_update]
  have ge : s.heap.objs.size ≤ ((s.heap.update a (Obj.mapSeq fun _ => #[])).push (seqObj "tuple" vs.toArray 0)).objs.size := by rw [hkS]; exact Nat.le_succ _
  have kp : ∀ (b : Addr) (o : Obj), b ≠ a → s.heap.get? b = some o → (PySem.W.sortingHeap s.heap a vs).get? b = some o := fun b o hb q => PySem.W.sortingHeap_old hb q
  exact keyI_rest (s := { heap := PySem.W.sortingHeap s.heap a vs, gens := s.gens, drawn := s.drawn, toks := s.toks, os := s.os }) (J := J _) (Heap.get?_push_size _ rfl) (Heap.get?_push_of_some _ (Heap.get?_push_of_some _ ho1)) (by rw [hkS]; exact Nat.ne_of_gt (Nat.lt_succ_of_lt ha)) hlen hZ hal hsk hu
    (j0 _ _ _ ge kp) (fun keys s1 h' tk => off _ keys s1 h' tk ge) (fun i v keys s1 oa ok => turn _ i v keys s1 oa ok ge) (fun keys s1 => fin _ keys s1) (fun keys s1 out c => h _ keys s1 out c)
theorem eachI_at {α β : Type} {R : α → β → Prop} : ∀ {vs : List α} {bs : List β}, PySem.W.EachIs R vs bs → ∀ {i : Nat} {v : α}, vs[i]? = some v → ∃ x, bs[i]? = some x ∧ R v x
  | _, _, .nil, _, _, h => by simp at h
  | _, _, .cons h1 h2, i, _, h => by
    cases i with
    | zero => simp at h; rw [← h]; exact ⟨_, rfl, h1⟩
    | succ i => simp at h; exact eachI_at h2 h
/-- sorted(xs, key=f), a state being kept -/
theorem sorted_keyI {s : Shared} {β : Type} {vs : List Value} {bs : List β} {R : Value → β → Prop} {l : Addr} {f : Value} {kw : List (Str × Value)} {b : Bool} {Q : Value → Shared → Prop} {J : Addr → Addr → List Value → Shared → Prop} (k : β → PyData)
    (hl : s.heap.IsList l vs.toArray) (each : PySem.W.EachIs R vs bs) (hal : PySem.W.AllAlike (bs.map k)) (hsk : PySem.W.Sortable (bs.map k)) (hZ : bs.length ≤ sizeLine) (hu : ∀ x ∈ bs, A.units + 2 + (k x).depth < cLine)
    (o1 : argsOk "sorted" ⟨[.ref l], kw⟩) (o2 : ∀ x : Addr, argsOk "list.sort" ⟨[.ref x], kw⟩) (tree : ∀ x : Addr, Builtin.«list.sort» ⟨[.ref x], kw⟩ = ksk_tree x f b)
    (j0 : ∀ (a kS : Addr) (h' : Heap) (tk : Nat), s.heap.objs.size ≤ a → s.heap.objs.size ≤ kS → (∀ (b : Addr) (o : Obj), s.heap.get? b = some o → h'.get? b = some o) → J a kS [] { s with heap := h', toks := tk })
    (off : ∀ (a kS : Addr) (keys : List Value) (s1 : Shared) (h' : Heap) (tk : Nat), s.heap.objs.size ≤ a → s.heap.objs.size ≤ kS → J a kS keys s1 → (∀ (b : Addr) (o : Obj), b ≠ a → b ≠ kS → s1.heap.get? b = some o → h'.get? b = some o) → J a kS keys { s1 with heap := h', toks := tk })
    (turn : ∀ (a kS : Addr) (i : Nat) (v : Value) (x : β) (keys : List Value) (s1 : Shared) (oa ok : Obj), s.heap.objs.size ≤ a → s.heap.objs.size ≤ kS → vs[i]? = some v → bs[i]? = some x → R v x → keys.length = i → J a kS keys s1 → s1.heap.get? a = some oa → s1.heap.get? kS = some ok →
      wpAny (model prog w) A.in1.in1 (call f [v]) (fun u s2 => J a kS (keys ++ [u]) s2 ∧ s2.heap.get? a = some oa ∧ s2.heap.get? kS = some ok) (fun _ _ => False) s1)
    (fin : ∀ (a kS : Addr) (keys : List Value) (s1 : Shared), J a kS keys s1 → keys.length = bs.length → PySem.W.EachIs (fun v k => ∃ as, Reads s1.heap v k as) keys (bs.map k))
    (q : ∀ (a kS : Addr) (keys : List Value) (s1 : Shared) (out : List Value) (c : Nat), s.heap.objs.size ≤ a → J a kS keys s1 → s1.heap.get? a = some (seqObj "list" out.toArray c) →
      out.length = bs.length → PySem.W.EachIs R out (bs.mergeSort (PySem.W.dataLe b k)) → Q (.ref a) s1) :
    wpAny (model prog w) A (call (.builtin "sorted") [.ref l] kw) Q E s := by
  have hlen := each.length
  have fresh : s.heap.get? (s.heap.objs.size + 1) = none := Heap.get?_none_of_le (Nat.le_succ _)
  refine PySem.W.sorted_of_sort hl (by omega) o1 o2 fun E' => ?_
  rw [tree]
  have old : ∀ (b : Addr) (o : Obj), s.heap.get? b = some o → (PySem.W.copyHeap s.heap vs).get? b = some o := fun b o q => PySem.W.copyHeap_old q
  have nb : ∀ {b : Addr} {o : Obj}, s.heap.get? b = some o → b ≠ s.heap.objs.size + 1 := fun q e => by rw [e, fresh] at q; cases q
  have big : ∀ {kS : Addr}, (PySem.W.copyHeap s.heap vs).objs.size ≤ kS → s.heap.objs.size ≤ kS := fun {kS} h => by
    have h1 : s.heap.objs.size + 1 < (PySem.W.copyHeap s.heap vs).objs.size := Heap.lt_size (PySem.W.copyHeap_at s.heap vs)
    omega
  refine keyI_tree (s := { heap := PySem.W.copyHeap s.heap vs, gens := s.gens, drawn := s.drawn, toks := s.toks, os := s.os }) (J := J (s.heap.objs.size + 1)) (kz := bs.map k) (PySem.W.copyHeap_at s.heap vs) (by rw [List.length_map]; omega) (by omega) hal hsk (fun d hd => ?_)
    (fun kS h' tk hk kp => j0 _ kS h' tk (Nat.le_succ _) (big hk) fun b o q => kp b o (nb q) (old b o q)) (fun kS keys s1 h' tk hk => off _ kS keys s1 h' tk (Nat.le_succ _) (big hk)) (fun kS i v keys s1 oa ok hk hv => ?_) (fun kS keys s1 hJ hl => fin _ kS keys s1 hJ (by omega)) fun kS keys s1 out c hJ hl ho ke => ⟨rfl, ?_⟩
  · obtain ⟨x, hx, rfl⟩ := List.mem_map.mp hd
    exact hu x hx
  · obtain ⟨x, hx, hR⟩ := eachI_at each hv
    exact turn _ kS i v x keys s1 oa ok (Nat.le_succ _) (big hk) hv hx hR
  · have eo := PySem.W.keyedOut_each k ke each
    exact q _ kS keys s1 out c (Nat.le_succ _) hJ ho (by have := eo.length; rw [List.length_mergeSort] at this; exact this) eo
end
end Tk

/-! ## a lambda of one parameter, as key= of sorted -/
namespace Tk
open PySem PySem.Spec PyProof.Rows L2 LamX
section
variable {P : Program} {w : World} {K : PySem.W.Frag} {mg : Str → Option Value} {base : Heap}
/-- a lambda without captured names, called -/
theorem lam_call {k : Nat} {N ps : List Str} {qual : Str} {params : Arguments} {body : Expr} {scope : Scope} {pm ctv : Value} {f c' : Addr} {A : Around} {outer : List Env} {s : Shared} {H : Hp} {us : List Value} {vs : List V} {Q : VK}
    (S : FnScope N ps scope) (hf : s.heap.get? f = some (PySem.W.kla_obj "<lambda>" qual params body scope [] pm c' ctv)) (hc : s.heap.CodeRec (.ref c') qual) (hr : Room (k + 1) A) (e0 : Env0 P w K mg base A outer s H)
    (hb : bindArgs (PySem.W.kla_fn "<lambda>" qual params body scope [] pm (.ref c') ctv) ⟨us, []⟩ = pure (ps.zip us)) (r : Vals vs us) (hl : vs.length = ps.length)
    (hbody : Room k (A.deeper (envOfC qual scope s.heap.objs.size f (.ref c'))) → ∃ t : TE, PE (cxOf CX0 P w K mg base N qual scope f (.ref c') A outer s H E0).nox body t ∧ t (start N vs) H Q) :
    codeAny (model P w) A (.call (.ref f) ⟨us, []⟩) (CR CX0 outer P w H s Q E0) s := by
  have lim : s.heap.NoLimit := e0.mod.nolimit.keeps fun b o e => (e0.bs b o e).1
  have hkind : ∀ y ∈ ps.zip us, scope.names.lookup y.1 = some .local ∨ (scope.names.lookup y.1 = some .cell ∧ ((cellsFrom (s.heap.objs.size + 1) scope.names []).lookup y.1).isSome = true) := fun ⟨n, v⟩ hy => by
    rcases S.par n (List.of_mem_zip hy).1 with q | q
    · exact .inl q
    · exact .inr ⟨q, PySem.W.cellsFrom_some _ _ _ (.inl q)⟩
  refine PySem.W.kla_callFunE hr.depth hf rfl S.co S.gen rfl hc ?_
  rw [hb]
  refine wpAny_pure (wpAny_newFunctionEnv_cells S.kind hkind fun env he s1 x => ?_)
  subst he
  refine ⟨lim.keeps x.toInCall.keep, ?_⟩
  obtain ⟨t, ht0, hq⟩ := hbody (hr.deeper _)
  have ht := ht0.nox
  have I : Inv (cxOf CX0 P w K mg base N qual scope f (.ref c') A outer s H E0) [] (start N vs) H s1 := inv_start S hr.hd e0 hl r x
  refine PySem.W.kla_codeExpr (wpAny_mono (ht.run [] s1 (start N vs) H _ I hq) (fun v s' hs => ?_) fun e s' hs => hs)
  obtain ⟨v', H', J, rv, q⟩ := hs
  exact ⟨v', H', J.os, J.bare, J.base, J.hok, rv, q⟩
end
/-! ### heaps but for tables -/
theorem sqL_ext {K : PySem.W.Frag} {H H' : Hp} {a : Addr} {xs : List V} (e : ExtN H H') (h : SqL K H a xs) : SqL K H' a xs := by
  rcases h with (h | ⟨z, h⟩) | h
  · exact .inl (.inl (e _ _ h fun _ c => nomatch c))
  · exact .inl (.inr ⟨z, e _ _ h fun _ c => nomatch c⟩)
  · exact .inr h
theorem ext_same {H H' : Hp} (e : Same H H') : ExtN H H' := fun b o h _ => e b o h
theorem tabs_same {T : List (Addr × Str)} {H H' : Hp} (t : Tabs T H) (e : Same H H') : Tabs T H' := t.ext e
/-- the heap without its tables -/
def noT (H : Hp) : Hp := fun b => match H b with
  | some (.tbl _) => none
  | o => o
theorem noT_get {H : Hp} {b : Addr} {o : HO} (h : H b = some o) (n : ∀ ps, o ≠ .tbl ps) : noT H b = some o := by
  unfold noT
  rw [h]
  cases o with
  | tbl ps => exact absurd rfl (n ps)
  | _ => rfl
theorem noT_le {H : Hp} : Same (noT H) H := fun b o h => by
  unfold noT at h
  split at h
  · cases h
  · exact h
theorem noT_ext {H H' : Hp} (e : ExtN H H') : Same (noT H) H' := fun b o h => by
  refine e b o (noT_le b o h) fun ps c => ?_
  subst c
  unfold noT at h
  split at h
  · cases h
  · rename_i n
    exact n ps h
theorem sqL_noT {K : PySem.W.Frag} {H : Hp} {a : Addr} {xs : List V} (h : SqL K H a xs) : SqL K (noT H) a xs := by
  rcases h with (h | ⟨z, h⟩) | h
  · exact .inl (.inl (noT_get h fun _ c => nomatch c))
  · exact .inl (.inr ⟨z, noT_get h fun _ c => nomatch c⟩)
  · exact .inr h
theorem sqT_noT {K : PySem.W.Frag} {H : Hp} {a : Addr} {xs : List V} (h : SqT K H a xs) : SqT K (noT H) a xs := by
  rcases h with (h | ⟨z, h⟩) | h
  · exact .inl (.inl (noT_get h fun _ c => nomatch c))
  · exact .inl (.inr ⟨z, noT_get h fun _ c => nomatch c⟩)
  · exact .inr h
mutual
theorem dp_noT {K : PySem.W.Frag} {H : Hp} : ∀ (d : PyData) (v : V), Dp K H v d → Dp K (noT H) v d
  | .none, _, h => by cases h; exact .non
  | .bool b, _, h => by cases h; exact .bl b
  | .int i, _, h => by cases h; exact .int i
  | .str x, _, h => by cases h; exact .str x
  | .list ds, _, h => by
    cases h with
    | lst h1 h2 => exact .lst (sqL_noT h1) (dps_noT ds _ h2)
  | .tuple ds, _, h => by
    cases h with
    | tup h1 h2 => exact .tup (sqT_noT h1) (dps_noT ds _ h2)
  | .dict _, _, h => by cases h
theorem dps_noT {K : PySem.W.Frag} {H : Hp} : ∀ (ds : List PyData) (vs : List V), DpAll K H vs ds → DpAll K (noT H) vs ds
  | [], _, h => by cases h; exact .nil
  | d :: ds, _, h => by
    cases h with
    | cons h1 h2 => exact .cons (dp_noT d _ h1) (dps_noT ds _ h2)
end
/-! ### the rule -/
/-- under way in the sort -/
def KeyJ (X : Cx) (H1 : Hp) (sc : Shared) (kz : List PyData) (a kS : Addr) (keys : List Value) (s' : Shared) : Prop :=
  ∃ (H' : Hp) (kvs : List V), s'.os = sc.os ∧ AllBare s'.gens ∧ Un (frs X.stack) [] H1 H' sc.heap s'.heap ∧ HOk X.prog X.w H' s'.heap ∧ Same H1 H' ∧ H' a = none ∧ H' kS = none ∧ Vals kvs keys ∧ ∀ (i : Nat) (v : V), kvs[i]? = some v → ∃ d, kz[i]? = some d ∧ Dp X.K H' v d
section
variable {X : Cx} {pins : List (Addr × Obj)} {σ : L2.St} {H H' : Hp} {s s' : Shared}
theorem no_frs (I : Inv X pins σ H s) {a : Addr} (h : s.heap.objs.size ≤ a) : a ∉ frs X.stack := fun z => by
  rcases List.mem_cons.mp (I.stkSub _ z) with e | e
  · have h1 := I.lt
    rw [← e] at h1
    exact Nat.lt_irrefl _ (Nat.lt_of_lt_of_le h1 h)
  · exact I.nofs h e
theorem un_off {fs : List Addr} {h h1 h2 : Heap} {a k : Addr} (un : Un fs [] H H' h h1) (ha : h.objs.size ≤ a) (hk : h.objs.size ≤ k) (c : ∀ (b : Addr) (o : Obj), b ≠ a → b ≠ k → h1.get? b = some o → h2.get? b = some o) : Un fs [] H H' h h2 := by
  have na : ∀ {b : Addr} {o : Obj}, h.get? b = some o → b ≠ a ∧ b ≠ k := fun {b o} e => ⟨Nat.ne_of_lt (Nat.lt_of_lt_of_le (Heap.lt_size e) ha), Nat.ne_of_lt (Nat.lt_of_lt_of_le (Heap.lt_size e) hk)⟩
  refine ⟨fun b o e n hb hx => c b o (na e).1 (na e).2 (un.keep b o e n hb hx), fun b o e n hb hx => ?_, un.free, fun b o e hx => ?_, un.tups, un.frzs, un.tbls⟩
  · obtain ⟨sl, q⟩ := un.slot b o e n hb hx
    exact ⟨sl, c _ _ (na e).1 (na e).2 q⟩
  · obtain ⟨o', q⟩ := un.there b o e hx
    exact ⟨o', c _ _ (na e).1 (na e).2 q⟩
theorem hok_off {P : Program} {w : World} {h1 h2 : Heap} {a k : Addr} (hok : HOk P w H' h1) (ha : H' a = none) (hk : H' k = none) (c : ∀ (b : Addr) (o : Obj), b ≠ a → b ≠ k → h1.get? b = some o → h2.get? b = some o) : HOk P w H' h2 := fun b o e => by
  have ne : ∀ {d : Addr} {u : HO}, H' d = some u → d ≠ a ∧ d ≠ k := fun {d u} q => ⟨(fun z => by rw [z, ha] at q; cases q), (fun z => by rw [z, hk] at q; cases q)⟩
  refine (hok b o e).stay (fun d v hd q => ?_) (fun _ q => q) fun _ _ q => q
  rcases hd with z | z
  · rw [z]
    rw [z] at q
    exact c _ _ (ne e).1 (ne e).2 q
  · exact c _ _ (ne z).1 (ne z).2 q
theorem keyJ_off {kz : List PyData} {a kS : Addr} {keys : List Value} {sc s1 : Shared} {h' : Heap} {tk : Nat} (ha : sc.heap.objs.size ≤ a) (hk : sc.heap.objs.size ≤ kS) (J : KeyJ X H sc kz a kS keys s1) (c : ∀ (b : Addr) (o : Obj), b ≠ a → b ≠ kS → s1.heap.get? b = some o → h'.get? b = some o) : KeyJ X H sc kz a kS keys { s1 with heap := h', toks := tk } := by
  obtain ⟨H', kvs, j1, j2, j3, j4, j5, j6, j7, j8, j9⟩ := J
  exact ⟨H', kvs, j1, j2, un_off j3 ha hk c, hok_off j4 j6 j7 c, j5, j6, j7, j8, j9⟩
theorem vals_atLm {xs : List V} {us : List Value} (h : Vals xs us) : ∀ {i : Nat} {u : Value}, us[i]? = some u → ∃ x, xs[i]? = some x ∧ RelV x u := by
  induction h with
  | nil => intro i u h; simp at h
  | cons h1 _ ih =>
    intro i u h
    cases i with
    | zero => simp at h; rw [← h]; exact ⟨_, rfl, h1⟩
    | succ i => simp at h; exact ih h
theorem vals_snocLm {xs : List V} {us : List Value} {x : V} {u : Value} (h : Vals xs us) (r : RelV x u) : Vals (xs ++ [x]) (us ++ [u]) := by
  induction h with
  | nil => exact .cons r .nil
  | cons h1 _ ih => exact .cons h1 ih
theorem vals_zipLm {xs : List V} {us : List Value} (h : Vals xs us) : ∀ {kz : List PyData}, kz.length = xs.length → PySem.W.EachIs (fun u (p : V × PyData) => RelV p.1 u) us (xs.zip kz) := by
  induction h with
  | nil =>
    intro kz e
    cases kz with
    | nil => exact .nil
    | cons _ _ => simp at e
  | cons h1 _ ih =>
    intro kz e
    cases kz with
    | nil => simp at e
    | cons d kz => exact .cons h1 (ih (by simpa using e))
theorem each_valsLm {β : Type} {ps : List (V × β)} {us : List Value} (h : PySem.W.EachIs (fun u (p : V × β) => RelV p.1 u) us ps) : Vals (ps.map Prod.fst) us := by
  induction h with
  | nil => exact .nil
  | cons h1 _ ih => exact .cons h1 ih
theorem zip_sndLm : ∀ {xs : List V} {kz : List PyData}, kz.length = xs.length → (xs.zip kz).map Prod.snd = kz
  | [], [], _ => rfl
  | [], _ :: _, h => by simp at h
  | _ :: _, [], h => by simp at h
  | _ :: xs, _ :: kz, h => by
    rw [List.zip_cons_cons, List.map_cons, zip_sndLm (by simpa using h)]
theorem zip_atLm {xs : List V} {kz : List PyData} {i : Nat} {p : V × PyData} (h : (xs.zip kz)[i]? = some p) : xs[i]? = some p.1 ∧ kz[i]? = some p.2 := by
  rw [List.getElem?_zip_eq_some] at h
  exact h
theorem reads_eachLm (I : Inv X pins σ H s) {kvs : List V} {keys : List Value} (h : Vals kvs keys) : ∀ {kz : List PyData}, kvs.length = kz.length → (∀ (i : Nat) (v : V), kvs[i]? = some v → ∃ d, kz[i]? = some d ∧ Dp X.K H v d) → PySem.W.EachIs (fun v k => ∃ as, Reads s.heap v k as) keys kz := by
  induction h with
  | nil =>
    intro kz e q
    cases kz with
    | nil => exact .nil
    | cons _ _ => simp at e
  | cons h1 _ ih =>
    intro kz e q
    cases kz with
    | nil => simp at e
    | cons d kz =>
      refine .cons ?_ (ih (by simpa using e) fun i v hv => by simpa using q (i + 1) v (by simpa using hv))
      obtain ⟨d', e, hd⟩ := q 0 _ rfl
      simp at e
      subst e
      exact Dp.reads I d _ _ hd h1
def tSortLam (K : PySem.W.Frag) (T : List (Addr × Str)) (bs : V → Hp → VK → Prop) (ta : L2.TA) : TE := fun σ H Q => ta σ H fun vs H0 => Tabs T H0 ∧ ∃ (p : Addr) (xs : List V), vs = [.ref p] ∧ SqL K H0 p xs ∧
  ∀ H1, ExtN H0 H1 → Tabs T H1 → SqL K H1 p xs → ∃ kz : List PyData, kz.length = xs.length ∧ PySem.W.AllAlike kz ∧ PySem.W.Sortable kz ∧ (∀ d ∈ kz, d.depth ≤ 16) ∧
    (∀ (i : Nat) (x : V) (d : PyData) (H' : Hp), xs[i]? = some x → kz[i]? = some d → Same H1 H' → bs x H' fun v H'' => Same H' H'' ∧ Dp K H'' v d) ∧
    ∀ (H' : Hp) (r : Addr), Same H1 H' → H1 r = none → H' r = some (.lst (((xs.zip kz).mergeSort (PySem.W.dataLe false Prod.snd)).map Prod.fst)) → Q (.ref r) H'
/-- sorted(e, key=lambda x: body) -/
theorem pe_sortLam {T : List (Addr × Str)} {N : List Str} {y : Str} {e : Expr} {c P : Addr} {k : Nat} {params : Arguments} {body : Expr} {scope : Scope} {bs : V → Hp → VK → Prop} {ta : L2.TA} {p lpos kpos pos : Pos}
    (hg : Gl X "sorted") (hm : X.mg "sorted" = none) (ha : PA X [e] ta) (TB : TabB X.base X.mg c P) (hcode : X.env.code = .ref c) (hmT : (P, X.env.qual ++ "<lambda>") ∈ T) (hu : ∀ q ∈ T, q.1 = P → q.2 = X.env.qual ++ "<lambda>")
    (hr : Room (k + 3) X.A) (S : FnScope N [y] scope) (hun : X.A.units + 32 < cLine) (hdef : defaultsOf params X.env = ([], [])) (hcl : cloFrom X.env.cells scope.names [] = [])
    (hbind : ∀ (q : Str) (pm cv ctv u : Value), bindArgs (PySem.W.kla_fn "<lambda>" q params body scope [] pm cv ctv) ⟨[u], []⟩ = pure [(y, u)])
    (hbody : ∀ (A : Around) (outer : List Env) (s : Shared) (H : Hp) (f c' : Addr) (x : V) (Q : VK), Room k (A.deeper (envOfC (X.env.qual ++ "<lambda>") scope s.heap.objs.size f (.ref c'))) → bs x H Q →
      ∃ t : TE, PE (cxOf CX0 X.prog X.w X.K X.mg X.base N (X.env.qual ++ "<lambda>") scope f (.ref c') A outer s H E0).nox body t ∧ t (start N [x]) H Q)
    (he : backTo pos (starEach [e] X.env) = (false, eval e X.env) :: backTo pos (starEach [] X.env) := by rfl) (hpl : (backTo pos (starEach [e] X.env)).any (·.1) = false := by rfl) :
    PE X (.Call (.Name "sorted" p) [e] [⟨some "key", .Lambda params body scope lpos, kpos⟩] pos) (tSortLam X.K T bs ta) := by
  refine ⟨fun pins s σ H Q I h => ?_⟩
  refine wpAny_Call_Name_kw (ld_blt I hg hm PyProof.Rows.boot_sorted ?_ (by decide) (by decide))
  refine PyProof.Rows.callWith_kw (thn (ha.run pos pins s σ H _ I h) fun us s1 ⟨vs, H1, I1, r1, q1⟩ => ?_) he hpl (by rfl) (by rfl)
  obtain ⟨hT, pl, xs, rfl, hxs, q1⟩ := q1
  obtain rfl := Vals.ref1 r1
  refine PyProof.Rows.kws_cons (lam_make2 (T := T) I1 TB hcode hmT hu hT hdef (fun z hz e => absurd e (S.nofree z hz)) fun f c' pm ctv H2 s2 I2 eN T2 hf hfn hfr hco => PyProof.Rows.kws_nil ?_)
  rw [hcl] at hf
  have hx2 := sqL_ext eN hxs
  obtain ⟨kz, hlen, hal, hsk, hdp, hkey, q⟩ := q1 H2 eN T2 hx2
  obtain ⟨its, rv, hpl2, hz⟩ := I2.list hx2
  have hzs := zip_sndLm hlen
  show wpAny _ _ (call (.builtin "sorted") [.ref pl] [(Str.ofString "key", .ref f)]) _ _ s2
  refine sorted_keyI (s := s2) (bs := xs.zip kz) (R := fun u (p : V × PyData) => RelV p.1 u) (J := KeyJ X H2 s2 kz) Prod.snd hpl2.isList (vals_zipLm (kz := kz) rv hlen) (by rw [hzs]; exact hal) (by rw [hzs]; exact hsk) (by rw [List.length_zip]; omega) (fun x hx => ?_)
    (ksk_s1 _ _) (fun _ => ksk_l1 _ _) (fun x => ksk_t1 f x) (fun a kS h' tk ga gk kp => ?_) (fun a kS keys s3 h' tk ga gk J c => keyJ_off ga gk J c) (fun a kS i v x keys s3 oa ok ga gk hv hx hR hi J na nk => ?_) (fun a kS keys s3 J hl => ?_) (fun a kS keys s3 out cc ga J ho hol hO => ?_)
  · have := hdp x.2 (by rw [← hzs]; exact List.mem_map_of_mem hx)
    omega
  · exact ⟨H2, [], rfl, I2.bare, Un.kept kp, I2.hok.kept kp, fun _ _ h => h, I2.hok.fresh ga, I2.hok.fresh gk, .nil, fun i v h => by simp at h⟩
  · obtain ⟨H3, kvs, j1, j2, j3, j4, j5, j6, j7, j8, j9⟩ := J
    have I3 : Inv X pins σ H3 s3 := I2.call' (ch := []) j1 j3 j4 j2 (by simp)
    obtain ⟨hx1, hx3⟩ := zip_atLm hx
    have hf3 : s3.heap.get? f = some (PySem.W.kla_obj "<lambda>" (X.env.qual ++ "<lambda>") params body scope [] pm c' ctv) := j3.keep f _ hf hfn hfr (by simp)
    obtain ⟨⟨oc, vc, tc, hoc, hdc, hvc⟩, _, _⟩ := I3.hok c' _ (j5 _ _ hco)
    have rc := lam_call (Q := fun v H'' => Same H3 H'' ∧ Dp X.K H'' v x.2) S hf3 ⟨c', oc, vc, tc, rfl, hoc, hdc, hvc⟩ hr.in1.in1 (I3.env0.in1.in1) (us := [v]) (vs := [x.1]) (hbind _ _ _ _ _) (.cons hR .nil) rfl fun hr' => hbody _ _ _ _ _ _ _ _ hr' (hkey i x.1 x.2 H3 hx1 hx3 j5)
    refine wpAny_call (codeAny_mono rc fun r s4 hq => ?_)
    cases r with
    | error er => exact (show False from hq).elim
    | ok fl =>
      cases fl with
      | next => exact (show False from hq).elim
      | brk => exact (show False from hq).elim
      | cont => exact (show False from hq).elim
      | ret u =>
        obtain ⟨y4, H4, os4, bare4, un4, hok4, rv4, s34, d4⟩ := hq
        have nofa := no_frs I2 ga
        have nofk := no_frs I2 gk
        refine ⟨⟨H4, kvs ++ [y4], os4.trans j1, bare4, j3.trans un4, hok4, fun b o h => s34 _ _ (j5 _ _ h), un4.free _ _ na j6 (by simp), un4.free _ _ nk j7 (by simp), vals_snocLm j8 rv4, fun m z hm => ?_⟩, un4.keep _ _ na j6 nofa (by simp), un4.keep _ _ nk j7 nofk (by simp)⟩
        have lk : kvs.length = i := by rw [j8.length]; exact hi
        by_cases cm : m < kvs.length
        · rw [List.getElem?_append_left cm] at hm
          obtain ⟨d, e1, e2⟩ := j9 m z hm
          exact ⟨d, e1, dp_s e2 s34⟩
        · rw [List.getElem?_append_right (by omega)] at hm
          have e0 : m - kvs.length = 0 := by
            cases e : m - kvs.length with
            | zero => rfl
            | succ n => rw [e] at hm; simp at hm
          rw [e0] at hm
          simp at hm
          have em : m = i := by omega
          subst em
          exact ⟨x.2, hx3, hm ▸ d4⟩
  · obtain ⟨H3, kvs, j1, j2, j3, j4, j5, j6, j7, j8, j9⟩ := J
    have I3 : Inv X pins σ H3 s3 := I2.call' (ch := []) j1 j3 j4 j2 (by simp)
    rw [hzs]
    refine reads_eachLm I3 j8 ?_ j9
    rw [j8.length, hl, List.length_zip]
    omega
  · obtain ⟨H3, kvs, j1, j2, j3, j4, j5, j6, j7, j8, j9⟩ := J
    have lo : (((xs.zip kz).mergeSort (PySem.W.dataLe false Prod.snd)).map Prod.fst).length ≤ sizeLine := by
      rw [List.length_map, List.length_mergeSort, List.length_zip]
      omega
    have I4 := Inv.drained (ex := []) (S := a) (out := ((xs.zip kz).mergeSort (PySem.W.dataLe false Prod.snd)).map Prod.fst) I2 ga lo (acc := out.toArray) (c := cc) ho (by rw [List.toList_toArray]; exact each_valsLm hO) ExOk.nil j1 j2 j3 j4 j6
    exact ⟨.ref a, _, I4, rfl, q _ a (fun b o h => by rw [upd_ne (ne_of_none h (I2.hok.fresh ga))]; exact j5 _ _ h) (I2.hok.fresh ga) upd_same⟩
end
/-! ### the end of a law with one such lambda, in the def nm -/
theorem walkT {l : PySem.W.OpenLaw} {n k : Nat} {q : Program} {loose : List Str} {XP : (Str → Option Value) → Heap → Prop} {YP : World → Heap → Prop} {d : DefRec} {K : Params → PySem.W.Frag} {x nm : Str} {sp : World → Addr → Sp}
    (hn : l.most = some n) (hn2 : n ≤ sizeLine) (hdf : d.params.defaults = []) (hr : Room k callerA) (hrec : ((recsOf q).any fun e => e.name == nm) = true) (hY : ∀ (w : World) (h : Heap), YP w h → (K w.params).In h)
    (F : ∀ (w : World) (mg : Str → Option Value) (fa : Addr) (h : Heap), YP w h → (K w.params).In h → h.Ns mainGlobals mg → mg d.name = some (.ref fa) →
      ∃ (fs c P : Addr) (o : Obj) (fS : FuncData) (ec : Value) (dc : Option Addr) (vs : Array Value) (sl : Array (Option Value)), mg nm = some (.ref fs) ∧ (K w.params).lookup fs = some o ∧ o.data = .func fS ∧ fS.code = .ref c ∧ (K w.params).lookup c = some ⟨ec, dc, .fields vs, sl⟩ ∧ vs[11]? = some (.ref P) ∧ (K w.params).lookup P = none ∧
      ∃ fd : FuncData, (∀ (s : Shared) (u : Value), BindsTo s fd ⟨[u], []⟩ [(x, u)]) ∧ ∀ base : Heap, (K w.params).In base → base.Ns mainGlobals mg → TabB base mg c P → FnOk l.prog w (K w.params) mg base CX0 k fa fd [x] (sp w P))
    (keeps : ∀ (w : World) (H : Hp) (a P : Addr) (ns : List Int), ns.length ≤ n → (∀ z ∈ ns, Builtin.Int.intBits z ≤ 1048576) → H P = some (.tbl #[]) → SqL (K w.params) H a (ns.map V.int) → sp w P [.ref a] H (fun v _ => v = .bl true) fun _ _ _ => False) :
    PySem.W.WalkO q loose XP YP l.row.toRowW d [] (fun f vs => PySem.call f vs) := by
  refine Att.attach_callB hn hdf fun w s₀ s₁ mg mb fa o pm cd doc a vs ns G Y ho hd hcd hmg hobj hints hlen hbits hg => ?_
  have KX := hY w _ Y
  obtain ⟨fs, c, P, oS, fS, ec, dc, vc, sl, k0, k1, k2, k3, k4, k5, k6, fd, hb, hF⟩ := F w mg fa _ Y KX G.T.g hmg
  obtain ⟨dL, hm, hn1⟩ := List.any_eq_true.mp hrec
  have hnm : dL.name = nm := beq_iff_eq.mp hn1
  obtain ⟨a', o', fd', c', P', h1, h2, h3, h4, h5, h6⟩ := G.T.tab dL hm
  rw [hnm, k0] at h1
  cases h1
  have g1 := KX _ _ k1
  rw [g1] at h2
  cases h2
  rw [k2] at h3
  cases h3
  rw [k3] at h4
  cases h4
  have CH := PySem.W.CodeHd.of h5 h6
  obtain ⟨⟨oc, vc', e1, _, e3, e4⟩, hP⟩ := h6
  have g2 := KX _ _ k4
  rw [g2] at e1
  cases e1
  cases e3
  rw [k5] at e4
  cases e4
  refine law_callTs (cs := [(c, P)]) (CX := CX0) KX G.T.g G.T.b G.T.builtins G.T.nolimit hg (by simpa using hP) (by simpa using k6) (by simpa using CH) G.T.bmain hobj hints (Nat.le_trans hlen hn2) hr (fun base b1 b2 b3 => hF base b1 b2 (b3 (c, P) (by simp))) hb (fun H hH hS => keeps w H a P ns hlen hbits (hH (c, P) (by simp)) hS) fun H e s' h => ?_
  exact h.elim
end Tk

namespace Tk
open PySem PySem.Spec PyProof.Rows L2 LamX
abbrev sSortedPl : Stmt := top 46
/-! ## plans sorted by their arrows and ties -/
abbrev qLam : Str := "sorted_plans.<locals>.<lambda>"
theorem q_lam : (("sorted_plans" ++ ".<locals>." : Str) ++ "<lambda>" : Str) = qLam := by decide +kernel
abbrev tLams (Pt : Addr) : List (Addr × Str) := [(Pt, qLam)]
theorem ch_srt {n : Nat} (h : n ≤ 4) {c : Ch} (hc : c ∈ chAll n) : SrtPs c.1 ∧ c.1.Nodup ∧ SrtPs c.2 ∧ c.2.Nodup := by
  have key : ∀ n ∈ [0, 1, 2, 3, 4], ∀ c ∈ chAll n, (c.1.Pairwise fun p q => SrtO.lexB q p = false) ∧ c.1.Nodup ∧ (c.2.Pairwise fun p q => SrtO.lexB q p = false) ∧ c.2.Nodup := by decide +kernel
  exact key n (by simp; omega) c hc
/-- a plan's own lists are those of its choice -/
theorem plan_ch {K : PySem.W.Frag} {C : Addr} {n : Nat} {G : Hp} {z : Addr} {as ts : List (Int × Int)} {c : Ch} (n4 : n ≤ 4) (hc : c ∈ chAll n) (P : PlanAt K C G z n as ts) (pa : as.Perm c.1) (pt : ts.Perm c.2) : c = (as, ts) := by
  obtain ⟨s1, d1, s2, d2⟩ := ch_srt n4 hc
  obtain ⟨_, _, _, _, _, _, sa, st⟩ := P
  have e1 : as = c.1 := pairs_one sa (pa.nodup_iff.mpr d1) s1 d1 fun p => pa.mem_iff
  have e2 : ts = c.2 := pairs_one st (pt.nodup_iff.mpr d2) s2 d2 fun p => pt.mem_iff
  rw [e1, e2]
def spSortedPl (K : PySem.W.Frag) (C Pt : Addr) : Sp := fun vs H Q _ => ∃ (p : Addr) (n : Nat) (xs : List V) (cs : List Ch), vs = [.ref p] ∧ SqL K H p xs ∧ PlsP K C n H xs cs ∧ (∀ c ∈ cs, c ∈ chAll n) ∧ n ≤ 4 ∧ Tabs (tLams Pt) H ∧
  ∀ (H' : Hp) (r : Addr) (zs : List V) (ds : List Ch), Same (noT H) H' → Tabs (tLams Pt) H' → noT H r = none → H' r = some (.lst zs) → PlsP K C n H' zs ds → ds.Perm cs → ds.Pairwise chLe → Q (.ref r) H'
theorem pls_noT {K : PySem.W.Frag} {C : Addr} {n : Nat} {G : Hp} : ∀ {xs : List V} {cs : List Ch}, PlsP K C n G xs cs → PlsP K C n (noT G) xs cs
  | [], [], _ => trivial
  | _ :: _, _ :: _, ⟨⟨z, as, ts, h1, ⟨⟨dx, a, t, hp, ⟨us, ha, da⟩, ⟨ws, ht, dt⟩⟩, g1, g2, g3, g4, g5, g6, g7⟩, h3⟩, h⟩ =>
    ⟨⟨z, as, ts, h1, ⟨⟨dx, a, t, noT_get hp (fun _ c => nomatch c), ⟨us, sqL_noT ha, dps_noT _ _ da⟩, ⟨ws, sqL_noT ht, dps_noT _ _ dt⟩⟩, g1, g2, g3, g4, g5, g6, g7⟩, h3⟩, pls_noT h⟩
  | [], _ :: _, h => h.elim
  | _ :: _, [], h => h.elim
/-- what a plan's key promises -/
def bsKey (K : PySem.W.Frag) (C : Addr) : V → Hp → VK → Prop := fun x H Q => ∃ (z : Addr) (n : Nat) (as ts : List (Int × Int)), x = .ref z ∧ PlanAt K C H z n as ts ∧ ∀ (H' : Hp) (t : Addr), Same H H' → Dp K H' (.ref t) (dCh (as, ts)) → Q (.ref t) H'
theorem pls_ofZip {K : PySem.W.Frag} {C : Addr} {n : Nat} {G : Hp} : ∀ {bs : List (V × Ch)}, (∀ b ∈ bs, ∃ (z : Addr) (as ts : List (Int × Int)), b.1 = .ref z ∧ PlanAt K C G z n as ts ∧ as.Perm b.2.1 ∧ ts.Perm b.2.2) → PlsP K C n G (bs.map Prod.fst) (bs.map Prod.snd)
  | [], _ => trivial
  | b :: bs, h => ⟨h b (List.mem_cons_self ..), pls_ofZip fun c hc => h c (List.mem_cons_of_mem _ hc)⟩
theorem zip_mapR {α β γ : Type} (f : β → γ) : ∀ (xs : List α) (ys : List β), xs.zip (ys.map f) = (xs.zip ys).map fun p => (p.1, f p.2)
  | [], _ => by simp
  | _ :: _, [] => by simp
  | x :: xs, y :: ys => by simp [zip_mapR f xs ys]
theorem zip_fst2 {α β : Type} : ∀ {xs : List α} {ys : List β}, xs.length = ys.length → (xs.zip ys).map Prod.fst = xs ∧ (xs.zip ys).map Prod.snd = ys
  | [], [], _ => ⟨rfl, rfl⟩
  | [], _ :: _, h => by simp at h
  | _ :: _, [], h => by simp at h
  | x :: xs, y :: ys, h => by
    obtain ⟨a, b⟩ := zip_fst2 (xs := xs) (ys := ys) (by simpa using h)
    simp [a, b]
theorem sort_zipCh (xs : List V) (cs : List Ch) : ((xs.zip (cs.map dCh)).mergeSort (PySem.W.dataLe false Prod.snd)).map Prod.fst = ((xs.zip cs).mergeSort fun p q => decide (chLe p.2 q.2)).map Prod.fst := by
  rw [zip_mapR]
  have e := List.map_mergeSort (r := fun p q : V × Ch => decide (chLe p.2 q.2)) (s := PySem.W.dataLe false Prod.snd) (f := fun p : V × Ch => (p.1, dCh p.2)) (l := xs.zip cs) fun a _ b _ =>
    (congrFun (congrFun (dataLe_ch (fun p : V × Ch => p.2)) a) b).symm
  rw [← e, List.map_map]
  rfl
section
variable {P : Program} {w : World} {K : PySem.W.Frag} {mg : Str → Option Value} {base : Heap}
abbrev scLam : Scope := match defBody sSortedPl with
  | [.Return (some (.Call _ _ [⟨_, .Lambda _ _ sc _, _⟩] _)) _] => sc
  | _ => defScope sSortedPl
theorem sc_sortedPl : FnScope ["plans"] ["plans"] (defScope sSortedPl) := ⟨rfl, rfl, rfl, by decide +kernel, rfl, by decide +kernel, by decide +kernel⟩
theorem sc_lamPl : FnScope ["plan"] ["plan"] scLam := ⟨rfl, rfl, rfl, by decide +kernel, rfl, by decide +kernel, by decide +kernel⟩
theorem ok_sortedPl {f c Pt C pW gW fA fT : Addr} {fdW fdA fdT : FuncData} {kV dc pm ct oc : Value} {an od : Option Addr} {osl : Array (Option Value)}
    (lk : K.lookup f = some ⟨oc, od, .func (PySem.W.fnOf "sorted_plans" "sorted_plans" (defArgs sSortedPl) (defBody sSortedPl) (defScope sSortedPl) .none kV dc pm an (.ref c) ct), osl⟩) (hcd : PySem.W.codeIn K (.ref c) "sorted_plans" = true)
    (M : PlM K mg C pW gW fA fT fdW fdA fdT) (TB : TabB base mg c Pt) (B : Bl mg) : FnOk P w K mg base CX0 7 f (PySem.W.fnOf "sorted_plans" "sorted_plans" (defArgs sSortedPl) (defBody sSortedPl) (defScope sSortedPl) .none kV dc pm an (.ref c) ct) ["plans"] (spSortedPl K C Pt) := by
  have GA : FnOk P w K mg base CX0 1 fA fdA ["self"] (spArr K C) := ok_arrows M.FA M.c B
  have GT : FnOk P w K mg base CX0 1 fT fdT ["self"] (spTies K C) := ok_ties M.FT M.c B
  refine fn_of (N := ["plans"]) lk hcd sc_sortedPl (fun vs H Q E h => ?_) (fun A outer s H vs Q E hr h => ?_)
  · obtain ⟨p, n, xs, cs, rfl, _⟩ := h
    rfl
  · obtain ⟨p, n, xs, cs, rfl, hp, hpl, hin, n4, hT, q⟩ := h
    have hu := hr.units
    have hr4 : Room 4 _ := hr.mono (by decide)
    refine ⟨_, PSs.nox (pss_one (ps_ret (pe_sortLam (k := 1) (y := "plan") (N := ["plan"]) (scope := scLam) (T := tLams Pt) (bs := bsKey K C) rfl B.sorted (pa_cons (pv 0) pa_nil) TB rfl (List.mem_singleton.mpr (Prod.ext rfl q_lam)) (by intro z hz _; rw [List.mem_singleton.mp hz]; exact q_lam.symm) hr4 sc_lamPl (Nat.lt_of_le_of_lt (Nat.add_le_add_left (show 32 ≤ 64 by decide) _) hr.units) rfl rfl (fun _ _ _ _ _ => rfl) ?_))), ?_⟩
    · intro A2 outer2 s2 H2 f2 c2 x Q2 hr2 hx
      obtain ⟨z, m, as, ts, rfl, PZ, q2⟩ := hx
      refine ⟨_, pe_tup (pa_cons (pe_meth0 (pv 0) M.c.cl M.mA GA hr2 M.bA .nil pass0) (pa_cons (pe_meth0 (pv 0) M.c.cl M.mT GT hr2 M.bT .nil pass0) pa_nil)), ?_⟩
      obtain ⟨⟨dx, a0, t0, hz, _⟩, _⟩ := id PZ
      have pfn : ∀ {k : Str}, ¬ k = "_size" → ¬ k = "_arrows" → ¬ k = "_ties" → (pf m a0 t0).lookup k = none := fun h1 h2 h3 => pf_no _ _ _ h1 h2 h3
      refine ⟨_, rfl, z, dx, _, rfl, hz, pfn (by decide +kernel) (by decide +kernel) (by decide +kernel), z, m, as, ts, rfl, PZ, fun H3 l3 s3 hl3 ⟨u3, hu3, d3⟩ => ?_⟩
      refine ⟨_, rfl, z, dx, _, rfl, s3 _ _ hz, pfn (by decide +kernel) (by decide +kernel) (by decide +kernel), z, m, as, ts, rfl, plan_s PZ s3, fun H4 l4 s4 hl4 ⟨u4, hu4, d4⟩ => ?_⟩
      refine ⟨szle (by show 2 ≤ 100000; decide), fun t ht => ?_⟩
      have s5 := same_new (o := .tup [V.ref l3, V.ref l4]) ht
      refine q2 _ t ((s3.trans s4).trans s5) ?_
      exact .tup (st_of upd_same) (.cons (.lst (sl_of (s5 _ _ (s4 _ _ hu3))) (dps_s d3 (s4.trans s5))) (.cons (.lst (sl_of (s5 _ _ hu4)) (dps_s d4 s5)) .nil))
    · refine ⟨_, rfl, hT, p, xs, rfl, hp, fun H1 eN T1 hx1 => ?_⟩
      have sN : Same (noT H) H1 := noT_ext eN
      have pl1 := pls_s sN (pls_noT hpl)
      have ll := pls_len hpl
      refine ⟨cs.map dCh, by rw [List.length_map, ll], PySem.W.AllAlike.of fun a b => alike_ch a b, PySem.W.Sortable.tuples fun b => ⟨_, _, rfl⟩, fun d hd => ?_, fun i x d H2 hx hd s2 => ?_, fun H2 r s2 hr hr2 => ?_⟩
      · obtain ⟨c, _, rfl⟩ := List.mem_map.mp hd
        have := depth_ch c
        omega
      · obtain ⟨c, z, as, ts, hc, rfl, PZ, pa, pt⟩ := pls_at pl1 hx
        rw [List.getElem?_map, hc] at hd
        have e := plan_ch n4 (hin c (List.mem_of_getElem? hc)) PZ pa pt
        subst e
        cases hd
        exact ⟨z, n, as, ts, rfl, plan_s PZ s2, fun H3 t s3 h3 => ⟨s3, h3⟩⟩
      · rw [sort_zipCh] at hr2
        obtain ⟨z1, z2⟩ := zip_fst2 ll
        have pm : ((xs.zip cs).mergeSort fun p q => decide (chLe p.2 q.2)).Perm (xs.zip cs) := List.mergeSort_perm ..
        have srt := ch_sorted (bs := xs.zip cs)
        have fr : noT H r = none := by
          cases e : noT H r with
          | none => rfl
          | some o =>
            have := sN r o e
            rw [hr] at this
            cases this
        refine q H2 r _ (((xs.zip cs).mergeSort fun p q => decide (chLe p.2 q.2)).map Prod.snd) (fun b o h => s2 _ _ (sN _ _ h)) (tabs_same T1 s2) fr hr2 (pls_ofZip fun b hb => ?_) ?_ ?_
        · obtain ⟨i, hi⟩ := List.getElem?_of_mem (pm.mem_iff.mp hb)
          rw [List.getElem?_zip_eq_some] at hi
          obtain ⟨c, z, as, ts, hc, e, PZ, pa, pt⟩ := pls_at pl1 hi.1
          rw [hi.2] at hc
          cases hc
          exact ⟨z, as, ts, e, plan_s PZ s2, pa, pt⟩
        · have := pm.map Prod.snd
          rw [z2] at this
          exact this
        · rw [List.pairwise_map]
          exact srt.imp fun h => of_decide_eq_true h
end
end Tk

namespace Tk
open PySem PySem.Spec PyProof.Rows L2 LamX
abbrev sFullPl : Stmt := top 47
theorem noT_mono {H H' : Hp} (e : Same H H') : Same (noT H) (noT H') := fun b o h => by
  refine noT_get (e _ _ (noT_le _ _ h)) fun ps c => ?_
  subst c
  unfold noT at h
  split at h
  · cases h
  · rename_i n
    exact n ps h
theorem noT_free {H H' : Hp} {r : Addr} (e : Same (noT H) H') (h : H' r = none) : noT H r = none := by
  cases c : noT H r with
  | none => rfl
  | some o =>
    have := e r o c
    rw [h] at this
    cases this
def spFullPl (K : PySem.W.Frag) (C Pt : Addr) : Sp := fun vs H Q _ => ∃ n : Nat, vs = [.int n] ∧ n ≤ 4 ∧ Tabs (tLams Pt) H ∧
  ∀ (H' : Hp) (r : Addr) (zs : List V) (ds : List Ch), Same (noT H) H' → Tabs (tLams Pt) H' → noT H r = none → H' r = some (.lst zs) → PlsP K C n H' zs ds → ds.Perm ((chAll n).filter fun c => plainC n c.1 c.2) → ds.Pairwise chLe → Q (.ref r) H'
section
variable {P : Program} {w : World} {K : PySem.W.Frag} {mg : Str → Option Value} {base : Heap}
theorem sc_fullPl : FnScope ["size"] ["size"] (defScope sFullPl) := ⟨rfl, rfl, rfl, by decide +kernel, rfl, by decide +kernel, by decide +kernel⟩
theorem ok_fullPl {f f1 f2 f3 fI C Pt pW gW fA fT : Addr} {fd fd1 fd2 fd3 dI fdW fdA fdT : FuncData} {tk tk2 : Tok} (F : Fun K "full_plans" "full_plans" sFullPl f fd) (M : PlM K mg C pW gW fA fT fdW fdA fdT)
    (D1 : Df K mg "check_size" sChkSize ["size"] f1 fd1) (G1 : FnOk P w K mg base CX0 4 f1 fd1 ["size"] spChkSize) (D2 : Df K mg "filled" sFilledV ["plan", "most"] f2 fd2) (G2 : FnOk P w K mg base CX0 11 f2 fd2 ["plan", "most"] (spFilledV K C))
    (D3 : Df K mg "sorted_plans" sSortedPl ["plans"] f3 fd3) (G3 : FnOk P w K mg base CX0 7 f3 fd3 ["plans"] (spSortedPl K C Pt))
    (hm : mg "MOST_FULL" = some (.int 4 tk)) (hm2 : mg "MOST_DRAWN" = some (.int 64 tk2))
    (MI : Mk K C fI) (bI : Binds K dI ["self", "size", "arrows", "ties"] []) (GI : FnOk P w K mg base CX0 7 fI dI ["self", "size", "arrows", "ties"] (spInit K C)) (B : Bl mg) : FnOk P w K mg base CX0 12 f fd ["size"] (spFullPl K C Pt) := by
  refine F.ok sc_fullPl (fun vs H Q E h => ?_) (fun cdv A outer s H vs Q E hr h => ?_)
  · obtain ⟨n, rfl, _⟩ := h
    rfl
  · obtain ⟨n, rfl, n4, hT, q⟩ := h
    have hr4 : Room 4 _ := hr.mono (by decide)
    have hr7 : Room 7 _ := hr.mono (by decide)
    have hr8 : Room 8 _ := hr.mono (by decide)
    refine ⟨_, pss_cons (ps_expr (pe_call G1 hr4 rfl D1.g D1.F.kp D1.b .nil pass0 (pa_cons (pv 0) pa_nil)))
      (pss_cons (ps_if (pt_cmpR op_gt (pv 0) (pe_glob (v := .int 4) rfl hm ⟨_, rfl⟩) (nomark _)) pss_never pss_nil)
      (pss_one (ps_ret (pe_call G3 hr7 rfl D3.g D3.F.kp D3.b .nil pass0 (pa_cons (pe_call G2 hr rfl D2.g D2.F.kp D2.b .nil pass0 (pa_cons
        (pe_make MI GI hr8 rfl M.c.mgC bI .nil pass0 (pa_cons (pv 0) (pa_cons (pe_lst pa_nil) (pa_cons (pe_lst pa_nil) pa_nil)))) (pa_cons (pe_glob (v := .int 64) rfl hm2 ⟨_, rfl⟩) pa_nil))) pa_nil))))), ?_⟩
    refine ⟨_, rfl, n, rfl, by omega, by omega, ?_⟩
    refine ⟨_, rfl, _, _, rfl, rfl, _, rfl, ?_⟩
    rw [decide_eq_false (show ¬ (n : Int) > 4 by omega)]
    refine iteF ?_
    refine ⟨_, rfl, szle (by decide), fun u hu => ⟨szle (by decide), fun v hv x dx' nx ndx nex => ?_⟩⟩
    have s12 := (same_new (o := .lst []) hu).trans (same_new (o := .lst []) hv)
    have nuv : u ≠ v := fun e => by rw [e, upd_same] at hv; cases hv
    refine mk_plan (as := []) (ts := []) ⟨[], sl_of (by rw [upd_ne nuv, upd_same]), .nil⟩ (pl_pa2 ⟨[], sl_of upd_same, .nil⟩) (by omega) (prs_mk (by omega) List.nodup_nil (fun _ h => nomatch h)) ⟨fun _ => 0, fun _ h => nomatch h⟩ (prs_mk (by omega) List.nodup_nil (fun _ h => nomatch h)) (fun _ h => nomatch h) nx ndx fun H3 as' ts' s3 pa pt PA => ?_
    have ea := pa.eq_nil
    have et := pt.eq_nil
    subst ea
    subst et
    have s13 := s12.trans s3
    refine ⟨rfl, x, n, rfl, PA, n4, fun H4 r4 xs cs s4 hr40 hr4' hpl pm => ?_⟩
    have s14 := s13.trans s4
    refine ⟨r4, n, xs, cs, rfl, sl_of hr4', hpl, fun c hc => ?_, n4, tabs_same hT s14, fun H5 r zs ds s5 T5 hr5 hz hpl5 pm5 srt => ?_⟩
    · exact (List.mem_filter.mp (pm.mem_iff.mp hc)).1
    · have sN := noT_mono s14
      refine q H5 r zs ds (fun b o h => s5 _ _ (sN _ _ h)) T5 (noT_free sN hr5) hz hpl5 (pm5.trans pm) srt
end
end Tk

namespace NeO
open PySem PySem.W PySem.Spec PyProof.Rows
section
variable {prog : Program} {w : World} {A : Around} {E : Value → Shared → Prop} {s : Shared} {K : Frag} {x C f : Addr} {ox : Obj} {od : Option Obj} {name : Str} {h₀ : Heap}
theorem bind_ne (self : Value) : bindSpecial (.builtin "object.__ne__") self = pure (.builtin "object.__ne__", [self]) := PySem.F.slot_enumerate_ne.bind self
theorem ifBound_B {M : Model} {id : String} {args : List Value} {Q : Option Value → Shared → Prop} (X : K.In s.heap) (I : InstAt s.heap x ox C od) (hs : findIn K (.ref C) name = some (some (.builtin id))) (hb : ∀ self, bindSpecial (.builtin id) self = pure (.builtin id, [self]))
    (h : wpAny M A (call (.builtin id) (.ref x :: args)) (fun v => Q (some v)) E s) : wpAny M A (callSpecialIfBound? (.ref x) name args) Q E s := by
  simp only [callSpecialIfBound?, bindSpecialIfBound?]
  refine wpAny_holding (wpAny_bind (wpAny_bind (wpAny_bind (I.type.here ((looks_findIn X hs).here ?_)))))
  refine wpAny_bind (wpAny_askSetting (wpAny_ite ?_))
  have fin : wpAny M A (call (.builtin id) ([.ref x] ++ args) >>= fun v => pure (some v)) Q E s := wpAny_bind (wpAny_mono h (fun v s' h' => wpAny_pure h') fun _ _ h' => h')
  simp only [hb]
  split
  · exact wpAny_bind (wpAny_pure (wpAny_pure fin))
  · exact wpAny_tryCatch (wpAny_bind (wpAny_pure (wpAny_pure fin)))
theorem ne_body {y : Value} {Q : Fin → Shared → Prop} (X : K.In s.heap) (I : InstAt s.heap x ox C od) (hs : findIn K (.ref C) "__eq__" = some (some (.ref f))) (hf : isFn K (.ref f) = true) (hu : A.units < cLine)
    (hcall : wpAny (model prog w) A (call (.ref f) [.ref x, y]) (fun v s' => ∃ b, v = .bool b ∧ Q (.done (.ret (.bool (!b)))) s') E s) :
    wpAny (model prog w) A (Builtin.«object.__ne__» ⟨[.ref x, y], []⟩) Q E s := by
  unfold Builtin.«object.__ne__»
  repeat (first
    | with_reducible refine wpAny_cRoomFor hu ?_
    | (refine wpAny_bind (m := callSpecialIfBound? (.ref x) (Str.ofString "__eq__") [y])
        (ifBound_K X I hs hf (wpAny_mono hcall (fun r s' hr => by
          obtain ⟨b, rfl, hq⟩ := hr
          repeat (first | exact hq | exact wpAny_pure hq | exact wpAny_truthy_bool hq | (refine wpAny_bind (m := truthy (.bool _)) (wpAny_truthy_bool ?_)) | wp_step)) fun _ _ e => e)))
    | wp_step)
end
end NeO
namespace NeO
open PySem PySem.Spec PyProof.Rows L2
/-- a != b of two instances of a class with its own ==, == keeping sp -/
def rNeI (C : Addr) (sp : Sp) : R2 := fun x y H Q => ∃ (a b : Addr) (dx dy : Addr) (fs gs : List (Str × V)), x = .ref a ∧ y = .ref b ∧ H a = some (.ins C dx fs) ∧ H b = some (.ins C dy gs) ∧
  sp [.ref a, .ref b] H (fun v H' => ∃ c : Bool, v = .bl c ∧ Q (.bl (!c)) H') fun _ _ _ => False
/-- what the class gives for it -/
structure NeC (K : PySem.W.Frag) (C f : Addr) : Prop where
  eq : PySem.W.findIn K (.ref C) "__eq__" = some (some (.ref f))
  fn : PySem.W.isFn K (.ref f) = true
  ne : PySem.W.findIn K (.ref C) "__ne__" = some (some (.builtin "object.__ne__"))
  ob : PySem.W.mroIn K C (.type "object") = some true
section
variable {X : Cx} {k : Nat} {C f : Addr} {fd : FuncData} {ps : List Str} {sp : Sp}
theorem op_neI (Z : NeC X.K C f) (F : FnOk X.prog X.w X.K X.mg X.base CX0 k f fd ps sp) (hr : Room (k + 1) X.A) (hb : Binds X.K fd ps []) : OpR X (compareOp .NotEq) (rNeI C sp) := by
  intro pins s σ H x y v u Q I rx ry hq
  obtain ⟨a, b, dx, dy, fs, gs, rfl, rfl, ha, hb', q⟩ := hq
  cases rx
  cases ry
  obtain ⟨mA, J, _⟩ := ins_get I.hok ha
  obtain ⟨mB, J', _⟩ := ins_get I.hok hb'
  obtain ⟨od, J, _⟩ := J.look
  obtain ⟨od', J', _⟩ := J'.look
  have hu : X.A.units + 1 < cLine := by have := hr.un; omega
  have hu0 : X.A.units < cLine := by omega
  have hr1 : Room k X.A.in1 := hr.in1
  show wpAny (model X.prog X.w) X.A (richCompare .NotEq (.ref a) (.ref b)) (EP X pins σ Q) X.xe s
  have sub : PySem.W.Looks (model X.prog X.w) s.heap (isInstance (.ref a) (.type "object")) true := J.type.andThen (PySem.W.looks_mroIn I.kIn Z.ob)
  have run : wpAny (model X.prog X.w) X.A.in1 (call (.ref f) [.ref a, .ref b]) (fun v s' => ∃ b : Bool, v = .bool b ∧ EP X pins σ Q (.bool (!b)) s') X.xe s := by
    have e0 : Env0 X.prog X.w X.K X.mg X.base X.A.in1 X.stack s H := by
      have e := I.env0
      exact ⟨e.frames, e.mod, e.bs, e.bsz, e.funs, e.frf, e.hok, e.bare⟩
    have hl := F.len _ _ _ _ q
    have r2 : Vals [V.ref a, V.ref b] [Value.ref a, Value.ref b] := .cons rfl (.cons rfl .nil)
    refine wpAny_call (codeAny_mono (F.run X.A.in1 X.stack s H ⟨[.ref a, .ref b], []⟩ [.ref a, .ref b] [.ref a, .ref b] _ _ hr1 e0 (by
      have := hb s [.ref a, .ref b] I.kIn (by simpa using hl)
      simpa using this) r2 q) fun r s' hq => ?_)
    cases r with
    | error e => exact pass0 pins σ H s e s' I hq
    | ok fl =>
      cases fl with
      | ret w' =>
        obtain ⟨z, H', I', rz, c, ez, qz⟩ := I.after hq
        subst ez
        cases rz
        exact ⟨c, rfl, .bl (!c), H', I', rfl, qz⟩
      | next => exact False.elim hq
      | brk => exact False.elim hq
      | cont => exact False.elim hq
  have one : wpAny (model X.prog X.w) X.A (tryCompare (.ref a) "__ne__" (.ref b)) (fun r s' => ∃ v, r = some v ∧ EP X pins σ Q v s') X.xe s := by
    unfold tryCompare
    refine wpAny_bind (ifBound_B I.kIn J Z.ne bind_ne (wpAny_call (codeAny_call_builtin PySem.F.cmp_object.ne.plain PySem.F.cmpEntry_ne
      (PySem.W.check_slot PySem.F.cmpKind_ne PySem.F.cmpSplit_ne sub (PySem.F.cmpArgs_ne _ _) (ne_body I.kIn J Z.eq Z.fn (by show X.A.units + 1 < cLine; exact hu) (wpAny_mono run (fun v s' hv => ?_) fun _ _ e => e))))))
    obtain ⟨c, rfl, hq⟩ := hv
    first | exact ⟨c, rfl, wpAny_pure ⟨_, rfl, hq⟩⟩ | exact ⟨c, rfl, _, rfl, hq⟩
  unfold richCompare
  simp only [oneThing_ref]
  refine wpAny_holding (wpAny_bind (wpAny_cRoomFor hu0 ?_))
  rw [cmpInfo_NotEq]
  dsimp only
  refine wpAny_bind (J.type.here (wpAny_bind (J'.type.here ?_)))
  rw [show (Value.ref C != Value.ref C) = false from by simp]
  simp only [Bool.false_eq_true, if_false]
  refine wpAny_bind (wpAny_pure ?_)
  simp only [Bool.false_eq_true, if_false]
  refine wpAny_bind (wpAny_mono one (fun r s' z => ?_) fun _ _ e => e)
  obtain ⟨v, rfl, hq⟩ := z
  exact wpAny_pure hq
end
end NeO

namespace NeO
open PySem PySem.Spec PyProof.Rows L2
section
variable {X : Cx} {k : Nat} {C f : Addr} {fd : FuncData} {ps : List Str} {sp : Sp} {pins : List (Addr × Obj)} {σ : L2.St} {H : Hp} {s : Shared}
/-- a def called with these values, at a place with the frames of X -/
theorem run_own {A : Around} {us : List Value} {vs : List V} {Q : VK} (F : FnOk X.prog X.w X.K X.mg X.base CX0 k f fd ps sp) (hr : Room k A) (hfr : A.frames = X.A.frames) (hb : Binds X.K fd ps []) (I : Inv X pins σ H s) (r : Vals vs us) (q : sp vs H Q fun _ _ _ => False) :
    wpAny (model X.prog X.w) A (call (.ref f) us) (EP X pins σ Q) X.xe s := by
  have e0 : Env0 X.prog X.w X.K X.mg X.base A X.stack s H := by
    have e := I.env0
    exact ⟨by rw [hfr]; exact e.frames, e.mod, e.bs, e.bsz, e.funs, e.frf, e.hok, e.bare⟩
  have hl : us.length = ps.length := by rw [← r.length]; exact F.len _ _ _ _ q
  refine wpAny_call (codeAny_mono (F.run A X.stack s H ⟨us, []⟩ us vs _ _ hr e0 (by
    have := hb s us I.kIn (by simpa using hl)
    simpa using this) r q) fun r s' hq => ?_)
  cases r with
  | error e => exact pass0 pins σ H s e s' I hq
  | ok fl =>
    cases fl with
    | ret w' => exact I.after hq
    | next => exact False.elim hq
    | brk => exact False.elim hq
    | cont => exact False.elim hq
/-- a == b of two instances of a class with its own == -/
def rEqI (C : Addr) (sp : Sp) : R2 := fun x y H Q => ∃ (a b : Addr) (dx dy : Addr) (fs gs : List (Str × V)), x = .ref a ∧ y = .ref b ∧ H a = some (.ins C dx fs) ∧ H b = some (.ins C dy gs) ∧
  sp [.ref a, .ref b] H (fun v H' => ∃ c : Bool, v = .bl c ∧ Q (.bl c) H') fun _ _ _ => False
theorem op_eqI (h1 : PySem.W.findIn X.K (.ref C) "__eq__" = some (some (.ref f))) (h2 : PySem.W.isFn X.K (.ref f) = true) (F : FnOk X.prog X.w X.K X.mg X.base CX0 k f fd ps sp) (hr : Room k X.A) (hb : Binds X.K fd ps []) : OpR X (compareOp .Eq) (rEqI C sp) := by
  intro pins s σ H x y v u Q I rx ry hq
  obtain ⟨a, b, dx, dy, fs, gs, rfl, rfl, ha, hb', q⟩ := hq
  cases rx
  cases ry
  obtain ⟨mA, J, _⟩ := ins_get I.hok ha
  obtain ⟨mB, J', _⟩ := ins_get I.hok hb'
  obtain ⟨od, J, _⟩ := J.look
  obtain ⟨od', J', _⟩ := J'.look
  obtain ⟨m, hF⟩ := I.fr
  show wpAny (model X.prog X.w) X.A (richCompare .Eq (.ref a) (.ref b)) (EP X pins σ Q) X.xe s
  refine PySem.W.cmp_K (op := .Eq) (tb := .ref C) hr.units0 hF I.ok.mod.kin J J'.type (by simp [PySem.W.notFirst]) h1 h2 ?_
  refine wpAny_mono (run_own (vs := [V.ref a, V.ref b]) F hr rfl hb I (.cons rfl (.cons rfl .nil)) q) (fun v s' hv => ?_) fun _ _ e => e
  obtain ⟨z, H', I', rz, c, ez, qz⟩ := hv
  subst ez
  cases rz
  exact ⟨.bl c, H', I', rfl, qz⟩
/-- a + b (- *) of two instances of a class with its own __add__ (..), which makes an object -/
def rBinI (C : Addr) (sp : Sp) : R2 := fun x y H Q => ∃ (a b : Addr) (dx dy : Addr) (fs gs : List (Str × V)), x = .ref a ∧ y = .ref b ∧ H a = some (.ins C dx fs) ∧ H b = some (.ins C dy gs) ∧
  sp [.ref a, .ref b] H (fun v H' => ∃ p : Addr, v = .ref p ∧ Q (.ref p) H') fun _ _ _ => False
theorem op_binI {op : Operator} (h0 : PySem.W.selfFirst X.K C = true) (h1 : PySem.W.findIn X.K (.ref C) (PySem.dunder op.info.2) = some (some (.ref f))) (h2 : PySem.W.isFn X.K (.ref f) = true) (F : FnOk X.prog X.w X.K X.mg X.base CX0 k f fd ps sp) (hr : Room k X.A) (hb : Binds X.K fd ps []) : OpR X (binaryOp op) (rBinI C sp) := by
  intro pins s σ H x y v u Q I rx ry hq
  obtain ⟨a, b, dx, dy, fs, gs, rfl, rfl, ha, hb', q⟩ := hq
  cases rx
  cases ry
  obtain ⟨mA, J, _⟩ := ins_get I.hok ha
  obtain ⟨mB, J', _⟩ := ins_get I.hok hb'
  obtain ⟨od, J, _⟩ := J.look
  obtain ⟨od', J', _⟩ := J'.look
  obtain ⟨m, hF⟩ := I.fr
  refine PySem.W.binop_K hF I.ok.mod.kin J J'.type h0 h1 h2 ?_
  refine wpAny_mono (run_own (vs := [V.ref a, V.ref b]) F hr rfl hb I (.cons rfl (.cons rfl .nil)) q) (fun v s' hv => ?_) fun _ _ e => e
  obtain ⟨z, H', I', rz, p, ez, qz⟩ := hv
  subst ez
  cases rz
  exact ⟨.ref p, H', I', rfl, qz⟩
/-- repr(a) by an own __repr__ -/
def rReprI (C : Addr) (sp : Sp) : List V → Hp → VK → Prop := fun xs H Q => ∃ (a dx : Addr) (fs : List (Str × V)), xs = [.ref a] ∧ H a = some (.ins C dx fs) ∧ sp [.ref a] H (fun v H' => ∃ t : Str, v = .str t ∧ Q (.str t) H') fun _ _ _ => False
theorem call_reprI (h1 : PySem.W.findIn X.K (.ref C) "__repr__" = some (some (.ref f))) (h2 : PySem.W.isFn X.K (.ref f) = true) (F : FnOk X.prog X.w X.K X.mg X.base CX0 k f fd ps sp) (hr : Room (k + 1) X.A) (hb : Binds X.K fd ps []) : CallR X (.builtin "repr") (rReprI C sp) := by
  intro pins s σ H xs us Q I r hq
  obtain ⟨a, dx, fs, rfl, ha, q⟩ := hq
  obtain rfl : us = [Value.ref a] := Vals.ref1 r
  obtain ⟨mA, J, _⟩ := ins_get I.hok ha
  obtain ⟨od, J, _⟩ := J.look
  obtain ⟨m, hF⟩ := I.fr
  have hr1 : Room k X.A.in1 := hr.in1
  refine PySem.W.repr_K hr1.units0 hF I.ok.mod.kin J h1 h2 ?_
  refine wpAny_mono (run_own (A := X.A.in1) (vs := [V.ref a]) F hr1 rfl hb I (.cons rfl .nil) q) (fun v s' hv => ?_) fun _ _ e => e
  obtain ⟨z, H', I', rz, t, ez, qz⟩ := hv
  subst ez
  obtain ⟨tk, rfl⟩ := rz
  exact ⟨.str t, H', I', ⟨tk, rfl⟩, qz⟩
end
end NeO

namespace Tk
open PySem PySem.Spec PyProof.Rows L2
abbrev sPlEq : Stmt := inClass (top 29) 5
abbrev sPlRepr : Stmt := inClass (top 29) 6
/-! ## an f-string with data; repr by a def that is told that no repr runs -/
section
variable {X : Cx}
def tFmtD (K : PySem.W.Frag) (te : TE) : TE := fun σ H Q => te σ H fun x H1 => ∃ (a : Addr) (d : PyData), x = .ref a ∧ Dp K H1 (.ref a) d ∧ d.showable = true ∧ d.hasDict = false ∧ d.depth ≤ 50 ∧ d.shown.length ≤ sizeLine ∧ Q (.str d.shown) H1
theorem pe_fmtD {e : Expr} {te : TE} {pos : Pos} (hgd : X.A.guards = some []) (hu : X.A.units + 64 < cLine) (he : PE X e te) : PE X (.FormattedValue e (-1) none pos) (tFmtD X.K te) := by
  refine ⟨fun pins s σ H Q I h => ?_⟩
  refine wpAny_FormattedValue_plain (thn (he.run pins s σ H _ I h) fun v s1 hv => ?_)
  obtain ⟨x, H1, I1, r1, a, d, rfl, hd, hs, hn, hdp, hz, q⟩ := hv
  cases r1
  obtain ⟨as, rd⟩ := Dp.reads I1 d (.ref a) (.ref a) hd rfl
  refine formatField_of_reads (h₀ := s1.heap) rd hs (PyData.noDict_hsm hn) hgd (by omega) (fun b o z => z) (fun h' u tk keep => ?_) hz
  have J : Inv X pins σ H1 { s1 with heap := h' } := I1.kept keep
  exact ⟨.str d.shown, H1, J.tok _, ⟨u, rfl⟩, q⟩
theorem run_ownG {k : Nat} {f : Addr} {fd : FuncData} {ps : List Str} {sp : Sp} {pins : List (Addr × Obj)} {σ : L2.St} {H : Hp} {s : Shared} {A : Around} {us : List Value} {vs : List V} {Q : VK} (F : FnG X.prog X.w X.K X.mg X.base k f fd ps sp) (hgd : A.guards = some []) (hr : Room k A) (hfr : A.frames = X.A.frames) (hb : Binds X.K fd ps []) (I : Inv X pins σ H s) (r : Vals vs us) (q : sp vs H Q fun _ _ _ => False) :
    wpAny (model X.prog X.w) A (call (.ref f) us) (EP X pins σ Q) X.xe s := by
  have e0 : Env0 X.prog X.w X.K X.mg X.base A X.stack s H := by
    have e := I.env0
    exact ⟨by rw [hfr]; exact e.frames, e.mod, e.bs, e.bsz, e.funs, e.frf, e.hok, e.bare⟩
  have hl : us.length = ps.length := by rw [← r.length]; exact F.len _ _ _ _ q
  refine wpAny_call (codeAny_mono (F.run A X.stack s H ⟨us, []⟩ us vs _ _ hgd hr e0 (by
    have := hb s us I.kIn (by simpa using hl)
    simpa using this) r q) fun r s' hq => ?_)
  cases r with
  | error e => exact False.elim hq
  | ok fl =>
    cases fl with
    | ret w' => exact I.after hq
    | next => exact False.elim hq
    | brk => exact False.elim hq
    | cont => exact False.elim hq
theorem call_reprIG {k : Nat} {C f : Addr} {fd : FuncData} {ps : List Str} {sp : Sp} (h1 : PySem.W.findIn X.K (.ref C) "__repr__" = some (some (.ref f))) (h2 : PySem.W.isFn X.K (.ref f) = true) (F : FnG X.prog X.w X.K X.mg X.base k f fd ps sp) (hgd : X.A.guards = some []) (hr : Room (k + 1) X.A) (hb : Binds X.K fd ps []) : CallR X (.builtin "repr") (NeO.rReprI C sp) := by
  intro pins s σ H xs us Q I r hq
  obtain ⟨a, dx, fs, rfl, ha, q⟩ := hq
  obtain rfl : us = [Value.ref a] := Vals.ref1 r
  obtain ⟨mA, J, _⟩ := ins_get I.hok ha
  obtain ⟨od, J, _⟩ := J.look
  obtain ⟨m, hF⟩ := I.fr
  have hr1 : Room k X.A.in1 := hr.in1
  refine PySem.W.repr_K hr1.units0 hF I.ok.mod.kin J h1 h2 ?_
  refine wpAny_mono (run_ownG (A := X.A.in1) (vs := [V.ref a]) F hgd hr1 rfl hb I (.cons rfl .nil) q) (fun v s' hv => ?_) fun _ _ e => e
  obtain ⟨z, H', I', rz, t, ez, qz⟩ := hv
  subst ez
  obtain ⟨tk, rfl⟩ := rz
  exact ⟨.str t, H', I', ⟨tk, rfl⟩, qz⟩
end
/-! ## == and repr of Plans -/
theorem eqv_dP2 {p q : Int × Int} : PyData.eqv (dP p) (dP q) = decide (p = q) := by
  obtain ⟨u, v⟩ := p
  obtain ⟨x, y⟩ := q
  simp [dP, PyData.eqv, PyData.eqvAll]
  by_cases c1 : u = x <;> by_cases c2 : v = y <;> simp [c1, c2]
theorem eqvs_dPs : ∀ {ps qs : List (Int × Int)}, PyData.eqvAll (ps.map dP) (qs.map dP) = decide (ps = qs)
  | [], [] => by simp [PyData.eqvAll]
  | [], q :: qs => by simp [PyData.eqvAll]
  | p :: ps, [] => by simp [PyData.eqvAll]
  | p :: ps, q :: qs => by
    show (PyData.eqv (dP p) (dP q) && PyData.eqvAll (ps.map dP) (qs.map dP)) = _
    rw [eqv_dP2, eqvs_dPs]
    by_cases c1 : p = q <;> by_cases c2 : ps = qs <;> simp [c1, c2]
theorem eqv_dPs {ps qs : List (Int × Int)} : PyData.eqv (.list (ps.map dP)) (.list (qs.map dP)) = decide (ps = qs) := by
  simp only [PyData.eqv]
  exact eqvs_dPs
abbrev dPs (ps : List (Int × Int)) : PyData := .list (ps.map dP)
/-- the same plan -/
abbrev samePl (n n2 : Nat) (as as2 ts ts2 : List (Int × Int)) : Bool := decide (n = n2 ∧ as = as2 ∧ ts = ts2)
def shP (n : Nat) (as ts : List (Int × Int)) : Str := ((((((Str.empty ++ "Plan(") ++ toString ((n : Nat) : Int)) ++ ", ") ++ (dPs as).shown) ++ ", ") ++ (dPs ts).shown) ++ ")"
def spPlEq (K : PySem.W.Frag) (C : Addr) : Sp := fun vs H Q _ => ∃ (p r : Addr) (n n2 : Nat) (as ts as2 ts2 : List (Int × Int)), vs = [.ref p, .ref r] ∧ PlanAt K C H p n as ts ∧ PlanAt K C H r n2 as2 ts2 ∧ ∀ H', Same H H' → Q (.bl (samePl n n2 as as2 ts ts2)) H'
def spPlRepr (K : PySem.W.Frag) (C : Addr) : Sp := fun vs H Q _ => ∃ (p : Addr) (n : Nat) (as ts : List (Int × Int)), vs = [.ref p] ∧ PlanAt K C H p n as ts ∧ ∀ H', Same H H' → Q (.str (shP n as ts)) H'
theorem pairs_good {n : Nat} {ps : List (Int × Int)} (n6 : n ≤ 6) (h : Prs (n : Int) ps) : GoodA (ps.map dP) 1 (300 * ps.length + 64) := by
  have small : ∀ p ∈ ps, p.1.natAbs < 10 ^ 12 ∧ p.2.natAbs < 10 ^ 12 := fun p hp => by
    obtain ⟨a1, a2, a3, a4, _⟩ := h.2.2 p hp
    have big : (10 : Nat) ^ 12 = 1000000000000 := by decide
    omega
  clear h
  induction ps with
  | nil => exact goodA_nil
  | cons p ps ih =>
    have hp := small p (List.mem_cons_self ..)
    have g0 : GoodA ([p.1, p.2].map .int) 0 (42 * [p.1, p.2].length) := goodA_ints fun z hz => by
      rcases List.mem_cons.mp hz with e | e
      · rw [e]; exact hp.1
      · rw [List.mem_singleton.mp e]; exact hp.2
    have g1 : GoodD (dP p) 1 148 := by
      refine ⟨by simp only [dP, PyData.showable]; exact g0.sh, by simp only [dP, PyData.hasDict]; exact g0.nd, ?_, by simp only [dP, PyData.canLay0]; exact g0.cl, by simp only [dP, PyData.intsShort]; exact g0.ish, ?_⟩
      · have := g0.dp
        simp only [dP, PyData.depth]
        simp at this ⊢
        omega
      · have := g0.wt
        simp only [dP, PyData.weight]
        simp at this ⊢
        omega
    have g := goodA_cons g1 (ih fun q hq => small q (List.mem_cons_of_mem _ hq))
    refine ⟨g.sh, g.nd, g.dp, g.cl, g.ish, Nat.le_trans g.wt ?_⟩
    rw [List.length_cons]
    omega
/-- a list of pairs can be shown, and is short -/
theorem pairs_rep {n : Nat} {ps : List (Int × Int)} (n6 : n ≤ 6) (h : Prs (n : Int) ps) : RepOk (dPs ps) ∧ SeqAt.shaped (dPs ps) = true ∧ (dPs ps).shown.length ≤ 400000 := by
  have few := h.2.1
  have g : GoodD (dPs ps) 2 20000 := goodD_mono (goodD_list (pairs_good n6 h)) (by omega)
  refine ⟨goodD_rep g (by decide) (by decide), shaped_pairs _, ?_⟩
  have := PyData.shown_le 13 (by decide) (dPs ps) (PyData.leavesShort_of_canLay0 13 _ g.cl g.ish)
  have := g.wt
  omega
structure PlE (K : PySem.W.Frag) (mg : Str → Option Value) (C fE fR : Addr) (fdE fdR : FuncData) : Prop where
  c : PlC K mg C
  ins : C8.InsC K C
  eq : NeO.NeC K C fE
  FE : Fun K "__eq__" "Plan.__eq__" sPlEq fE fdE
  bE : Binds K fdE ["self", "other"] []
  rp : PySem.W.findIn K (.ref C) "__repr__" = some (some (.ref fR))
  rf : PySem.W.isFn K (.ref fR) = true
  FR : Fun K "__repr__" "Plan.__repr__" sPlRepr fR fdR
  bR : Binds K fdR ["self"] []
section
variable {P : Program} {w : World} {K : PySem.W.Frag} {mg : Str → Option Value} {base : Heap}
theorem sc_plEq : FnScope ["self", "other"] ["self", "other"] (defScope sPlEq) := ⟨rfl, rfl, rfl, by decide +kernel, rfl, by decide +kernel, by decide +kernel⟩
theorem ok_plEq {C fE fR : Addr} {fdE fdR : FuncData} (M : PlE K mg C fE fR fdE fdR) (B : Bl mg) : FnOk P w K mg base CX0 1 fE fdE ["self", "other"] (spPlEq K C) := by
  have T := M.c
  refine M.FE.ok sc_plEq (fun vs H Q E h => ?_) (fun cdv A outer s H vs Q E hr h => ?_)
  · obtain ⟨p, r, n, n2, as, ts, as2, ts2, rfl, _⟩ := h
    rfl
  · obtain ⟨p, r, n, n2, as, ts, as2, ts2, rfl, hP, hR, q⟩ := h
    refine ⟨_, pss_cons (ps_if (pt_not (pt_val (pe_callB (C8.call_isC M.ins) (by rfl) B.isi PyProof.Rows.boot_isinstance (pa_cons (pv 1) (pa_cons (pe_glob (v := .ref C) rfl T.mgC rfl) pa_nil))))) (pss_one (ps_ret pe_bl)) pss_nil)
      (pss_one (ps_ret (pe_and (pe_cmpR op_eq (pe_fld (pv 0) rfl) (pe_fld (pv 1) rfl) (nomark _)) (pe_and (pe_cmpR (op_eqD hr.units) (pe_fld (pv 0) rfl) (pe_fld (pv 1) rfl) (nomark _)) (pe_one (pe_cmpR (op_eqD hr.units) (pe_fld (pv 0) rfl) (pe_fld (pv 1) rfl) (nomark _))))))), ?_⟩
    obtain ⟨⟨dx, a0, t0, hp, ⟨xs, ha, da⟩, ⟨ys, ht, dt⟩⟩, n6, pas, acy, pts, lt, _, _⟩ := id hP
    obtain ⟨⟨dy, b0, u0, hq, ⟨xs2, hb, db⟩, ⟨ys2, hu, du⟩⟩, m6, pas2, acy2, pts2, lt2, _, _⟩ := id hR
    refine ⟨_, rfl, r, dy, _, rfl, hq, true, rfl, iteF ?_⟩
    refine ⟨_, rfl, p, C, dx, _, _, rfl, hp, T.cl, T.nS, pf_size _ _ _, _, rfl, r, C, dy, _, _, rfl, hq, T.cl, T.nS, pf_size _ _ _, rfl, decide ((n : Int) = n2), dec_bl, ?_⟩
    have fin : ∀ b, b = samePl n n2 as as2 ts ts2 → Q (.bl b) H := fun b e => by rw [e]; exact q H fun _ _ h => h
    by_cases c1 : (n : Int) = n2
    · rw [decide_eq_true c1]
      refine iteT ⟨_, rfl, p, C, dx, _, _, rfl, hp, T.cl, T.nA, pf_arr _ _ _, _, rfl, r, C, dy, _, _, rfl, hq, T.cl, T.nA, pf_arr _ _ _, dPs as, dPs as2, .lst ha da, .lst hb db, shaped_pairs _, shaped_pairs _, _, rfl, ?_⟩
      rw [eqv_dPs]
      by_cases c2 : as = as2
      · rw [decide_eq_true c2]
        refine iteT ⟨_, rfl, p, C, dx, _, _, rfl, hp, T.cl, T.nT, pf_ties _ _ _, _, rfl, r, C, dy, _, _, rfl, hq, T.cl, T.nT, pf_ties _ _ _, dPs ts, dPs ts2, .lst ht dt, .lst hu du, shaped_pairs _, shaped_pairs _, ?_⟩
        rw [eqv_dPs]
        refine fin _ ?_
        have c1' : n = n2 := by omega
        simp [c1', c2]
      · rw [decide_eq_false c2]
        exact iteF (fin false (by simp [c2]))
    · rw [decide_eq_false c1]
      exact iteF (fin false (by have : ¬ n = n2 := by omega
                                simp [this]))
theorem sc_plRepr : FnScope ["self"] ["self"] (defScope sPlRepr) := ⟨rfl, rfl, rfl, by decide +kernel, rfl, by decide +kernel, by decide +kernel⟩
theorem ok_plRepr {C fE fR : Addr} {fdE fdR : FuncData} (M : PlE K mg C fE fR fdE fdR) (B : Bl mg) : FnG P w K mg base 1 fR fdR ["self"] (spPlRepr K C) := by
  have T := M.c
  refine okG M.FR sc_plRepr (fun vs H Q E h => ?_) (fun cdv A outer s H vs Q E hgd hr h => ?_)
  · obtain ⟨p, n, as, ts, rfl, _⟩ := h
    rfl
  · obtain ⟨p, n, as, ts, rfl, hP, q⟩ := h
    refine ⟨_, pss_one (ps_ret (pe_joined (.cons pe_str (.cons (pe_fmt (pe_fld (pv 0) rfl)) (.cons pe_str (.cons (pe_fmtD hgd hr.units (pe_fld (pv 0) rfl)) (.cons pe_str (.cons (pe_fmtD hgd hr.units (pe_fld (pv 0) rfl)) (.cons pe_str .nil))))))))), ?_⟩
    obtain ⟨⟨dx, a0, t0, hp, ⟨xs, ha, da⟩, ⟨ys, ht, dt⟩⟩, n6, pas, acy, pts, lt, _, _⟩ := id hP
    obtain ⟨r1, _, z1⟩ := pairs_rep n6 pas
    obtain ⟨r2, _, z2⟩ := pairs_rep n6 pts
    have zn : (toString ((n : Nat) : Int) : Str).length ≤ 10 := by
      have h1 : n = 0 ∨ n = 1 ∨ n = 2 ∨ n = 3 ∨ n = 4 ∨ n = 5 ∨ n = 6 := by omega
      rcases h1 with rfl | rfl | rfl | rfl | rfl | rfl | rfl <;> decide +kernel
    have l1 : (("Plan(" : String) : Str).length = 5 := rfl
    have l2 : ((", " : String) : Str).length = 2 := rfl
    have l3 : ((")" : String) : Str).length = 1 := rfl
    have l0 : Str.empty.length = 0 := rfl
    have sz : sizeLine = 16777216 := rfl
    refine ⟨_, rfl, by simp only [strLen_append]; omega, ?_⟩
    refine ⟨_, rfl, p, C, dx, _, _, rfl, hp, T.cl, T.nS, pf_size _ _ _, .inr ⟨(n : Int), rfl, ?_, _, rfl, by simp only [strLen_append]; omega, _, rfl, by simp only [strLen_append]; omega, ?_⟩⟩
    · have : ((n : Int)).natAbs < 10 ^ 12 := by
        have big : (10 : Nat) ^ 12 = 1000000000000 := by decide
        omega
      have := log2_lt this
      omega
    refine ⟨_, rfl, p, C, dx, _, _, rfl, hp, T.cl, T.nA, pf_arr _ _ _, a0, dPs as, rfl, .lst ha da, r1.sh, r1.nd, r1.dp, r1.sz, _, rfl, by simp only [strLen_append]; omega, _, rfl, by simp only [strLen_append]; omega, ?_⟩
    refine ⟨_, rfl, p, C, dx, _, _, rfl, hp, T.cl, T.nT, pf_ties _ _ _, t0, dPs ts, rfl, .lst ht dt, r2.sh, r2.nd, r2.dp, r2.sz, _, rfl, by simp only [strLen_append]; omega, _, rfl, by simp only [strLen_append]; omega, ?_⟩
    exact q H fun _ _ h => h
end
end Tk

namespace Tk
open PySem PySem.Spec PyProof.Rows L2
def spPick (K : PySem.W.Frag) : Sp := fun vs H Q _ => ∃ (a b : Addr) (xs : List V), vs = [.ref a, .ref b] ∧ Pot H a ∧ H b = some (.lst xs) ∧ b ≠ a ∧ xs ≠ [] ∧ xs.length ≤ 1000 ∧
  ∀ (H' : Hp) (i : Nat) (v : V), SmX a H H' → Pot H' a → xs[i]? = some v → Q v H'
section
variable {P : Program} {w : World} {K : PySem.W.Frag} {mg : Str → Option Value} {base : Heap}
theorem sc_pick : FnScope ["_law_pot_here", "_law_some"] ["_law_pot_here", "_law_some"] (defScope sPick) := ⟨rfl, rfl, rfl, by decide +kernel, rfl, by decide +kernel, by decide +kernel⟩
theorem ok_pick {f f1 : Addr} {fd fd1 : FuncData} (F : Fun K "_law_pick" "_law_pick" sPick f fd) (D1 : Df K mg "_law_draw" sDraw ["_law_pot_here", "_law_many"] f1 fd1) (B : Bl mg) :
    FnOk P w K mg base CX0 2 f fd ["_law_pot_here", "_law_some"] (spPick K) := by
  have G1 : FnOk P w K mg base CX0 1 f1 fd1 ["_law_pot_here", "_law_many"] spDraw := ok_draw D1.F B
  refine F.ok sc_pick (fun vs H Q E h => ?_) (fun cdv A outer s H vs Q E hr h => ?_)
  · obtain ⟨a, b, xs, rfl, _⟩ := h
    rfl
  · obtain ⟨a, b, xs, rfl, pa, hb, nba, ne, few, q⟩ := h
    refine ⟨_, pss_one (ps_ret (pe_ix ix_list (pv 1) (pe_call G1 hr rfl D1.g D1.F.kp D1.b .nil pass0 (pa_cons (pv 0) (pa_cons (pe_callB call_len_seq (by rfl) B.len PySem.boot_len (pa_cons (pv 1) pa_nil)) pa_nil))) (fun _ _ => rfl))), ?_⟩
    have pos := List.length_pos_iff.mpr ne
    refine ⟨_, rfl, _, rfl, _, rfl, b, xs, rfl, .inl (sl_of hb), a, _, rfl, pa, by omega, by omega, fun H1 d s1 p1 d0 d1 => ?_⟩
    obtain ⟨i, rfl⟩ : ∃ i : Nat, d = (i : Int) := ⟨d.toNat, by omega⟩
    have il : i < xs.length := by omega
    exact ⟨b, xs, _, xs[i], rfl, rfl, sl_of (s1 _ _ nba hb), atI_nat (List.getElem?_eq_getElem il), q H1 i _ s1 p1 (List.getElem?_eq_getElem il)⟩

end
end Tk

namespace Tk
open PySem PySem.Spec PyProof.Rows L2 LamX
theorem tabs_but {T : List (Addr × Str)} {a : Addr} {xs : List V} {H H' : Hp} (t : Tabs T H) (ha : H a = some (.lst xs)) (e : ∀ (b : Addr) (o : HO), b ≠ a → H b = some o → H' b = some o) : Tabs T H' := fun p hp => by
  obtain ⟨ps, h1, h2, h3⟩ := t p hp
  refine ⟨ps, e _ _ (fun z => by rw [z, ha] at h1; cases h1) h1, h2, fun pos cv hc => ?_⟩
  obtain ⟨c, e1, e2⟩ := h3 pos cv hc
  exact ⟨c, e1, e _ _ (fun z => by rw [z, ha] at e2; unfold CodeO at e2; cases e2) e2⟩
theorem tabs_at {H : Hp} {Pt : Addr} (h : H Pt = some (.tbl #[])) : Tabs (tLams Pt) H := fun p hp => by
  rw [List.mem_singleton.mp hp]
  exact TabS.nil h
theorem tabs_x {T : List (Addr × Str)} {a : Addr} {H H' : Hp} (t : Tabs T H) (p : Pot H a) (e : SmX a H H') : Tabs T H' := by
  obtain ⟨u, v, g, _⟩ := p
  exact tabs_but t g e
theorem pot_noT {H : Hp} {a : Addr} (p : Pot H a) : Pot (noT H) a := by
  obtain ⟨u, v, g, h⟩ := p
  exact ⟨u, v, noT_get g (fun _ c => nomatch c), h⟩
theorem shaped_ch (cs : List Ch) : SeqAt.shaped (.list (cs.map dCh)) = true := by
  have cl : ∀ cs : List Ch, PyData.canLayAll0 (cs.map dCh) = true := fun cs => by
    induction cs with
    | nil => rfl
    | cons c cs ih =>
      show (((PyData.canLayAll0 (c.1.map dP)) && ((PyData.canLayAll0 (c.2.map dP)) && true)) && PyData.canLayAll0 (cs.map dCh)) = true
      rw [plain_pairs, plain_pairs, ih]
      rfl
  have dp : ∀ cs : List Ch, PyData.depthAll (cs.map dCh) ≤ 5 := fun cs => by
    induction cs with
    | nil => simp [PyData.depthAll]
    | cons c cs ih =>
      have := depth_ch c
      simp only [List.map_cons, PyData.depthAll]
      omega
  unfold SeqAt.shaped
  rw [Bool.and_eq_true_iff]
  refine ⟨by rw [PyData.canLay0]; exact cl cs, decide_eq_true ?_⟩
  have := dp cs
  rw [PyData.depth]
  omega
/-! ## (plan.arrows(), plan.ties()) of each plan -/
abbrev teKey (K : PySem.W.Frag) (C : Addr) (i : Nat) : TE := tTup (tCons (tMeth C "arrows" (spArr K C) [] E0 (tVar i) tNil) (tCons (tMeth C "ties" (spTies K C) [] E0 (tVar i) tNil) tNil))
theorem dps_emP {K : PySem.W.Frag} {H : Hp} {D : Addr} {us : List V} (hD : H D = some (.lst us)) : ∀ {ps : List (Int × Int)} {xs : List V}, DpAll K H xs (ps.map dP) → DpAll K (em D H) xs (ps.map dP)
  | [], _, h => by cases h; exact .nil
  | z :: zs, _, h => by
    cases h with
    | cons g1 g2 =>
      obtain ⟨t, rfl, ht⟩ := dP_inv g1
      refine .cons (dP_mk ?_) (dps_emP hD g2)
      rcases ht with (h | ⟨z, h⟩) | h
      · exact .inl (.inl (em_get (fun e => by rw [e, hD] at h; cases h) h))
      · exact .inl (.inr ⟨z, em_get (fun e => by rw [e, hD] at h; cases h) h⟩)
      · exact .inr h
theorem keys_go {K : PySem.W.Frag} {C : Addr} {n i : Nat} {σ : L2.St} {H : Hp} {r : Addr} {zs : List V} {ds : List Ch} {Qd : Hp → Prop} {D : Addr} (n4 : n ≤ 4) (hin : ∀ c ∈ ds, c ∈ chAll n) (few : ds.length ≤ 60)
    (h2 : ∀ v, ((wipe σ [i]).set i (some v))[i]? = some (some v)) (h3 : ∀ v, wipe ((wipe σ [i]).set i (some v)) [i] = wipe σ [i]) (hD : H D = none)
    (hr : H r = some (.lst zs)) (hpl : PlsP K C n H zs ds) (q : ∀ (G : Hp) (acc : List V), Same H G → G D = some (.lst acc) → ChsP K G acc ds → Qd G) :
    ∃ W : Nat → Nat → Hp → Prop, (∃ m, W 0 m (upd H D (.lst []))) ∧ ∀ j m G, W j m G →
      ((Itl K r).stop j G ∧ Qd G) ∨ ((Itl K r).go j G ∧ ∃ Nx : Hp → Prop, (∀ H', Nx H' → ∃ m', m' < m ∧ W (j + 1) m' H') ∧ ∀ x H', (Itl K r).yld j G x H' → gName i x (wipe σ [i]) H' fun σ2 H2 => wipe σ2 [i] = wipe σ [i] ∧ tYes σ2 H2 fun b H3 =>
        if b = true then teKey K C i σ2 H3 fun y H4 => ∃ acc, H4 D = some (.lst acc) ∧ acc.length < sizeLine ∧ Nx (upd H4 D (.lst (acc ++ [y]))) else Nx H3) := by
  refine lc_list (xs := zs) (fun k G => Same H G ∧ ∃ acc, G D = some (.lst acc) ∧ ChsP K (em D G) acc (ds.take k)) ⟨same_new hD, [], upd_same, trivial⟩ (fun k G _ z => sl_of (z.1 _ _ hr)) ?_ ?_
  · rintro k x G hx ⟨sG, acc, hacc, hca⟩
    obtain ⟨c, z, as, ts, hc, rfl, PZ, pa, pt⟩ := pls_at hpl hx
    have e := plan_ch n4 (hin c (List.mem_of_getElem? hc)) PZ pa pt
    subst e
    have hk := lt_of_at hc
    have PG := plan_s PZ sG
    obtain ⟨⟨dx, a0, t0, hz, _⟩, _⟩ := id PG
    have pfn : ∀ {k : Str}, ¬ k = "_size" → ¬ k = "_arrows" → ¬ k = "_ties" → (pf n a0 t0).lookup k = none := fun h1 h2 h3 => pf_no _ _ _ h1 h2 h3
    have la : acc.length ≤ 60 := by
      rw [chs_len hca, List.length_take]
      omega
    refine ⟨h3 _, _, h2 _, z, dx, _, rfl, hz, pfn (by decide +kernel) (by decide +kernel) (by decide +kernel), z, n, as, ts, rfl, PG, fun G3 l3 s3 hl3 ⟨u3, hu3, d3⟩ => ?_⟩
    refine ⟨_, h2 _, z, dx, _, rfl, s3 _ _ hz, pfn (by decide +kernel) (by decide +kernel) (by decide +kernel), z, n, as, ts, rfl, plan_s PG s3, fun G4 l4 s4 hl4 ⟨u4, hu4, d4⟩ => ?_⟩
    refine ⟨szle (by show 2 ≤ 100000; decide), fun t ht => ?_⟩
    have s5 := same_new (o := .tup [V.ref l3, V.ref l4]) ht
    have hD3 := s3 _ _ hacc
    have hD4 := s4 _ _ hD3
    have hD5 := s5 _ _ hD4
    have n3 : l3 ≠ D := fun e => by rw [e, hacc] at hl3; cases hl3
    have n4' : l4 ≠ D := fun e => by rw [e, hD3] at hl4; cases hl4
    have n5 : t ≠ D := fun e => by rw [e, hD4] at ht; cases ht
    have s35 := (s3.trans s4).trans s5
    refine ⟨acc, hD5, szlt (by omega), same_mut (sG.trans s35) hD, acc ++ [.ref t], upd_same, ?_⟩
    rw [take_at hc]
    refine chs_s em_up (chs_app (chs_s (em_s s35) hca) ⟨⟨t, l3, l4, u3, u4, rfl, em_get n5 upd_same, em_get n3 (s5 _ _ (s4 _ _ hu3)), dps_s (dps_emP hD3 d3) (em_s (s4.trans s5)), em_get n4' (s5 _ _ hu4), dps_s (dps_emP hD4 d4) (em_s s5)⟩, trivial⟩)
  · rintro G ⟨sG, acc, hacc, hca⟩
    rw [show ds.take zs.length = ds by rw [pls_len hpl, List.take_length]] at hca
    exact q G acc sG hacc (chs_s em_le hca)
/-- the law's own list -/
def OwnP (K : PySem.W.Frag) (H : Hp) (xs : List V) (cs : List Ch) : Prop := xs.length = cs.length ∧ ∀ (i : Nat) (c : Ch), cs[i]? = some c → ∃ t u d : Addr, xs[i]? = some (.ref t) ∧ SqT K H t [.ref u, .ref d] ∧ PL K H u c.1 ∧ PL K H d c.2
theorem dp_inv2 {K : PySem.W.Frag} {H : Hp} {x : V} {c : Ch} (h : Dp K H x (dCh c)) : ∃ t u d : Addr, x = .ref t ∧ SqT K H t [.ref u, .ref d] ∧ PL K H u c.1 ∧ PL K H d c.2 := by
  cases h with
  | tup h1 h2 =>
    cases h2 with
    | cons g1 g2 =>
      cases g2 with
      | cons g3 g4 =>
        cases g4
        cases g1 with
        | lst a1 a2 =>
          cases g3 with
          | lst b1 b2 => exact ⟨_, _, _, rfl, h1, ⟨_, a1, a2⟩, ⟨_, b1, b2⟩⟩
theorem own_of {K : PySem.W.Frag} {H : Hp} {xs : List V} {cs : List Ch} (h : DpAll K H xs (cs.map dCh)) : OwnP K H xs cs := by
  refine ⟨by rw [dps_len h, List.length_map], fun i c hc => ?_⟩
  have hx : i < xs.length := by
    rw [dps_len h, List.length_map]
    exact lt_of_at hc
  obtain ⟨d, h1, h2⟩ := dps_at h i _ (List.getElem?_eq_getElem hx)
  rw [List.getElem?_map, hc] at h1
  cases h1
  obtain ⟨t, u, d, e, g⟩ := dp_inv2 h2
  exact ⟨t, u, d, by rw [List.getElem?_eq_getElem hx, e], g⟩
theorem own_s {K : PySem.W.Frag} {H H' : Hp} {xs : List V} {cs : List Ch} (h : OwnP K H xs cs) (e : Same H H') : OwnP K H' xs cs := ⟨h.1, fun i c hc => by
  obtain ⟨t, u, d, h1, h2, h3, h4⟩ := h.2 i c hc
  exact ⟨t, u, d, h1, same_t e h2, pl_s h3 e, pl_s h4 e⟩⟩
theorem own_x {K : PySem.W.Frag} {H H' : Hp} {a : Addr} {xs : List V} {cs : List Ch} (h : OwnP K H xs cs) (p : Pot H a) (e : SmX a H H') : OwnP K H' xs cs := ⟨h.1, fun i c hc => by
  obtain ⟨t, u, d, h1, h2, h3, h4⟩ := h.2 i c hc
  exact ⟨t, u, d, h1, smx_t p e h2, pl_x h3 p e, pl_x h4 p e⟩⟩
theorem own_xE {K : PySem.W.Frag} {H H' : Hp} {a r : Addr} {xs : List V} {cs : List Ch} (n : r ≠ a) (h : OwnP K (em r H) xs cs) (p : Pot H a) (e : SmX a H H') : OwnP K (em r H') xs cs := by
  obtain ⟨u, v, g, ok⟩ := p
  refine own_x (a := a) h ⟨u, v, em_get n.symm g, ok⟩ fun b o nb hb => ?_
  have hr : b ≠ r := fun z => by
    rw [z] at hb
    unfold em at hb
    rw [if_pos rfl] at hb
    cases hb
  exact em_get hr (e _ _ nb (em_le _ _ hb))
theorem own_noT {K : PySem.W.Frag} {H : Hp} {xs : List V} {cs : List Ch} (h : OwnP K H xs cs) : OwnP K (noT H) xs cs := ⟨h.1, fun i c hc => by
  obtain ⟨t, u, d, h1, h2, ⟨us, h3, h3'⟩, ⟨ds, h4, h4'⟩⟩ := h.2 i c hc
  exact ⟨t, u, d, h1, sqT_noT h2, ⟨us, sqL_noT h3, dps_noT _ _ h3'⟩, ⟨ds, sqL_noT h4, dps_noT _ _ h4'⟩⟩⟩
theorem own_dps {K : PySem.W.Frag} {H : Hp} : ∀ {xs : List V} {cs : List Ch}, OwnP K H xs cs → DpAll K H xs (cs.map dCh)
  | [], [], _ => .nil
  | [], _ :: _, h => by have := h.1; simp at this
  | _ :: _, [], h => by have := h.1; simp at this
  | x :: xs, c :: cs, h => by
    obtain ⟨t, u, d, h1, h2, ⟨us, h3, h3'⟩, ⟨ds, h4, h4'⟩⟩ := h.2 0 c rfl
    simp at h1
    subst h1
    refine .cons (.tup h2 (.cons (.lst h3 h3') (.cons (.lst h4 h4') .nil))) (own_dps ⟨by have := h.1; simpa using this, fun i e he => ?_⟩)
    simpa using h.2 (i + 1) e (by simpa using he)
theorem pls_xP {K : PySem.W.Frag} {C a : Addr} {n : Nat} {H H' : Hp} (p : Pot H a) (e : SmX a H H') : ∀ {xs : List V} {cs : List Ch}, PlsP K C n H xs cs → PlsP K C n H' xs cs
  | [], [], _ => trivial
  | _ :: _, _ :: _, ⟨⟨z, as, ts, h1, h2, h3⟩, h⟩ => ⟨⟨z, as, ts, h1, plan_x h2 p e, h3⟩, pls_xP p e h⟩
  | [], _ :: _, h => h.elim
  | _ :: _, [], h => h.elim
theorem ch_full {n : Nat} (h : n ≤ 4) {c : Ch} (hc : c ∈ chAll n) : looseP n c.1 c.2 = [] := by
  have key : ∀ n ∈ [0, 1, 2, 3, 4], ∀ c ∈ chAll n, looseP n c.1 c.2 = [] := by decide +kernel
  exact key n (by simp; omega) c hc
theorem ne_sameV {K : PySem.W.Frag} {C : Addr} {H : Hp} {r d : Addr} {n : Nat} {as ts : List (Int × Int)} {Q : VK} (P1 : PlanAt K C H r n as ts) (P2 : PlanAt K C H d n as ts) (q : ∀ H', Same H H' → Q (.bl false) H') : NeO.rNeI C (spPlEq K C) (.ref r) (.ref d) H Q := by
  obtain ⟨⟨dx, a0, t0, hp, _⟩, _⟩ := id P1
  obtain ⟨⟨dy, b0, u0, hq, _⟩, _⟩ := id P2
  refine ⟨r, d, dx, dy, _, _, rfl, rfl, hp, hq, r, d, n, n, as, ts, as, ts, rfl, P1, P2, fun H' s' => ⟨samePl n n as as ts ts, rfl, ?_⟩⟩
  have e : samePl n n as as ts ts = true := by simp
  rw [e]
  exact q H' s'
def spRightV (K : PySem.W.Frag) (Pt : Addr) : Sp := fun vs H Q _ => ∃ a : Addr, vs = [.ref a] ∧ Pot H a ∧ Tabs (tLams Pt) H ∧ ∀ H', Q (.bl true) H'
def spLawV (K : PySem.W.Frag) (Pt : Addr) : Sp := fun vs H Q _ => ∃ (a : Addr) (ns : List Int), vs = [.ref a] ∧ SqL K H a (ns.map V.int) ∧ Tabs (tLams Pt) H ∧ ∀ H', Q (.bl true) H'
section
variable {P : Program} {w : World} {K : PySem.W.Frag} {mg : Str → Option Value} {base : Heap}
abbrev nRightV : List Str := ["_law_pot_here", "_law_size", "_law_own", "_law_told", "_law_at", "_law_plan"]
theorem sc_rightV : FnScope nRightV ["_law_pot_here"] (defScope sRight) := ⟨rfl, rfl, rfl, by decide +kernel, rfl, by decide +kernel, by decide +kernel⟩
structure CallsV (P : Program) (w : World) (K : PySem.W.Frag) (mg : Str → Option Value) (base : Heap) (C Pt : Addr) : Prop where
  init : ∃ fI dI, Mk K C fI ∧ mg "Plan" = some (.ref C) ∧ Binds K dI ["self", "size", "arrows", "ties"] [] ∧ FnOk P w K mg base CX0 7 fI dI ["self", "size", "arrows", "ties"] (spInit K C)
  pick : ∃ f fd, Df K mg "_law_pick" sPick ["_law_pot_here", "_law_some"] f fd ∧ FnOk P w K mg base CX0 2 f fd ["_law_pot_here", "_law_some"] (spPick K)
  draw : ∃ f fd, Df K mg "_law_draw" sDraw ["_law_pot_here", "_law_many"] f fd ∧ FnOk P w K mg base CX0 1 f fd ["_law_pot_here", "_law_many"] spDraw
  all : ∃ f fd, Df K mg "_law_all" sAllV ["_law_size"] f fd ∧ FnOk P w K mg base CX0 4 f fd ["_law_size"] (spAllV K)
  full : ∃ f fd, Df K mg "full_plans" sFullPl ["size"] f fd ∧ FnOk P w K mg base CX0 12 f fd ["size"] (spFullPl K C Pt) ∧ ∀ (s : Shared) (ws : List Value), ws.length = (["size"] : List Str).length → BindsTo s fd ⟨[], (["size"] : List Str).zip ws⟩ ((["size"] : List Str).zip ws.reverse)
  isf : ∃ f fd, Df K mg "is_full" sIsFull ["plan"] f fd ∧ FnOk P w K mg base CX0 8 f fd ["plan"] (spIsFull K C)
theorem ok_rightV {f C Pt pW gW fA fT fE fR : Addr} {fd fdW fdA fdT fdE fdR : FuncData} (F : Fun K "_law_right" "_law_right" sRight f fd) (M : PlM K mg C pW gW fA fT fdW fdA fdT) (ME : PlE K mg C fE fR fdE fdR) (Z : CallsV P w K mg base C Pt) (B : Bl mg) :
    FnOk P w K mg base CX0 13 f fd ["_law_pot_here"] (spRightV K Pt) := by
  obtain ⟨fI, dI, MI, gC, bI, GI⟩ := Z.init
  obtain ⟨fP, dP', DP, GP⟩ := Z.pick
  obtain ⟨fD, dD', DD, GD⟩ := Z.draw
  obtain ⟨fL, dL, DL, GL⟩ := Z.all
  obtain ⟨fF, dF', DF, GF, kF⟩ := Z.full
  obtain ⟨fS, dS, DS, GS⟩ := Z.isf
  have GA : FnOk P w K mg base CX0 1 fA fdA ["self"] (spArr K C) := ok_arrows M.FA M.c B
  have GT : FnOk P w K mg base CX0 1 fT fdT ["self"] (spTies K C) := ok_ties M.FT M.c B
  have GW : FnOk P w K mg base CX0 1 gW fdW ["self"] (getSp C "_size") := ok_width M.FW M.c
  have GE : FnOk P w K mg base CX0 1 fE fdE ["self", "other"] (spPlEq K C) := ok_plEq ME B
  refine F.ok sc_rightV (fun vs H Q E h => ?_) (fun cdv A outer s H vs Q E hr h => ?_)
  · obtain ⟨a, rfl, _⟩ := h
    rfl
  · obtain ⟨a, rfl, pot, hT, q⟩ := h
    have hr1 : Room 1 _ := hr.mono (by decide)
    have hr2 : Room 2 _ := hr.mono (by decide)
    have hr4 : Room 4 _ := hr.mono (by decide)
    have hr8 : Room 8 _ := hr.mono (by decide)
    refine ⟨_, pss_cons (ps_set (i := 1) sc_rightV.nd rfl (Or.inr rfl) (pe_call GP hr2 rfl DP.g DP.F.kp DP.b .nil pass0 (pa_cons (pv 0) (pa_cons (pe_lst (pa_cons pe_int (pa_cons pe_int (pa_cons pe_int (pa_cons pe_int (pa_cons pe_int (pa_cons pe_int pa_nil))))))) pa_nil))))
      (pss_cons (ps_par (i := 2) (j := 3) rfl sc_rightV.nd rfl rfl (by decide) rfl rfl (pa_cons (pe_call GL hr4 rfl DL.g DL.F.kp DL.b .nil pass0 (pa_cons (pv 1) pa_nil)) (pa_cons (pe_call GF hr rfl DF.g DF.F.kp DF.b .nil pass0 (pa_cons (pv 1) pa_nil)) pa_nil)) (by rfl))
      (pss_cons (ps_if (PW.pt (pw_or (pt_cmpR op_ne (pe_callB call_len_seq (by rfl) B.len PySem.boot_len (pa_cons (pv 2) pa_nil)) (pe_ix ix_list (pe_lst (pa_cons pe_int (pa_cons pe_int (pa_cons pe_int (pa_cons pe_int (pa_cons pe_int pa_nil)))))) (pv 1) (fun _ _ => rfl)) (nomark _))
          (pw_or1 (pt_not (pt_val (pe_callB call_isi (by rfl) B.isi PyProof.Rows.boot_isinstance (pa_cons (pv 3) (pa_cons (pe_bltn (v := .ty "list") (by rfl) B.list PyProof.Rows.boot_list rfl) pa_nil)))))))) (pss_one (ps_ret pe_bl)) pss_nil)
      (pss_cons (ps_if (PW.pt (pw_or (pt_cmpR (op_neD hr.units) (pe_lc (own := [("_law_plan", 5)]) (g := gName 5) (tt := tYes) (te := teKey K C 5) rfl sc_rightV.nd (pi_list (pv 3)) (blkOk_by (N := nRightV) (sc := defScope sRight) (by decide +kernel)) (fun _ _ _ _ _ => pg_name (i := 5) sc_rightV.nd rfl (Or.inl rfl)) (fun _ _ _ _ _ => pts_nil)
              (fun _ _ _ _ _ => pe_tup (pa_cons (pe_meth0 (pv 5) M.c.cl M.mA GA hr1 M.bA .nil pass0) (pa_cons (pe_meth0 (pv 5) M.c.cl M.mT GT hr1 M.bT .nil pass0) pa_nil)))) (pv 2) (nomark _))
          (pw_or1 (pt_not (pt_val (pe_callB (cr_all rfl) (by rfl) B.all PyProof.Rows.boot_all (pa_cons
            (pe_lc (own := [("_law_plan", 5)]) (g := gName 5) (tt := tYes) (te := tOp rEq (tProp C (getSp C "_size") [] E0 (tVar 5)) (tVar 1)) rfl sc_rightV.nd (pi_list (pv 3)) (blkOk_by (N := nRightV) (sc := defScope sRight) (by decide +kernel)) (fun _ _ _ _ _ => pg_name (i := 5) sc_rightV.nd rfl (Or.inl rfl)) (fun _ _ _ _ _ => pts_nil)
              (fun _ _ _ _ _ => pe_cmpR op_eq (pe_prop (pv 5) M.c.cl M.prop GW hr2 M.bW .nil pass0 rfl) (pv 1) (nomark _))) pa_nil))))))) (pss_one (ps_ret pe_bl)) pss_nil)
      (pss_cons (ps_set (i := 4) sc_rightV.nd rfl (Or.inl rfl) (pe_call GD hr1 rfl DD.g DD.F.kp DD.b .nil pass0 (pa_cons (pv 0) (pa_cons (pe_callB call_len_seq (by rfl) B.len PySem.boot_len (pa_cons (pv 2) pa_nil)) pa_nil))))
      (pss_cons (ps_if (PW.pt (pw_or (pt_cmpR (NeO.op_neI ME.eq GE hr2 ME.bE) (pe_ix ix_list (pv 3) (pv 4) (fun _ _ => rfl)) (pe_make MI GI hr8 rfl gC bI .nil pass0 (pa_cons (pv 1) (pa_cons (pe_ix ix_tup (pe_ix ix_list (pv 2) (pv 4) (fun _ _ => rfl)) pe_int (fun _ _ => rfl)) (pa_cons (pe_ix ix_tup (pe_ix ix_list (pv 2) (pv 4) (fun _ _ => rfl)) pe_int (fun _ _ => rfl)) pa_nil)))) (nomark _))
          (pw_or1 (pt_cmpR op_notBl (pe_call GS hr8 rfl DS.g DS.F.kp DS.b .nil pass0 (pa_cons (pe_ix ix_list (pv 3) (pv 4) (fun _ _ => rfl)) pa_nil)) pe_bl (nomark _))))) (pss_one (ps_ret pe_bl)) pss_nil)
      (pss_cons (ps_expr (pe_bm PySem.F.plainAttrs_list PySem.F.slot_list_append PySem.F.type_list_append mt_append (pv 3) (pa_cons pe_non pa_nil)))
      (pss_one (ps_ret (pe_or (pe_cmpR op_gt (pv 1) pe_int (nomark _)) (pe_one (pe_cmpR (op_eqD hr.units) (pe_lc (own := [("_law_plan", 5)]) (g := gName 5) (tt := tYes) (te := teKey K C 5) rfl sc_rightV.nd
              (pi_list (pe_kwR GF hr rfl DF.g DF.F.kp kF (pk_cons (pv 1) pk_nil))) (blkOk_by (N := nRightV) (sc := defScope sRight) (by decide +kernel)) (fun _ _ _ _ _ => pg_name (i := 5) sc_rightV.nd rfl (Or.inl rfl)) (fun _ _ _ _ _ => pts_nil)
              (fun _ _ _ _ _ => pe_tup (pa_cons (pe_meth0 (pv 5) M.c.cl M.mA GA hr1 M.bA .nil pass0) (pa_cons (pe_meth0 (pv 5) M.c.cl M.mT GT hr1 M.bT .nil pass0) pa_nil)))) (pv 2) (nomark _)))))))))))), ?_⟩
    -- a size
    refine ⟨_, rfl, szle (by show 6 ≤ 100000; decide), fun lw hlw => ?_⟩
    have slw := same_new (o := .lst [V.int 0, V.int 1, V.int 2, V.int 3, V.int 3, V.int 4]) hlw
    have nlw : lw ≠ a := fun e => by obtain ⟨u, v, g, _⟩ := pot; rw [e, g] at hlw; cases hlw
    refine ⟨a, lw, [V.int 0, V.int 1, V.int 2, V.int 3, V.int 3, V.int 4], rfl, pot_s pot slw, upd_same, nlw, by simp, by decide, fun H1 i v sx1 p1 hv => ?_⟩
    obtain ⟨nz, hz, rfl⟩ := int_at (ns := [0, 1, 2, 3, 3, 4]) hv
    have nz4 : 0 ≤ nz ∧ nz ≤ 4 := by
      have := List.mem_of_getElem? hz
      simp at this
      omega
    obtain ⟨n, rfl⟩ : ∃ n : Nat, nz = (n : Int) := ⟨nz.toNat, by omega⟩
    have n4 : n ≤ 4 := by omega
    have T1 := tabs_x (tabs_same hT slw) (pot_s pot slw) sx1
    clear hz hv sx1 slw nlw hlw pot hT
    -- the law's own list and the told one
    refine ⟨_, rfl, n, rfl, n4, fun H2 r xs cs s2 hr20 hr2 dp pm srt => ⟨_, rfl, n, rfl, n4, tabs_same T1 s2, fun H3 r3 zs ds s3 T3 hr30 hr3 hpl pm3 srt3 => ⟨_, _, rfl, ?_⟩⟩⟩
    have ecs : ds = cs := ch_one srt3 srt (pm3.trans pm.symm)
    subst ecs
    have p3 := pot_s (pot_noT (pot_s p1 s2)) s3
    have hr3o : H3 r = some (.lst xs) := s3 _ _ (noT_get hr2 fun _ c => nomatch c)
    have ow3 : OwnP K (em r3 H3) xs ds := own_s (own_noT (own_of dp)) (em_of hr30 s3)
    have lds : ds.length = chNo n := by rw [pm.length_eq, ch_no n4]
    have lxs : xs.length = chNo n := by rw [ow3.1, lds]
    have no60 : chNo n ≤ 60 ∧ 0 < chNo n := by
      have h1 : n = 0 ∨ n = 1 ∨ n = 2 ∨ n = 3 ∨ n = 4 := by omega
      rcases h1 with rfl | rfl | rfl | rfl | rfl <;> decide
    have hin : ∀ c ∈ ds, c ∈ chAll n := fun c hc => (List.mem_filter.mp (pm.mem_iff.mp hc)).1
    have hpc : ∀ c ∈ ds, plainC n c.1 c.2 = true := fun c hc => (List.mem_filter.mp (pm.mem_iff.mp hc)).2
    have nra : r ≠ a := fun e => by
      have p2 := pot_s p1 s2
      obtain ⟨u, v, g, _⟩ := p1
      rw [e, g] at hr20
      cases hr20
    have nr3a : r3 ≠ a := fun e => by
      obtain ⟨u, v, g, _⟩ := pot_noT (pot_s p1 s2)
      rw [e, g] at hr30
      cases hr30
    have nr3r : r3 ≠ r := fun e => by
      rw [e, noT_get hr2 fun _ c => nomatch c] at hr30
      cases hr30
    clear pm3 srt3 dp hr2 hr20 hr30 s2 s3 T1 p1
    have hat : atI [V.int 1, V.int 1, V.int 2, V.int 8, V.int 60] (n : Int) = some (V.int (chNo n : Nat)) := by
      have h1 : n = 0 ∨ n = 1 ∨ n = 2 ∨ n = 3 ∨ n = 4 := by omega
      rcases h1 with rfl | rfl | rfl | rfl | rfl <;> rfl
    refine ⟨_, rfl, r, xs, rfl, .inl (sl_of hr3o), szle (by show 5 ≤ 100000; decide), fun l5 hl5 => ⟨_, rfl, l5, _, _, _, rfl, rfl, sl_of upd_same, hat, rfl, _, ne_bl, ?_⟩⟩
    rw [decide_eq_true (show ((xs.length : Nat) : Int) = (chNo n : Nat) by rw [lxs])]
    have s4 := same_new (o := .lst [V.int 1, V.int 1, V.int 2, V.int 8, V.int 60]) hl5
    have p4 := pot_s p3 s4
    have hr4o := s4 _ _ hr3o
    have hr4' := s4 _ _ hr3
    have hpl4 := pls_s s4 hpl
    have ow4 := own_s ow3 (em_s s4)
    have T4 := tabs_same T3 s4
    generalize upd H3 l5 (.lst [V.int 1, V.int 1, V.int 2, V.int 8, V.int 60]) = H4 at s4 p4 hr4o hr4' hpl4 ow4 T4
    clear s4 p3 hr3o hr3 hpl ow3 T3 hl5
    refine iteF ⟨_, rfl, V.ref r3, V.ty "list", _, _, true, rfl, .ty _, .base (TyOf.lst hr4'), (by unfold PySem.W.kitOne; rw [if_pos (by simp)]), true, rfl, iteF ?_⟩
    -- all arrows and ties
    refine ⟨_, rfl, r3, rfl, ⟨zs, sl_of hr4'⟩, fun D hD => keys_go n4 hin (by omega) (fun _ => rfl) (fun _ => rfl) hD hr4' hpl4 fun H5 acc s5 hacc hch => ⟨_, rfl, .list (ds.map dCh), .list (ds.map dCh), .lst (sl_of hacc) (chs_dps hch), .lst (sl_of (s5 _ _ hr4o)) (own_dps (own_s (own_s ow4 em_le) s5)), shaped_ch _, shaped_ch _, ?_⟩⟩
    rw [eqv_chs, decide_eq_true rfl]
    refine ⟨_, rfl, iteF ?_⟩
    have p5 := pot_s p4 s5
    have hr5o := s5 _ _ hr4o
    have hr5 := s5 _ _ hr4'
    have hpl5 := pls_s s5 hpl4
    have ow5 := own_s ow4 (em_s s5)
    have T5 := tabs_same T4 s5
    clear s5 p4 hr4o hr4' hpl4 ow4 T4 hch hacc hD
    -- all widths
    refine ⟨_, rfl, r3, rfl, ⟨zs, sl_of hr5⟩, fun D2 hD2 => ?_⟩
    refine lc_list (xs := zs) (fun k G => Same H5 G ∧ G D2 = some (.lst ((List.replicate k true).map V.bl))) ⟨same_new hD2, upd_same⟩ (fun k G _ z => sl_of (z.1 _ _ hr5)) ?_ ?_
    · rintro k x G hx ⟨sG, hG⟩
      obtain ⟨c, z, as, ts, hc, rfl, PZ, _, _⟩ := pls_at hpl5 hx
      have hk := lt_of_at hx
      have PG := plan_s PZ sG
      obtain ⟨⟨dx, a0, t0, hz, _⟩, _⟩ := id PG
      refine ⟨rfl, _, rfl, z, dx, _, rfl, hz, z, dx, _, _, rfl, hz, pf_size _ _ _, _, rfl, ?_⟩
      refine ⟨rfl, _, hG, szlt (by rw [List.length_map, List.length_replicate]; have := pls_len hpl5; omega), same_mut sG hD2, ?_⟩
      rw [upd_same, decide_eq_true rfl, List.replicate_succ', List.map_append]
      rfl
    · rintro H6 ⟨s6, hD6⟩
      refine ⟨D2, List.replicate zs.length true, rfl, sl_of hD6, true, by simp, iteF ?_⟩
      have p6 := pot_s p5 s6
      have hr6o := s6 _ _ hr5o
      have hr6 := s6 _ _ hr5
      have hpl6 := pls_s s6 hpl5
      have ow6 := own_s ow5 (em_s s6)
      have T6 := tabs_same T5 s6
      clear s6 p5 hr5o hr5 hpl5 ow5 T5 hD6 hD2
      -- a position
      refine ⟨_, rfl, _, rfl, r, xs, rfl, .inl (sl_of hr6o), a, (xs.length : Int), rfl, p6, by omega, by omega, fun H7 d sx7 p7 d0 d1 => ?_⟩
      have hr7o := sx7 _ _ nra hr6o
      have hr7 := sx7 _ _ nr3a hr6
      have T7 := tabs_x T6 p6 sx7
      have ow7 := own_xE nr3a ow6 p6 sx7
      have hpl7 := pls_xP p6 sx7 hpl6
      clear sx7 p6 hr6o hr6 hpl6 ow6 T6
      obtain ⟨m, rfl⟩ : ∃ m : Nat, d = (m : Int) := ⟨d.toNat, by omega⟩
      obtain ⟨c, hc⟩ : ∃ c, ds[m]? = some c := ⟨_, List.getElem?_eq_getElem (by omega)⟩
      obtain ⟨t, l0, l1, hx, ht, hl0, hl1⟩ := (own_s ow7 em_le).2 m c hc
      obtain ⟨zm, hzm⟩ : ∃ z, zs[m]? = some z := ⟨_, List.getElem?_eq_getElem (by rw [pls_len hpl7]; exact lt_of_at hc)⟩
      obtain ⟨c', z, as, ts, hc', rfl, PZ, pa, pt⟩ := pls_at hpl7 hzm
      rw [hc] at hc'
      cases hc'
      have cin := List.mem_of_getElem? hc
      have ec := plan_ch n4 (hin c cin) PZ pa pt
      subst ec
      obtain ⟨_, n6, pas, acy, pts, lt, sa, st⟩ := id PZ
      refine ⟨_, rfl, _, rfl, r3, zs, _, _, rfl, rfl, sl_of hr7, atI_nat hzm, ?_⟩
      refine ⟨_, rfl, _, rfl, _, rfl, r, xs, _, _, rfl, rfl, sl_of hr7o, atI_nat hx, t, _, _, _, rfl, rfl, ht, rfl, ?_⟩
      refine ⟨_, rfl, _, rfl, r, xs, _, _, rfl, rfl, sl_of hr7o, atI_nat hx, t, _, _, _, rfl, rfl, ht, rfl, ?_⟩
      refine fun x dx' nx ndx nex => mk_plan hl0 (pl_pa2 hl1) n6 pas acy pts lt nx ndx fun H8 as8 ts8 s8 pA8 pT8 P8 => ⟨rfl, ?_⟩
      have e8 := srt_eq P8.sa sa pA8
      have e9 := srt_eq P8.st st pT8
      subst e8
      subst e9
      refine ne_sameV (plan_s PZ s8) P8 fun H9 s9 => ⟨_, rfl, iteF ?_⟩
      have s79 := s8.trans s9
      refine ⟨_, rfl, _, rfl, r3, zs, _, _, rfl, rfl, sl_of (s79 _ _ hr7), atI_nat hzm, z, n, as8, ts8, rfl, plan_s PZ s79, fun H10 s10 => ?_⟩
      have fb : fullB n as8 ts8 = true := by
        unfold fullB
        rw [ch_full n4 (hin _ cin), plainB_C, hpc _ cin]
        rfl
      rw [fb]
      refine ⟨true, true, rfl, rfl, _, rfl, iteF ?_⟩
      have s710 := s79.trans s10
      have hr10o := s710 _ _ hr7o
      have hr10 := s710 _ _ hr7
      have ow10 := own_s ow7 (em_s s710)
      have T10 := tabs_same T7 s710
      have lz : zs.length ≤ 60 := by
        rw [pls_len hpl7]
        omega
      clear nx ndx nex P8 s8 s9 s79 s10 s710 hr7o hr7 ow7 T7 p7 hpl7 PZ
      -- told lists are new
      refine ⟨_, rfl, .inl ⟨rfl, _, sl_of hr10⟩, r3, zs, .non, rfl, rfl, hr10, szlt (by omega), ?_⟩
      have T11 := tabs_but T10 hr10 (H' := upd H10 r3 (.lst (zs ++ [.non]))) fun b o nb hb => by rw [upd_ne nb]; exact hb
      have ow11 : OwnP K (upd H10 r3 (.lst (zs ++ [.non]))) xs ds := own_s (own_s ow10 em_up) em_le
      have hr11o : (upd H10 r3 (.lst (zs ++ [.non]))) r = some (.lst xs) := by rw [upd_ne nr3r.symm]; exact hr10o
      generalize upd H10 r3 (.lst (zs ++ [.non])) = H11 at T11 ow11 hr11o
      refine ⟨_, rfl, _, _, rfl, rfl, _, rfl, ?_⟩
      by_cases c3 : (3 : Int) < n
      · rw [decide_eq_true c3]
        exact iteT (q _)
      rw [decide_eq_false c3]
      -- asked again, by name
      refine iteF ⟨_, rfl, rfl, n, rfl, n4, T11, fun H12 r12 zs2 ds2 s12 T12 hr120 hr12 hpl12 pm12 srt12 => ?_⟩
      have ed : ds2 = ds := ch_one srt12 srt (pm12.trans pm.symm)
      subst ed
      have ow12 := own_s (own_noT ow11) s12
      have hr12o : H12 r = some (.lst xs) := s12 _ _ (noT_get hr11o fun _ c => nomatch c)
      refine ⟨r12, rfl, ⟨zs2, sl_of hr12⟩, fun D3 hD3 => keys_go n4 hin (by omega) (fun _ => rfl) (fun _ => rfl) hD3 hr12 hpl12 fun H13 acc2 s13 hacc2 hch2 => ⟨_, rfl, .list (ds2.map dCh), .list (ds2.map dCh), .lst (sl_of hacc2) (chs_dps hch2), .lst (sl_of (s13 _ _ hr12o)) (own_dps (own_s ow12 s13)), shaped_ch _, shaped_ch _, ?_⟩⟩
      rw [eqv_chs, decide_eq_true rfl]
      exact q _
theorem sc_lawV : FnScope ["_law_script"] ["_law_script"] (defScope sLaw) := ⟨rfl, rfl, rfl, by decide +kernel, rfl, by decide +kernel, by decide +kernel⟩
theorem ok_lawV {f f1 f2 Pt : Addr} {fd fd1 fd2 : FuncData} (F : Fun K "law" "law" sLaw f fd) (D1 : Df K mg "_law_pot" sPot ["_law_script", "_law_k"] f1 fd1) (D2 : Df K mg "_law_right" sRight ["_law_pot_here"] f2 fd2)
    (G2 : FnOk P w K mg base CX0 13 f2 fd2 ["_law_pot_here"] (spRightV K Pt)) (B : Bl mg) : FnOk P w K mg base CX0 14 f fd ["_law_script"] (spLawV K Pt) := by
  have G1 : FnOk P w K mg base CX0 1 f1 fd1 ["_law_script", "_law_k"] (spPot K) := ok_pot D1.F B
  refine F.ok sc_lawV (fun vs H Q E h => ?_) (fun cdv A outer s H vs Q E hr h => ?_)
  · obtain ⟨a, ns, rfl, _⟩ := h
    rfl
  · obtain ⟨a, ns, rfl, ha, hT, q⟩ := h
    refine ⟨_, pss_one (ps_ret (pe_call G2 hr rfl D2.g D2.F.kp D2.b .nil pass0 (pa_cons (pe_call G1 (hr.mono (by decide)) rfl D1.g D1.F.kp D1.b .nil pass0 (pa_cons (pv 0) (pa_cons pe_int pa_nil))) pa_nil))), ?_⟩
    exact ⟨_, rfl, a, ns, rfl, ha, fun H1 p s1 hp pot => ⟨p, rfl, pot, tabs_same hT s1, q⟩⟩
end
end Tk

namespace Tk
open PySem PySem.Spec PyProof.Rows L2
theorem kit_self {K : PySem.W.Frag} {C : Addr} : PySem.W.kitOne K (.ref C) (.ref C) = some true := by
  unfold PySem.W.kitOne
  rw [if_pos (by simp)]
theorem all_mk {P : Program} {w : World} {K : PySem.W.Frag} {h : Heap} {mg : Str → Option Value} {fa C pW f0 f1 f2 f3 f4 f5 f6 f7 f8 f9 f10 f11 f12 f13 f14 f15 f16 f17 f18 f19 f20 f21 f22 f23 f24 f25 f26 f27 f28 f29 f30 f31 f32 f33 f34 f35 f36 f37 f38 f39 f40 f41 f42 f43 f44 f45 cz Pz : Addr} {ez : Value} {dz : Option Addr} {vz : Array Value} {sz : Array (Option Value)} {rest : List Value} {tkM tkC0 tkC1 : Tok} (X : K.In h) (G : h.Ns mainGlobals mg) (hfa : mg "law" = some (.ref fa))
    {od0 an0 od1 an1 od2 an2 od3 an3 od4 an4 od5 an5 od6 an6 od7 an7 od8 an8 od9 an9 od10 an10 od11 an11 od12 an12 od13 an13 od14 an14 od15 an15 od16 an16 od17 an17 od18 an18 od19 an19 od20 an20 od21 an21 od22 an22 od23 an23 od24 an24 od25 an25 od26 an26 od27 an27 od28 an28 od29 an29 od30 an30 od31 an31 od32 an32 od33 an33 od34 an34 od35 an35 od36 an36 od37 an37 od38 an38 od39 an39 od40 an40 od41 an41 od42 an42 od43 an43 od44 an44 od45 an45 : Option Addr} {sl0 sl1 sl2 sl3 sl4 sl5 sl6 sl7 sl8 sl9 sl10 sl11 sl12 sl13 sl14 sl15 sl16 sl17 sl18 sl19 sl20 sl21 sl22 sl23 sl24 sl25 sl26 sl27 sl28 sl29 sl30 sl31 sl32 sl33 sl34 sl35 sl36 sl37 sl38 sl39 sl40 sl41 sl42 sl43 sl44 sl45 : Array (Option Value)}
    {oc0 kV0 dc0 pm0 cd0 ct0 oc1 kV1 dc1 pm1 cd1 ct1 oc2 kV2 dc2 pm2 cd2 ct2 oc3 kV3 dc3 pm3 cd3 ct3 oc4 kV4 dc4 pm4 cd4 ct4 oc5 kV5 dc5 pm5 cd5 ct5 oc6 kV6 dc6 pm6 cd6 ct6 oc7 kV7 dc7 pm7 cd7 ct7 oc8 kV8 dc8 pm8 cd8 ct8 oc9 kV9 dc9 pm9 cd9 ct9 oc10 kV10 dc10 pm10 cd10 ct10 oc11 kV11 dc11 pm11 cd11 ct11 oc12 kV12 dc12 pm12 cd12 ct12 oc13 kV13 dc13 pm13 cd13 ct13 oc14 kV14 dc14 pm14 cd14 ct14 oc15 kV15 dc15 pm15 cd15 ct15 oc16 kV16 dc16 pm16 cd16 ct16 oc17 kV17 dc17 pm17 cd17 ct17 oc18 kV18 dc18 pm18 cd18 ct18 oc19 kV19 dc19 pm19 cd19 ct19 oc20 kV20 dc20 pm20 cd20 ct20 oc21 kV21 dc21 pm21 cd21 ct21 oc22 kV22 dc22 pm22 cd22 ct22 oc23 kV23 dc23 pm23 cd23 ct23 oc24 kV24 dc24 pm24 cd24 ct24 oc25 kV25 dc25 pm25 cd25 ct25 oc26 kV26 dc26 pm26 ct26 oc27 kV27 dc27 pm27 cd27 ct27 oc28 kV28 dc28 pm28 cd28 ct28 oc29 kV29 dc29 pm29 cd29 ct29 oc30 kV30 dc30 pm30 cd30 ct30 oc31 kV31 dc31 pm31 cd31 ct31 oc32 kV32 dc32 pm32 cd32 ct32 oc33 kV33 dc33 pm33 cd33 ct33 oc34 kV34 dc34 pm34 cd34 ct34 oc35 kV35 dc35 pm35 cd35 ct35 oc36 kV36 dc36 pm36 cd36 ct36 oc37 kV37 dc37 pm37 cd37 ct37 oc38 kV38 dc38 pm38 cd38 ct38 oc39 kV39 dc39 pm39 cd39 ct39 oc40 kV40 dc40 pm40 cd40 ct40 oc41 kV41 dc41 pm41 cd41 ct41 oc42 kV42 dc42 pm42 cd42 ct42 oc43 kV43 dc43 pm43 cd43 ct43 oc44 kV44 dc44 pm44 cd44 ct44 oc45 kV45 dc45 pm45 cd45 ct45 : Value}
    (aC : PySem.W.nsIn K mainGlobals "Plan" = some (some (.ref C)))
    (a0 : PySem.W.nsIn K mainGlobals "is_integer" = some (some (.ref f0)))
    (l0 : K.lookup f0 = some ⟨oc0, od0, .func (PySem.W.fnOf "is_integer" "is_integer" (defArgs sIsInt) (defBody sIsInt) (defScope sIsInt) .none kV0 dc0 pm0 an0 cd0 ct0), sl0⟩)
    (c0 : PySem.W.codeIn K cd0 "is_integer" = true)
    (k0 : PySem.W.keepIn K (.ref f0) = true)
    (a1 : PySem.W.nsIn K mainGlobals "is_count" = some (some (.ref f1)))
    (l1 : K.lookup f1 = some ⟨oc1, od1, .func (PySem.W.fnOf "is_count" "is_count" (defArgs sIsCnt) (defBody sIsCnt) (defScope sIsCnt) .none kV1 dc1 pm1 an1 cd1 ct1), sl1⟩)
    (c1 : PySem.W.codeIn K cd1 "is_count" = true)
    (k1 : PySem.W.keepIn K (.ref f1) = true)
    (a2 : PySem.W.nsIn K mainGlobals "is_list" = some (some (.ref f2)))
    (l2 : K.lookup f2 = some ⟨oc2, od2, .func (PySem.W.fnOf "is_list" "is_list" (defArgs sIsLst) (defBody sIsLst) (defScope sIsLst) .none kV2 dc2 pm2 an2 cd2 ct2), sl2⟩)
    (c2 : PySem.W.codeIn K cd2 "is_list" = true)
    (k2 : PySem.W.keepIn K (.ref f2) = true)
    (a3 : PySem.W.nsIn K mainGlobals "is_thing" = some (some (.ref f3)))
    (l3 : K.lookup f3 = some ⟨oc3, od3, .func (PySem.W.fnOf "is_thing" "is_thing" (defArgs sIsThg) (defBody sIsThg) (defScope sIsThg) .none kV3 dc3 pm3 an3 cd3 ct3), sl3⟩)
    (c3 : PySem.W.codeIn K cd3 "is_thing" = true)
    (k3 : PySem.W.keepIn K (.ref f3) = true)
    (a4 : PySem.W.nsIn K mainGlobals "is_pair" = some (some (.ref f4)))
    (l4 : K.lookup f4 = some ⟨oc4, od4, .func (PySem.W.fnOf "is_pair" "is_pair" (defArgs sIsPair) (defBody sIsPair) (defScope sIsPair) .none kV4 dc4 pm4 an4 cd4 ct4), sl4⟩)
    (c4 : PySem.W.codeIn K cd4 "is_pair" = true)
    (k4 : PySem.W.keepIn K (.ref f4) = true)
    (a5 : PySem.W.nsIn K mainGlobals "are_pairs" = some (some (.ref f5)))
    (l5 : K.lookup f5 = some ⟨oc5, od5, .func (PySem.W.fnOf "are_pairs" "are_pairs" (defArgs sArePairs) (defBody sArePairs) (defScope sArePairs) .none kV5 dc5 pm5 an5 cd5 ct5), sl5⟩)
    (c5 : PySem.W.codeIn K cd5 "are_pairs" = true)
    (k5 : PySem.W.keepIn K (.ref f5) = true)
    (a6 : PySem.W.nsIn K mainGlobals "are_arrows" = some (some (.ref f6)))
    (l6 : K.lookup f6 = some ⟨oc6, od6, .func (PySem.W.fnOf "are_arrows" "are_arrows" (defArgs sAreArr) (defBody sAreArr) (defScope sAreArr) .none kV6 dc6 pm6 an6 cd6 ct6), sl6⟩)
    (c6 : PySem.W.codeIn K cd6 "are_arrows" = true)
    (k6 : PySem.W.keepIn K (.ref f6) = true)
    (a7 : PySem.W.nsIn K mainGlobals "are_ties" = some (some (.ref f7)))
    (l7 : K.lookup f7 = some ⟨oc7, od7, .func (PySem.W.fnOf "are_ties" "are_ties" (defArgs sAreTies) (defBody sAreTies) (defScope sAreTies) .none kV7 dc7 pm7 an7 cd7 ct7), sl7⟩)
    (c7 : PySem.W.codeIn K cd7 "are_ties" = true)
    (k7 : PySem.W.keepIn K (.ref f7) = true)
    (a8 : PySem.W.nsIn K mainGlobals "turned" = some (some (.ref f8)))
    (l8 : K.lookup f8 = some ⟨oc8, od8, .func (PySem.W.fnOf "turned" "turned" (defArgs sTurned) (defBody sTurned) (defScope sTurned) .none kV8 dc8 pm8 an8 cd8 ct8), sl8⟩)
    (c8 : PySem.W.codeIn K cd8 "turned" = true)
    (k8 : PySem.W.keepIn K (.ref f8) = true)
    (a9 : PySem.W.nsIn K mainGlobals "both_ways" = some (some (.ref f9)))
    (l9 : K.lookup f9 = some ⟨oc9, od9, .func (PySem.W.fnOf "both_ways" "both_ways" (defArgs sBothWays) (defBody sBothWays) (defScope sBothWays) .none kV9 dc9 pm9 an9 cd9 ct9), sl9⟩)
    (c9 : PySem.W.codeIn K cd9 "both_ways" = true)
    (k9 : PySem.W.keepIn K (.ref f9) = true)
    (a10 : PySem.W.nsIn K mainGlobals "within" = some (some (.ref f10)))
    (l10 : K.lookup f10 = some ⟨oc10, od10, .func (PySem.W.fnOf "within" "within" (defArgs sWithin) (defBody sWithin) (defScope sWithin) .none kV10 dc10 pm10 an10 cd10 ct10), sl10⟩)
    (c10 : PySem.W.codeIn K cd10 "within" = true)
    (k10 : PySem.W.keepIn K (.ref f10) = true)
    (a11 : PySem.W.nsIn K mainGlobals "order_of" = some (some (.ref f11)))
    (l11 : K.lookup f11 = some ⟨oc11, od11, .func (PySem.W.fnOf "order_of" "order_of" (defArgs sOrdOf) (defBody sOrdOf) (defScope sOrdOf) .none kV11 dc11 pm11 an11 cd11 ct11), sl11⟩)
    (c11 : PySem.W.codeIn K cd11 "order_of" = true)
    (k11 : PySem.W.keepIn K (.ref f11) = true)
    (a12 : PySem.W.nsIn K mainGlobals "reached" = some (some (.ref f12)))
    (l12 : K.lookup f12 = some ⟨oc12, od12, .func (PySem.W.fnOf "reached" "reached" (defArgs sReached) (defBody sReached) (defScope sReached) .none kV12 dc12 pm12 an12 cd12 ct12), sl12⟩)
    (c12 : PySem.W.codeIn K cd12 "reached" = true)
    (k12 : PySem.W.keepIn K (.ref f12) = true)
    (a13 : PySem.W.nsIn K mainGlobals "is_size" = some (some (.ref f13)))
    (l13 : K.lookup f13 = some ⟨oc13, od13, .func (PySem.W.fnOf "is_size" "is_size" (defArgs sIsSize) (defBody sIsSize) (defScope sIsSize) .none kV13 dc13 pm13 an13 cd13 ct13), sl13⟩)
    (c13 : PySem.W.codeIn K cd13 "is_size" = true)
    (k13 : PySem.W.keepIn K (.ref f13) = true)
    (a14 : PySem.W.nsIn K mainGlobals "check_size" = some (some (.ref f14)))
    (l14 : K.lookup f14 = some ⟨oc14, od14, .func (PySem.W.fnOf "check_size" "check_size" (defArgs sChkSize) (defBody sChkSize) (defScope sChkSize) .none kV14 dc14 pm14 an14 cd14 ct14), sl14⟩)
    (c14 : PySem.W.codeIn K cd14 "check_size" = true)
    (k14 : PySem.W.keepIn K (.ref f14) = true)
    (a15 : PySem.W.nsIn K mainGlobals "check_plan" = some (some (.ref f15)))
    (l15 : K.lookup f15 = some ⟨oc15, od15, .func (PySem.W.fnOf "check_plan" "check_plan" (defArgs sChkPlan) (defBody sChkPlan) (defScope sChkPlan) .none kV15 dc15 pm15 an15 cd15 ct15), sl15⟩)
    (c15 : PySem.W.codeIn K cd15 "check_plan" = true)
    (k15 : PySem.W.keepIn K (.ref f15) = true)
    (a16 : PySem.W.nsIn K mainGlobals "check_thing" = some (some (.ref f16)))
    (l16 : K.lookup f16 = some ⟨oc16, od16, .func (PySem.W.fnOf "check_thing" "check_thing" (defArgs sChkThg) (defBody sChkThg) (defScope sChkThg) .none kV16 dc16 pm16 an16 cd16 ct16), sl16⟩)
    (c16 : PySem.W.codeIn K cd16 "check_thing" = true)
    (k16 : PySem.W.keepIn K (.ref f16) = true)
    (a17 : PySem.W.nsIn K mainGlobals "greatest_lot" = some (some (.ref f17)))
    (l17 : K.lookup f17 = some ⟨oc17, od17, .func (PySem.W.fnOf "greatest_lot" "greatest_lot" (defArgs sGreatest) (defBody sGreatest) (defScope sGreatest) .none kV17 dc17 pm17 an17 cd17 ct17), sl17⟩)
    (c17 : PySem.W.codeIn K cd17 "greatest_lot" = true)
    (k17 : PySem.W.keepIn K (.ref f17) = true)
    (a18 : PySem.W.nsIn K mainGlobals "bar_of" = some (some (.ref f18)))
    (l18 : K.lookup f18 = some ⟨oc18, od18, .func (PySem.W.fnOf "bar_of" "bar_of" (defArgs sBarOf) (defBody sBarOf) (defScope sBarOf) .none kV18 dc18 pm18 an18 cd18 ct18), sl18⟩)
    (c18 : PySem.W.codeIn K cd18 "bar_of" = true)
    (k18 : PySem.W.keepIn K (.ref f18) = true)
    (a19 : PySem.W.nsIn K mainGlobals "is_plain" = some (some (.ref f19)))
    (l19 : K.lookup f19 = some ⟨oc19, od19, .func (PySem.W.fnOf "is_plain" "is_plain" (defArgs sIsPlain) (defBody sIsPlain) (defScope sIsPlain) .none kV19 dc19 pm19 an19 cd19 ct19), sl19⟩)
    (c19 : PySem.W.codeIn K cd19 "is_plain" = true)
    (k19 : PySem.W.keepIn K (.ref f19) = true)
    (a20 : PySem.W.nsIn K mainGlobals "loose_pairs" = some (some (.ref f20)))
    (l20 : K.lookup f20 = some ⟨oc20, od20, .func (PySem.W.fnOf "loose_pairs" "loose_pairs" (defArgs sLoose) (defBody sLoose) (defScope sLoose) .none kV20 dc20 pm20 an20 cd20 ct20), sl20⟩)
    (c20 : PySem.W.codeIn K cd20 "loose_pairs" = true)
    (k20 : PySem.W.keepIn K (.ref f20) = true)
    (a21 : PySem.W.nsIn K mainGlobals "with_arrow" = some (some (.ref f21)))
    (l21 : K.lookup f21 = some ⟨oc21, od21, .func (PySem.W.fnOf "with_arrow" "with_arrow" (defArgs sWithArrow) (defBody sWithArrow) (defScope sWithArrow) .none kV21 dc21 pm21 an21 cd21 ct21), sl21⟩)
    (c21 : PySem.W.codeIn K cd21 "with_arrow" = true)
    (k21 : PySem.W.keepIn K (.ref f21) = true)
    (a22 : PySem.W.nsIn K mainGlobals "with_tie" = some (some (.ref f22)))
    (l22 : K.lookup f22 = some ⟨oc22, od22, .func (PySem.W.fnOf "with_tie" "with_tie" (defArgs sWithTie) (defBody sWithTie) (defScope sWithTie) .none kV22 dc22 pm22 an22 cd22 ct22), sl22⟩)
    (c22 : PySem.W.codeIn K cd22 "with_tie" = true)
    (k22 : PySem.W.keepIn K (.ref f22) = true)
    (a23 : PySem.W.nsIn K mainGlobals "is_full" = some (some (.ref f23)))
    (l23 : K.lookup f23 = some ⟨oc23, od23, .func (PySem.W.fnOf "is_full" "is_full" (defArgs sIsFull) (defBody sIsFull) (defScope sIsFull) .none kV23 dc23 pm23 an23 cd23 ct23), sl23⟩)
    (c23 : PySem.W.codeIn K cd23 "is_full" = true)
    (k23 : PySem.W.keepIn K (.ref f23) = true)
    (a24 : PySem.W.nsIn K mainGlobals "filled_once" = some (some (.ref f24)))
    (l24 : K.lookup f24 = some ⟨oc24, od24, .func (PySem.W.fnOf "filled_once" "filled_once" (defArgs sOnceV) (defBody sOnceV) (defScope sOnceV) .none kV24 dc24 pm24 an24 cd24 ct24), sl24⟩)
    (c24 : PySem.W.codeIn K cd24 "filled_once" = true)
    (k24 : PySem.W.keepIn K (.ref f24) = true)
    (a25 : PySem.W.nsIn K mainGlobals "filled" = some (some (.ref f25)))
    (l25 : K.lookup f25 = some ⟨oc25, od25, .func (PySem.W.fnOf "filled" "filled" (defArgs sFilledV) (defBody sFilledV) (defScope sFilledV) .none kV25 dc25 pm25 an25 cd25 ct25), sl25⟩)
    (c25 : PySem.W.codeIn K cd25 "filled" = true)
    (k25 : PySem.W.keepIn K (.ref f25) = true)
    (a26 : PySem.W.nsIn K mainGlobals "sorted_plans" = some (some (.ref f26)))
    (l26 : K.lookup f26 = some ⟨oc26, od26, .func (PySem.W.fnOf "sorted_plans" "sorted_plans" (defArgs sSortedPl) (defBody sSortedPl) (defScope sSortedPl) .none kV26 dc26 pm26 an26 (.ref cz) ct26), sl26⟩)
    (c26 : PySem.W.codeIn K (.ref cz) "sorted_plans" = true)
    (k26 : PySem.W.keepIn K (.ref f26) = true)
    (lz : K.lookup cz = some ⟨ez, dz, .fields vz, sz⟩)
    (vP : vz[11]? = some (.ref Pz))
    (nP : K.lookup Pz = none)
    (a27 : PySem.W.nsIn K mainGlobals "full_plans" = some (some (.ref f27)))
    (l27 : K.lookup f27 = some ⟨oc27, od27, .func (PySem.W.fnOf "full_plans" "full_plans" (defArgs sFullPl) (defBody sFullPl) (defScope sFullPl) .none kV27 dc27 pm27 an27 cd27 ct27), sl27⟩)
    (c27 : PySem.W.codeIn K cd27 "full_plans" = true)
    (k27 : PySem.W.keepIn K (.ref f27) = true)
    (a28 : PySem.W.nsIn K mainGlobals "_law_pot" = some (some (.ref f28)))
    (l28 : K.lookup f28 = some ⟨oc28, od28, .func (PySem.W.fnOf "_law_pot" "_law_pot" (defArgs sPot) (defBody sPot) (defScope sPot) .none kV28 dc28 pm28 an28 cd28 ct28), sl28⟩)
    (c28 : PySem.W.codeIn K cd28 "_law_pot" = true)
    (k28 : PySem.W.keepIn K (.ref f28) = true)
    (a29 : PySem.W.nsIn K mainGlobals "_law_draw" = some (some (.ref f29)))
    (l29 : K.lookup f29 = some ⟨oc29, od29, .func (PySem.W.fnOf "_law_draw" "_law_draw" (defArgs sDraw) (defBody sDraw) (defScope sDraw) .none kV29 dc29 pm29 an29 cd29 ct29), sl29⟩)
    (c29 : PySem.W.codeIn K cd29 "_law_draw" = true)
    (k29 : PySem.W.keepIn K (.ref f29) = true)
    (a30 : PySem.W.nsIn K mainGlobals "_law_pick" = some (some (.ref f30)))
    (l30 : K.lookup f30 = some ⟨oc30, od30, .func (PySem.W.fnOf "_law_pick" "_law_pick" (defArgs sPick) (defBody sPick) (defScope sPick) .none kV30 dc30 pm30 an30 cd30 ct30), sl30⟩)
    (c30 : PySem.W.codeIn K cd30 "_law_pick" = true)
    (k30 : PySem.W.keepIn K (.ref f30) = true)
    (a31 : PySem.W.nsIn K mainGlobals "_law_leaders" = some (some (.ref f31)))
    (l31 : K.lookup f31 = some ⟨oc31, od31, .func (PySem.W.fnOf "_law_leaders" "_law_leaders" (defArgs sLeadF) (defBody sLeadF) (defScope sLeadF) .none kV31 dc31 pm31 an31 cd31 ct31), sl31⟩)
    (c31 : PySem.W.codeIn K cd31 "_law_leaders" = true)
    (k31 : PySem.W.keepIn K (.ref f31) = true)
    (a32 : PySem.W.nsIn K mainGlobals "_law_hanging" = some (some (.ref f32)))
    (l32 : K.lookup f32 = some ⟨oc32, od32, .func (PySem.W.fnOf "_law_hanging" "_law_hanging" (defArgs sHangF) (defBody sHangF) (defScope sHangF) .none kV32 dc32 pm32 an32 cd32 ct32), sl32⟩)
    (c32 : PySem.W.codeIn K cd32 "_law_hanging" = true)
    (k32 : PySem.W.keepIn K (.ref f32) = true)
    (a33 : PySem.W.nsIn K mainGlobals "_law_greatest" = some (some (.ref f33)))
    (l33 : K.lookup f33 = some ⟨oc33, od33, .func (PySem.W.fnOf "_law_greatest" "_law_greatest" (defArgs sGreatF) (defBody sGreatF) (defScope sGreatF) .none kV33 dc33 pm33 an33 cd33 ct33), sl33⟩)
    (c33 : PySem.W.codeIn K cd33 "_law_greatest" = true)
    (k33 : PySem.W.keepIn K (.ref f33) = true)
    (a34 : PySem.W.nsIn K mainGlobals "_law_plain" = some (some (.ref f34)))
    (l34 : K.lookup f34 = some ⟨oc34, od34, .func (PySem.W.fnOf "_law_plain" "_law_plain" (defArgs sPlainF) (defBody sPlainF) (defScope sPlainF) .none kV34 dc34 pm34 an34 cd34 ct34), sl34⟩)
    (c34 : PySem.W.codeIn K cd34 "_law_plain" = true)
    (k34 : PySem.W.keepIn K (.ref f34) = true)
    (a35 : PySem.W.nsIn K mainGlobals "_law_pairs" = some (some (.ref f35)))
    (l35 : K.lookup f35 = some ⟨oc35, od35, .func (PySem.W.fnOf "_law_pairs" "_law_pairs" (defArgs sPairsF) (defBody sPairsF) (defScope sPairsF) .none kV35 dc35 pm35 an35 cd35 ct35), sl35⟩)
    (c35 : PySem.W.codeIn K cd35 "_law_pairs" = true)
    (k35 : PySem.W.keepIn K (.ref f35) = true)
    (a36 : PySem.W.nsIn K mainGlobals "_law_all" = some (some (.ref f36)))
    (l36 : K.lookup f36 = some ⟨oc36, od36, .func (PySem.W.fnOf "_law_all" "_law_all" (defArgs sAllV) (defBody sAllV) (defScope sAllV) .none kV36 dc36 pm36 an36 cd36 ct36), sl36⟩)
    (c36 : PySem.W.codeIn K cd36 "_law_all" = true)
    (k36 : PySem.W.keepIn K (.ref f36) = true)
    (a37 : PySem.W.nsIn K mainGlobals "_law_right" = some (some (.ref f37)))
    (l37 : K.lookup f37 = some ⟨oc37, od37, .func (PySem.W.fnOf "_law_right" "_law_right" (defArgs sRight) (defBody sRight) (defScope sRight) .none kV37 dc37 pm37 an37 cd37 ct37), sl37⟩)
    (c37 : PySem.W.codeIn K cd37 "_law_right" = true)
    (k37 : PySem.W.keepIn K (.ref f37) = true)
    (a38 : PySem.W.nsIn K mainGlobals "law" = some (some (.ref f38)))
    (l38 : K.lookup f38 = some ⟨oc38, od38, .func (PySem.W.fnOf "law" "law" (defArgs sLaw) (defBody sLaw) (defScope sLaw) .none kV38 dc38 pm38 an38 cd38 ct38), sl38⟩)
    (c38 : PySem.W.codeIn K cd38 "law" = true)
    (k38 : PySem.W.keepIn K (.ref f38) = true)
    (a39 : PySem.W.findIn K (.ref C) "__init__" = some (some (.ref f39)))
    (i39 : PySem.W.isFn K (.ref f39) = true)
    (l39 : K.lookup f39 = some ⟨oc39, od39, .func (PySem.W.fnOf "__init__" "Plan.__init__" (defArgs sInit) (defBody sInit) (defScope sInit) .none kV39 dc39 pm39 an39 cd39 ct39), sl39⟩)
    (c39 : PySem.W.codeIn K cd39 "Plan.__init__" = true)
    (k39 : PySem.W.keepIn K (.ref f39) = true)
    (a40 : PySem.W.findIn K (.ref C) "arrows" = some (some (.ref f40)))
    (i40 : PySem.W.isFn K (.ref f40) = true)
    (l40 : K.lookup f40 = some ⟨oc40, od40, .func (PySem.W.fnOf "arrows" "Plan.arrows" (defArgs sArrows) (defBody sArrows) (defScope sArrows) .none kV40 dc40 pm40 an40 cd40 ct40), sl40⟩)
    (c40 : PySem.W.codeIn K cd40 "Plan.arrows" = true)
    (k40 : PySem.W.keepIn K (.ref f40) = true)
    (a41 : PySem.W.findIn K (.ref C) "ties" = some (some (.ref f41)))
    (i41 : PySem.W.isFn K (.ref f41) = true)
    (l41 : K.lookup f41 = some ⟨oc41, od41, .func (PySem.W.fnOf "ties" "Plan.ties" (defArgs sTies) (defBody sTies) (defScope sTies) .none kV41 dc41 pm41 an41 cd41 ct41), sl41⟩)
    (c41 : PySem.W.codeIn K cd41 "Plan.ties" = true)
    (k41 : PySem.W.keepIn K (.ref f41) = true)
    (a42 : PySem.W.findIn K (.ref C) "order" = some (some (.ref f42)))
    (i42 : PySem.W.isFn K (.ref f42) = true)
    (l42 : K.lookup f42 = some ⟨oc42, od42, .func (PySem.W.fnOf "order" "Plan.order" (defArgs sPlOrder) (defBody sPlOrder) (defScope sPlOrder) .none kV42 dc42 pm42 an42 cd42 ct42), sl42⟩)
    (c42 : PySem.W.codeIn K cd42 "Plan.order" = true)
    (k42 : PySem.W.keepIn K (.ref f42) = true)
    (a43 : PySem.W.findIn K (.ref C) "__eq__" = some (some (.ref f43)))
    (i43 : PySem.W.isFn K (.ref f43) = true)
    (l43 : K.lookup f43 = some ⟨oc43, od43, .func (PySem.W.fnOf "__eq__" "Plan.__eq__" (defArgs sPlEq) (defBody sPlEq) (defScope sPlEq) .none kV43 dc43 pm43 an43 cd43 ct43), sl43⟩)
    (c43 : PySem.W.codeIn K cd43 "Plan.__eq__" = true)
    (k43 : PySem.W.keepIn K (.ref f43) = true)
    (a44 : PySem.W.findIn K (.ref C) "__repr__" = some (some (.ref f44)))
    (i44 : PySem.W.isFn K (.ref f44) = true)
    (l44 : K.lookup f44 = some ⟨oc44, od44, .func (PySem.W.fnOf "__repr__" "Plan.__repr__" (defArgs sPlRepr) (defBody sPlRepr) (defScope sPlRepr) .none kV44 dc44 pm44 an44 cd44 ct44), sl44⟩)
    (c44 : PySem.W.codeIn K cd44 "Plan.__repr__" = true)
    (k44 : PySem.W.keepIn K (.ref f44) = true)
    (pa : PySem.W.findIn K (.ref C) "width" = some (some (.ref pW)))
    (pg : PySem.W.specialIn K (.ref pW) "__get__" = some (some (.builtin "property.__get__")))
    (pt : PySem.W.takesIn K (.ref pW) = some true)
    (pr : PySem.W.recIn K pW "property" = some (.ref f45 :: rest))
    (l45 : K.lookup f45 = some ⟨oc45, od45, .func (PySem.W.fnOf "width" "Plan.width" (defArgs sWidth) (defBody sWidth) (defScope sWidth) .none kV45 dc45 pm45 an45 cd45 ct45), sl45⟩)
    (c45 : PySem.W.codeIn K cd45 "Plan.width" = true)
    (k45 : PySem.W.keepIn K (.ref f45) = true)
    (q1 : PySem.W.plainGet K C Str.empty = true)
    (q2 : PySem.W.hasDictIn K C = true)
    (q3 : PySem.W.plainOver K C = true)
    (q4 : PySem.W.findIn K (.ref C) "__setattr__" = some (some (.builtin "object.__setattr__")))
    (q5 : PySem.W.makesIn K C = true)
    (q6 : PySem.W.keepIn K (.ref C) = true)
    (n1 : PySem.W.findIn K (.ref C) "_size" = some none)
    (n2 : PySem.W.findIn K (.ref C) "_arrows" = some none)
    (n3 : PySem.W.findIn K (.ref C) "_ties" = some none)
    (w1 : PySem.W.findIn K (.ref C) "__class__" = some (some (.builtin "object.__class__")))
    (w2 : PySem.W.specialIn K (.builtin "object.__class__") "__get__" = some (some (.builtin "getset_descriptor.__get__")))
    (w3 : PySem.W.takesIn K (.builtin "object.__class__") = some true)
    (w4 : PySem.W.mroIn K C (.type "object") = some true)
    (ne : PySem.W.findIn K (.ref C) "__ne__" = some (some (.builtin "object.__ne__")))
    (m1 : PySem.W.nsIn K mainGlobals "MOST_THINGS" = some (some (.int 6 tkM)))
    (mc0 : PySem.W.nsIn K mainGlobals "MOST_FULL" = some (some (.int 4 tkC0)))
    (mc1 : PySem.W.nsIn K mainGlobals "MOST_DRAWN" = some (some (.int 64 tkC1)))
    (z_isinstance : PySem.W.nsIn K mainGlobals "isinstance" = some none)
    (z_int : PySem.W.nsIn K mainGlobals "int" = some none)
    (z_bool : PySem.W.nsIn K mainGlobals "bool" = some none)
    (z_list : PySem.W.nsIn K mainGlobals "list" = some none)
    (z_tuple : PySem.W.nsIn K mainGlobals "tuple" = some none)
    (z_len : PySem.W.nsIn K mainGlobals "len" = some none)
    (z_all : PySem.W.nsIn K mainGlobals "all" = some none)
    (z_any : PySem.W.nsIn K mainGlobals "any" = some none)
    (z_set : PySem.W.nsIn K mainGlobals "set" = some none)
    (z_range : PySem.W.nsIn K mainGlobals "range" = some none)
    (z_sorted : PySem.W.nsIn K mainGlobals "sorted" = some none)
    (z_sum : PySem.W.nsIn K mainGlobals "sum" = some none)
    (z_abs : PySem.W.nsIn K mainGlobals "abs" = some none)
    (z_max : PySem.W.nsIn K mainGlobals "max" = some none)
    (z_min : PySem.W.nsIn K mainGlobals "min" = some none)
    (z_divmod : PySem.W.nsIn K mainGlobals "divmod" = some none)
    (z_repr : PySem.W.nsIn K mainGlobals "repr" = some none)
    (z_enumerate : PySem.W.nsIn K mainGlobals "enumerate" = some none)
    (z_zip : PySem.W.nsIn K mainGlobals "zip" = some none) :
    ∃ (fs c P0 : Addr) (o : Obj) (fS : FuncData) (ec : Value) (dc : Option Addr) (vs : Array Value) (sl : Array (Option Value)), mg "sorted_plans" = some (.ref fs) ∧ K.lookup fs = some o ∧ o.data = .func fS ∧ fS.code = .ref c ∧ K.lookup c = some ⟨ec, dc, .fields vs, sl⟩ ∧ vs[11]? = some (.ref P0) ∧ K.lookup P0 = none ∧
      ∃ fd : FuncData, (∀ (s : Shared) (v : Value), BindsTo s fd ⟨[v], []⟩ [("_law_script", v)]) ∧ ∀ base : Heap, K.In base → base.Ns mainGlobals mg → LamX.TabB base mg c P0 → FnOk P w K mg base CX0 14 fa fd ["_law_script"] (spLawV K P0) := by
  have e := hfa.symm.trans (PySem.W.mg_of X G a38)
  cases e
  have B : Bl mg := ⟨PySem.W.mg_none_of X G z_isinstance, PySem.W.mg_none_of X G z_int, PySem.W.mg_none_of X G z_bool, PySem.W.mg_none_of X G z_list, PySem.W.mg_none_of X G z_tuple, PySem.W.mg_none_of X G z_len, PySem.W.mg_none_of X G z_all, PySem.W.mg_none_of X G z_any, PySem.W.mg_none_of X G z_set, PySem.W.mg_none_of X G z_range, PySem.W.mg_none_of X G z_sorted, PySem.W.mg_none_of X G z_sum, PySem.W.mg_none_of X G z_abs, PySem.W.mg_none_of X G z_max, PySem.W.mg_none_of X G z_min, PySem.W.mg_none_of X G z_divmod, PySem.W.mg_none_of X G z_repr, PySem.W.mg_none_of X G z_enumerate, PySem.W.mg_none_of X G z_zip⟩
  have F0 := fun_mk (st := sIsInt) l0 c0 k0
  have D0 : Df K mg "is_integer" sIsInt ["value"] f0 _ := ⟨F0, PySem.W.mg_of X G a0, F0.binds (ps := ["value"]) fun _ _ _ _ _ _ us hl => match us, hl with | [_], _ => rfl⟩
  have F1 := fun_mk (st := sIsCnt) l1 c1 k1
  have D1 : Df K mg "is_count" sIsCnt ["value"] f1 _ := ⟨F1, PySem.W.mg_of X G a1, F1.binds (ps := ["value"]) fun _ _ _ _ _ _ us hl => match us, hl with | [_], _ => rfl⟩
  have F2 := fun_mk (st := sIsLst) l2 c2 k2
  have D2 : Df K mg "is_list" sIsLst ["value"] f2 _ := ⟨F2, PySem.W.mg_of X G a2, F2.binds (ps := ["value"]) fun _ _ _ _ _ _ us hl => match us, hl with | [_], _ => rfl⟩
  have F3 := fun_mk (st := sIsThg) l3 c3 k3
  have D3 : Df K mg "is_thing" sIsThg ["size", "value"] f3 _ := ⟨F3, PySem.W.mg_of X G a3, F3.binds (ps := ["size", "value"]) fun _ _ _ _ _ _ us hl => match us, hl with | [_, _], _ => rfl⟩
  have F4 := fun_mk (st := sIsPair) l4 c4 k4
  have D4 : Df K mg "is_pair" sIsPair ["size", "value"] f4 _ := ⟨F4, PySem.W.mg_of X G a4, F4.binds (ps := ["size", "value"]) fun _ _ _ _ _ _ us hl => match us, hl with | [_, _], _ => rfl⟩
  have F5 := fun_mk (st := sArePairs) l5 c5 k5
  have D5 : Df K mg "are_pairs" sArePairs ["size", "value"] f5 _ := ⟨F5, PySem.W.mg_of X G a5, F5.binds (ps := ["size", "value"]) fun _ _ _ _ _ _ us hl => match us, hl with | [_, _], _ => rfl⟩
  have F6 := fun_mk (st := sAreArr) l6 c6 k6
  have D6 : Df K mg "are_arrows" sAreArr ["size", "value"] f6 _ := ⟨F6, PySem.W.mg_of X G a6, F6.binds (ps := ["size", "value"]) fun _ _ _ _ _ _ us hl => match us, hl with | [_, _], _ => rfl⟩
  have F7 := fun_mk (st := sAreTies) l7 c7 k7
  have D7 : Df K mg "are_ties" sAreTies ["size", "value"] f7 _ := ⟨F7, PySem.W.mg_of X G a7, F7.binds (ps := ["size", "value"]) fun _ _ _ _ _ _ us hl => match us, hl with | [_, _], _ => rfl⟩
  have F8 := fun_mk (st := sTurned) l8 c8 k8
  have D8 : Df K mg "turned" sTurned ["pairs"] f8 _ := ⟨F8, PySem.W.mg_of X G a8, F8.binds (ps := ["pairs"]) fun _ _ _ _ _ _ us hl => match us, hl with | [_], _ => rfl⟩
  have F9 := fun_mk (st := sBothWays) l9 c9 k9
  have D9 : Df K mg "both_ways" sBothWays ["ties"] f9 _ := ⟨F9, PySem.W.mg_of X G a9, F9.binds (ps := ["ties"]) fun _ _ _ _ _ _ us hl => match us, hl with | [_], _ => rfl⟩
  have F10 := fun_mk (st := sWithin) l10 c10 k10
  have D10 : Df K mg "within" sWithin ["pairs", "things"] f10 _ := ⟨F10, PySem.W.mg_of X G a10, F10.binds (ps := ["pairs", "things"]) fun _ _ _ _ _ _ us hl => match us, hl with | [_, _], _ => rfl⟩
  have F11 := fun_mk (st := sOrdOf) l11 c11 k11
  have D11 : Df K mg "order_of" sOrdOf ["size", "arrows"] f11 _ := ⟨F11, PySem.W.mg_of X G a11, F11.binds (ps := ["size", "arrows"]) fun _ _ _ _ _ _ us hl => match us, hl with | [_, _], _ => rfl⟩
  have F12 := fun_mk (st := sReached) l12 c12 k12
  have D12 : Df K mg "reached" sReached ["pairs", "start"] f12 _ := ⟨F12, PySem.W.mg_of X G a12, F12.binds (ps := ["pairs", "start"]) fun _ _ _ _ _ _ us hl => match us, hl with | [_, _], _ => rfl⟩
  have F13 := fun_mk (st := sIsSize) l13 c13 k13
  have D13 : Df K mg "is_size" sIsSize ["value"] f13 _ := ⟨F13, PySem.W.mg_of X G a13, F13.binds (ps := ["value"]) fun _ _ _ _ _ _ us hl => match us, hl with | [_], _ => rfl⟩
  have F14 := fun_mk (st := sChkSize) l14 c14 k14
  have D14 : Df K mg "check_size" sChkSize ["size"] f14 _ := ⟨F14, PySem.W.mg_of X G a14, F14.binds (ps := ["size"]) fun _ _ _ _ _ _ us hl => match us, hl with | [_], _ => rfl⟩
  have F15 := fun_mk (st := sChkPlan) l15 c15 k15
  have D15 : Df K mg "check_plan" sChkPlan ["plan"] f15 _ := ⟨F15, PySem.W.mg_of X G a15, F15.binds (ps := ["plan"]) fun _ _ _ _ _ _ us hl => match us, hl with | [_], _ => rfl⟩
  have F16 := fun_mk (st := sChkThg) l16 c16 k16
  have D16 : Df K mg "check_thing" sChkThg ["plan", "thing"] f16 _ := ⟨F16, PySem.W.mg_of X G a16, F16.binds (ps := ["plan", "thing"]) fun _ _ _ _ _ _ us hl => match us, hl with | [_, _], _ => rfl⟩
  have F17 := fun_mk (st := sGreatest) l17 c17 k17
  have D17 : Df K mg "greatest_lot" sGreatest ["plan", "thing"] f17 _ := ⟨F17, PySem.W.mg_of X G a17, F17.binds (ps := ["plan", "thing"]) fun _ _ _ _ _ _ us hl => match us, hl with | [_, _], _ => rfl⟩
  have F18 := fun_mk (st := sBarOf) l18 c18 k18
  have D18 : Df K mg "bar_of" sBarOf ["plan"] f18 _ := ⟨F18, PySem.W.mg_of X G a18, F18.binds (ps := ["plan"]) fun _ _ _ _ _ _ us hl => match us, hl with | [_], _ => rfl⟩
  have F19 := fun_mk (st := sIsPlain) l19 c19 k19
  have D19 : Df K mg "is_plain" sIsPlain ["plan"] f19 _ := ⟨F19, PySem.W.mg_of X G a19, F19.binds (ps := ["plan"]) fun _ _ _ _ _ _ us hl => match us, hl with | [_], _ => rfl⟩
  have F20 := fun_mk (st := sLoose) l20 c20 k20
  have D20 : Df K mg "loose_pairs" sLoose ["plan"] f20 _ := ⟨F20, PySem.W.mg_of X G a20, F20.binds (ps := ["plan"]) fun _ _ _ _ _ _ us hl => match us, hl with | [_], _ => rfl⟩
  have F21 := fun_mk (st := sWithArrow) l21 c21 k21
  have D21 : Df K mg "with_arrow" sWithArrow ["plan", "arrow"] f21 _ := ⟨F21, PySem.W.mg_of X G a21, F21.binds (ps := ["plan", "arrow"]) fun _ _ _ _ _ _ us hl => match us, hl with | [_, _], _ => rfl⟩
  have F22 := fun_mk (st := sWithTie) l22 c22 k22
  have D22 : Df K mg "with_tie" sWithTie ["plan", "tie"] f22 _ := ⟨F22, PySem.W.mg_of X G a22, F22.binds (ps := ["plan", "tie"]) fun _ _ _ _ _ _ us hl => match us, hl with | [_, _], _ => rfl⟩
  have F23 := fun_mk (st := sIsFull) l23 c23 k23
  have D23 : Df K mg "is_full" sIsFull ["plan"] f23 _ := ⟨F23, PySem.W.mg_of X G a23, F23.binds (ps := ["plan"]) fun _ _ _ _ _ _ us hl => match us, hl with | [_], _ => rfl⟩
  have F24 := fun_mk (st := sOnceV) l24 c24 k24
  have D24 : Df K mg "filled_once" sOnceV ["plan", "order"] f24 _ := ⟨F24, PySem.W.mg_of X G a24, F24.binds (ps := ["plan", "order"]) fun _ _ _ _ _ _ us hl => match us, hl with | [_, _], _ => rfl⟩
  have F25 := fun_mk (st := sFilledV) l25 c25 k25
  have D25 : Df K mg "filled" sFilledV ["plan", "most"] f25 _ := ⟨F25, PySem.W.mg_of X G a25, F25.binds (ps := ["plan", "most"]) fun _ _ _ _ _ _ us hl => match us, hl with | [_, _], _ => rfl⟩
  have F26 := fun_mk (st := sSortedPl) l26 c26 k26
  have D26 : Df K mg "sorted_plans" sSortedPl ["plans"] f26 _ := ⟨F26, PySem.W.mg_of X G a26, F26.binds (ps := ["plans"]) fun _ _ _ _ _ _ us hl => match us, hl with | [_], _ => rfl⟩
  have F27 := fun_mk (st := sFullPl) l27 c27 k27
  have D27 : Df K mg "full_plans" sFullPl ["size"] f27 _ := ⟨F27, PySem.W.mg_of X G a27, F27.binds (ps := ["size"]) fun _ _ _ _ _ _ us hl => match us, hl with | [_], _ => rfl⟩
  have F28 := fun_mk (st := sPot) l28 c28 k28
  have D28 : Df K mg "_law_pot" sPot ["_law_script", "_law_k"] f28 _ := ⟨F28, PySem.W.mg_of X G a28, F28.binds (ps := ["_law_script", "_law_k"]) fun _ _ _ _ _ _ us hl => match us, hl with | [_, _], _ => rfl⟩
  have F29 := fun_mk (st := sDraw) l29 c29 k29
  have D29 : Df K mg "_law_draw" sDraw ["_law_pot_here", "_law_many"] f29 _ := ⟨F29, PySem.W.mg_of X G a29, F29.binds (ps := ["_law_pot_here", "_law_many"]) fun _ _ _ _ _ _ us hl => match us, hl with | [_, _], _ => rfl⟩
  have F30 := fun_mk (st := sPick) l30 c30 k30
  have D30 : Df K mg "_law_pick" sPick ["_law_pot_here", "_law_some"] f30 _ := ⟨F30, PySem.W.mg_of X G a30, F30.binds (ps := ["_law_pot_here", "_law_some"]) fun _ _ _ _ _ _ us hl => match us, hl with | [_, _], _ => rfl⟩
  have F31 := fun_mk (st := sLeadF) l31 c31 k31
  have D31 : Df K mg "_law_leaders" sLeadF ["_law_arrows", "_law_lot", "_law_thing"] f31 _ := ⟨F31, PySem.W.mg_of X G a31, F31.binds (ps := ["_law_arrows", "_law_lot", "_law_thing"]) fun _ _ _ _ _ _ us hl => match us, hl with | [_, _, _], _ => rfl⟩
  have F32 := fun_mk (st := sHangF) l32 c32 k32
  have D32 : Df K mg "_law_hanging" sHangF ["_law_ties", "_law_lot", "_law_thing"] f32 _ := ⟨F32, PySem.W.mg_of X G a32, F32.binds (ps := ["_law_ties", "_law_lot", "_law_thing"]) fun _ _ _ _ _ _ us hl => match us, hl with | [_, _, _], _ => rfl⟩
  have F33 := fun_mk (st := sGreatF) l33 c33 k33
  have D33 : Df K mg "_law_greatest" sGreatF ["_law_size", "_law_arrows", "_law_ties", "_law_thing"] f33 _ := ⟨F33, PySem.W.mg_of X G a33, F33.binds (ps := ["_law_size", "_law_arrows", "_law_ties", "_law_thing"]) fun _ _ _ _ _ _ us hl => match us, hl with | [_, _, _, _], _ => rfl⟩
  have F34 := fun_mk (st := sPlainF) l34 c34 k34
  have D34 : Df K mg "_law_plain" sPlainF ["_law_size", "_law_arrows", "_law_ties"] f34 _ := ⟨F34, PySem.W.mg_of X G a34, F34.binds (ps := ["_law_size", "_law_arrows", "_law_ties"]) fun _ _ _ _ _ _ us hl => match us, hl with | [_, _, _], _ => rfl⟩
  have F35 := fun_mk (st := sPairsF) l35 c35 k35
  have D35 : Df K mg "_law_pairs" sPairsF ["_law_size"] f35 _ := ⟨F35, PySem.W.mg_of X G a35, F35.binds (ps := ["_law_size"]) fun _ _ _ _ _ _ us hl => match us, hl with | [_], _ => rfl⟩
  have F36 := fun_mk (st := sAllV) l36 c36 k36
  have D36 : Df K mg "_law_all" sAllV ["_law_size"] f36 _ := ⟨F36, PySem.W.mg_of X G a36, F36.binds (ps := ["_law_size"]) fun _ _ _ _ _ _ us hl => match us, hl with | [_], _ => rfl⟩
  have F37 := fun_mk (st := sRight) l37 c37 k37
  have D37 : Df K mg "_law_right" sRight ["_law_pot_here"] f37 _ := ⟨F37, PySem.W.mg_of X G a37, F37.binds (ps := ["_law_pot_here"]) fun _ _ _ _ _ _ us hl => match us, hl with | [_], _ => rfl⟩
  have F38 := fun_mk (st := sLaw) l38 c38 k38
  have F39 := fun_mk (st := sInit) l39 c39 k39
  have b39 := F39.binds (ps := ["self", "size", "arrows", "ties"]) fun _ _ _ _ _ _ us hl => match us, hl with | [_, _, _, _], _ => rfl
  have F40 := fun_mk (st := sArrows) l40 c40 k40
  have b40 := F40.binds (ps := ["self"]) fun _ _ _ _ _ _ us hl => match us, hl with | [_], _ => rfl
  have F41 := fun_mk (st := sTies) l41 c41 k41
  have b41 := F41.binds (ps := ["self"]) fun _ _ _ _ _ _ us hl => match us, hl with | [_], _ => rfl
  have F42 := fun_mk (st := sPlOrder) l42 c42 k42
  have b42 := F42.binds (ps := ["self"]) fun _ _ _ _ _ _ us hl => match us, hl with | [_], _ => rfl
  have F43 := fun_mk (st := sPlEq) l43 c43 k43
  have b43 := F43.binds (ps := ["self", "other"]) fun _ _ _ _ _ _ us hl => match us, hl with | [_, _], _ => rfl
  have F44 := fun_mk (st := sPlRepr) l44 c44 k44
  have b44 := F44.binds (ps := ["self"]) fun _ _ _ _ _ _ us hl => match us, hl with | [_], _ => rfl
  have F45 := fun_mk (st := sWidth) l45 c45 k45
  have b45 := F45.binds (ps := ["self"]) fun _ _ _ _ _ _ us hl => match us, hl with | [_], _ => rfl
  have T : PlC K mg C := ⟨⟨q1, q2, q3, q4⟩, n1, n2, n3, PySem.W.mg_of X G aC⟩
  have I : C8.InsC K C := ⟨T.cl, w1, w2, w3, w4, kit_self⟩
  have M : PlM K mg C pW f45 f40 f41 _ _ _ := ⟨T, I, ⟨pa, pg, pt, ⟨_, pr⟩⟩, F45, b45, ⟨a40, i40, k40⟩, F40, b40, ⟨a41, i41, k41⟩, F41, b41⟩
  refine ⟨f26, cz, Pz, _, _, ez, dz, vz, sz, PySem.W.mg_of X G a26, l26, rfl, rfl, lz, vP, nP, PySem.W.fnOf "law" "law" (defArgs sLaw) (defBody sLaw) (defScope sLaw) .none kV38 dc38 pm38 an38 cd38 ct38, fun s v => .of_eq rfl, fun base _ _ TB => ?_⟩
  have G5 : FnOk P w K mg base CX0 5 f5 _ ["size", "value"] (spArePairs K) := ok_arePairs D5.F D0 D1 D3 D4 D2 B
  have GS : FnOk P w K mg base CX0 3 f13 _ ["value"] spIsSize := ok_isSize D13.F D0 D1 (PySem.W.mg_of X G m1) B
  have GC : FnOk P w K mg base CX0 4 f14 _ ["size"] spChkSize := ok_chkSize D14.F D13 GS
  have GA : FnOk P w K mg base CX0 6 f6 _ ["size", "value"] (spAreArr K) := ok_areArr D6.F D5 G5 D11 B
  have GT : FnOk P w K mg base CX0 6 f7 _ ["size", "value"] (spAreTies K) := ok_areTies D7.F D5 G5 B
  have GI := ok_init (P := P) (w := w) (base := base) F39 T D14 GC D6 GA D7 GT B
  have MI : Mk K C f39 := ⟨q5, a39, i39, q6⟩
  have ME : PlE K mg C f43 f44 _ _ := ⟨T, I, ⟨a43, i43, ne, w4⟩, F43, b43, a44, i44, F44, b44⟩
  have GN := ok_initN (P := P) (w := w) (base := base) F39 T D14 GC D6 GA D7 GT B
  have GCt : FnOk P w K mg base CX0 4 f16 _ ["plan", "thing"] (spChkThg K C) := ok_chkThg D16.F M D0 D1 D3 B
  have GGr : FnOk P w K mg base CX0 5 f17 _ ["plan", "thing"] (spGreatest K C) := ok_greatest D17.F M D15 D16 GCt D10 D8 D9 D12 B
  have GBo : FnOk P w K mg base CX0 6 f18 _ ["plan"] (spBarOf K C) := ok_barOf D18.F M D15 D17 GGr B
  have GPl : FnOk P w K mg base CX0 7 f19 _ ["plan"] (spIsPlain K C) := ok_isPlain D19.F D18 GBo
  have GGf : FnOk P w K mg base CX0 2 f33 _ ["_law_size", "_law_arrows", "_law_ties", "_law_thing"] (spGreatF K) := ok_greatF D33.F D31 D32 B
  have GPf : FnOk P w K mg base CX0 3 f34 _ ["_law_size", "_law_arrows", "_law_ties"] (spPlainF K) := ok_plainF D34.F D33 GGf B
  have GOn : FnOk P w K mg base CX0 10 f24 _ ["plan", "order"] (spOnceV K C) := ok_onceV D24.F M D20 D21 D22 D19 GPl MI b39 GN B
  have GO : FnOk P w K mg base CX0 2 f42 _ ["self"] (spPlOrdNo K C) := ok_plOrdNo F42 T D11 B
  have GFi : FnOk P w K mg base CX0 11 f25 _ ["plan", "most"] (spFilledV K C) := ok_filledV D25.F M D20 D24 GOn ⟨a42, i42, k42⟩ GO b42 B
  have GSo := ok_sortedPl (P := P) (w := w) l26 c26 M TB B
  have GFu : FnOk P w K mg base CX0 12 f27 _ ["size"] (spFullPl K C Pz) := ok_fullPl D27.F M D14 GC D25 GFi D26 GSo (PySem.W.mg_of X G mc0) (PySem.W.mg_of X G mc1) MI b39 GI B
  have Z : CallsV P w K mg base C Pz :=
    { init := ⟨_, _, MI, T.mgC, b39, GI⟩,
       pick := ⟨_, _, D30, ok_pick D30.F D29 B⟩,
       draw := ⟨_, _, D29, ok_draw D29.F B⟩,
       all := ⟨_, _, D36, ok_allV D36.F D35 D34 GPf B⟩,
       full := ⟨_, _, D27, GFu, fun s ws h => match ws, h with | [_], _ => .of_eq rfl⟩,
       isf := ⟨_, _, D23, ok_isFull D23.F M D15 D20 D19 GPl B⟩ }
  exact ok_lawV F38 D28 D37 (ok_rightV D37.F M ME Z B) B
theorem walk {l : PySem.W.OpenLaw} {q : Program} {loose : List Str} {XP : (Str → Option Value) → Heap → Prop} {YP : World → Heap → Prop} {d : DefRec} {K : Params → PySem.W.Frag} (hn : l.most = some 63) (hdf : d.params.defaults = []) (hrec : ((recsOf q).any fun e => e.name == "sorted_plans") = true)
    (hY : ∀ (w : World) (h : Heap), YP w h → (K w.params).In h)
    (F : ∀ (w : World) (mg : Str → Option Value) (fa : Addr) (h : Heap), YP w h → (K w.params).In h → h.Ns mainGlobals mg → mg d.name = some (.ref fa) →
      ∃ (fs c P0 : Addr) (o : Obj) (fS : FuncData) (ec : Value) (dc : Option Addr) (vs : Array Value) (sl : Array (Option Value)), mg "sorted_plans" = some (.ref fs) ∧ (K w.params).lookup fs = some o ∧ o.data = .func fS ∧ fS.code = .ref c ∧ (K w.params).lookup c = some ⟨ec, dc, .fields vs, sl⟩ ∧ vs[11]? = some (.ref P0) ∧ (K w.params).lookup P0 = none ∧
      ∃ fd : FuncData, (∀ (s : Shared) (v : Value), BindsTo s fd ⟨[v], []⟩ [("_law_script", v)]) ∧ ∀ base : Heap, (K w.params).In base → base.Ns mainGlobals mg → LamX.TabB base mg c P0 → FnOk l.prog w (K w.params) mg base CX0 14 fa fd ["_law_script"] (spLawV (K w.params) P0)) :
    PySem.W.WalkO q loose XP YP l.row.toRowW d [] (fun f vs => PySem.call f vs) :=
  walkT (n := 63) (k := 14) (x := "_law_script") (nm := "sorted_plans") (sp := fun w P0 => spLawV (K w.params) P0) hn (by decide) hdf ⟨rfl, by decide, by decide⟩ hrec hY F (fun _ _ a P0 ns _ _ hT hS => ⟨a, ns, rfl, hS, tabs_at hT, fun _ => rfl⟩)
end Tk
open PySem PySem.W PyProof.Rows
set_option maxRecDepth 100000 in
set_option maxHeartbeats 0 in
theorem PySem.Challenge.cw_toldpushes_k72_whole_lists_of_full_plans_holds : PySem.Challenge.rw_toldpushes_k72_whole_lists_of_full_plans.Holds := by
  w_on; o_law; k_head; (case hw => w_witness2)
  k_fill
  refine Tk.walk (l := PySem.Challenge.rw_toldpushes_k72_whole_lists_of_full_plans) rfl rfl (by first | rfl | decide +kernel) (fun w h Y => PySem.W.km_in_of Y) ?F
  case F =>
    intro w mg fa h Y KX G hmg
    refine' Tk.all_mk KX G hmg ?aC ?a0 ?l0 ?c0 ?k0 ?a1 ?l1 ?c1 ?k1 ?a2 ?l2 ?c2 ?k2 ?a3 ?l3 ?c3 ?k3 ?a4 ?l4 ?c4 ?k4 ?a5 ?l5 ?c5 ?k5 ?a6 ?l6 ?c6 ?k6 ?a7 ?l7 ?c7 ?k7 ?a8 ?l8 ?c8 ?k8 ?a9 ?l9 ?c9 ?k9 ?a10 ?l10 ?c10 ?k10 ?a11 ?l11 ?c11 ?k11 ?a12 ?l12 ?c12 ?k12 ?a13 ?l13 ?c13 ?k13 ?a14 ?l14 ?c14 ?k14 ?a15 ?l15 ?c15 ?k15 ?a16 ?l16 ?c16 ?k16 ?a17 ?l17 ?c17 ?k17 ?a18 ?l18 ?c18 ?k18 ?a19 ?l19 ?c19 ?k19 ?a20 ?l20 ?c20 ?k20 ?a21 ?l21 ?c21 ?k21 ?a22 ?l22 ?c22 ?k22 ?a23 ?l23 ?c23 ?k23 ?a24 ?l24 ?c24 ?k24 ?a25 ?l25 ?c25 ?k25 ?a26 ?l26 ?c26 ?k26 ?lz ?vP ?nP ?a27 ?l27 ?c27 ?k27 ?a28 ?l28 ?c28 ?k28 ?a29 ?l29 ?c29 ?k29 ?a30 ?l30 ?c30 ?k30 ?a31 ?l31 ?c31 ?k31 ?a32 ?l32 ?c32 ?k32 ?a33 ?l33 ?c33 ?k33 ?a34 ?l34 ?c34 ?k34 ?a35 ?l35 ?c35 ?k35 ?a36 ?l36 ?c36 ?k36 ?a37 ?l37 ?c37 ?k37 ?a38 ?l38 ?c38 ?k38 ?a39 ?i39 ?l39 ?c39 ?k39 ?a40 ?i40 ?l40 ?c40 ?k40 ?a41 ?i41 ?l41 ?c41 ?k41 ?a42 ?i42 ?l42 ?c42 ?k42 ?a43 ?i43 ?l43 ?c43 ?k43 ?a44 ?i44 ?l44 ?c44 ?k44 ?pa ?pg ?pt ?pr ?l45 ?c45 ?k45 ?q1 ?q2 ?q3 ?q4 ?q5 ?q6 ?n1 ?n2 ?n3 ?w1 ?w2 ?w3 ?w4 ?ne ?m1 ?mc0 ?mc1 ?z_isinstance ?z_int ?z_bool ?z_list ?z_tuple ?z_len ?z_all ?z_any ?z_set ?z_range ?z_sorted ?z_sum ?z_abs ?z_max ?z_min ?z_divmod ?z_repr ?z_enumerate ?z_zip
    (case aC => k_is)
    (case a0 => k_is)
    (case l0 => k_is)
    (case c0 => k_is)
    (case k0 => k_is)
    (case a1 => k_is)
    (case l1 => k_is)
    (case c1 => k_is)
    (case k1 => k_is)
    (case a2 => k_is)
    (case l2 => k_is)
    (case c2 => k_is)
    (case k2 => k_is)
    (case a3 => k_is)
    (case l3 => k_is)
    (case c3 => k_is)
    (case k3 => k_is)
    (case a4 => k_is)
    (case l4 => k_is)
    (case c4 => k_is)
    (case k4 => k_is)
    (case a5 => k_is)
    (case l5 => k_is)
    (case c5 => k_is)
    (case k5 => k_is)
    (case a6 => k_is)
    (case l6 => k_is)
    (case c6 => k_is)
    (case k6 => k_is)
    (case a7 => k_is)
    (case l7 => k_is)
    (case c7 => k_is)
    (case k7 => k_is)
    (case a8 => k_is)
    (case l8 => k_is)
    (case c8 => k_is)
    (case k8 => k_is)
    (case a9 => k_is)
    (case l9 => k_is)
    (case c9 => k_is)
    (case k9 => k_is)
    (case a10 => k_is)
    (case l10 => k_is)
    (case c10 => k_is)
    (case k10 => k_is)
    (case a11 => k_is)
    (case l11 => k_is)
    (case c11 => k_is)
    (case k11 => k_is)
    (case a12 => k_is)
    (case l12 => k_is)
    (case c12 => k_is)
    (case k12 => k_is)
    (case a13 => k_is)
    (case l13 => k_is)
    (case c13 => k_is)
    (case k13 => k_is)
    (case a14 => k_is)
    (case l14 => k_is)
    (case c14 => k_is)
    (case k14 => k_is)
    (case a15 => k_is)
    (case l15 => k_is)
    (case c15 => k_is)
    (case k15 => k_is)
    (case a16 => k_is)
    (case l16 => k_is)
    (case c16 => k_is)
    (case k16 => k_is)
    (case a17 => k_is)
    (case l17 => k_is)
    (case c17 => k_is)
    (case k17 => k_is)
    (case a18 => k_is)
    (case l18 => k_is)
    (case c18 => k_is)
    (case k18 => k_is)
    (case a19 => k_is)
    (case l19 => k_is)
    (case c19 => k_is)
    (case k19 => k_is)
    (case a20 => k_is)
    (case l20 => k_is)
    (case c20 => k_is)
    (case k20 => k_is)
    (case a21 => k_is)
    (case l21 => k_is)
    (case c21 => k_is)
    (case k21 => k_is)
    (case a22 => k_is)
    (case l22 => k_is)
    (case c22 => k_is)
    (case k22 => k_is)
    (case a23 => k_is)
    (case l23 => k_is)
    (case c23 => k_is)
    (case k23 => k_is)
    (case a24 => k_is)
    (case l24 => k_is)
    (case c24 => k_is)
    (case k24 => k_is)
    (case a25 => k_is)
    (case l25 => k_is)
    (case c25 => k_is)
    (case k25 => k_is)
    (case a26 => k_is)
    (case l26 => k_is)
    (case c26 => k_is)
    (case k26 => k_is)
    (case lz => k_is)
    (case vP => first | rfl | k_is)
    (case nP => first | rfl | k_is)
    (case a27 => k_is)
    (case l27 => k_is)
    (case c27 => k_is)
    (case k27 => k_is)
    (case a28 => k_is)
    (case l28 => k_is)
    (case c28 => k_is)
    (case k28 => k_is)
    (case a29 => k_is)
    (case l29 => k_is)
    (case c29 => k_is)
    (case k29 => k_is)
    (case a30 => k_is)
    (case l30 => k_is)
    (case c30 => k_is)
    (case k30 => k_is)
    (case a31 => k_is)
    (case l31 => k_is)
    (case c31 => k_is)
    (case k31 => k_is)
    (case a32 => k_is)
    (case l32 => k_is)
    (case c32 => k_is)
    (case k32 => k_is)
    (case a33 => k_is)
    (case l33 => k_is)
    (case c33 => k_is)
    (case k33 => k_is)
    (case a34 => k_is)
    (case l34 => k_is)
    (case c34 => k_is)
    (case k34 => k_is)
    (case a35 => k_is)
    (case l35 => k_is)
    (case c35 => k_is)
    (case k35 => k_is)
    (case a36 => k_is)
    (case l36 => k_is)
    (case c36 => k_is)
    (case k36 => k_is)
    (case a37 => k_is)
    (case l37 => k_is)
    (case c37 => k_is)
    (case k37 => k_is)
    (case a38 => k_is)
    (case l38 => k_is)
    (case c38 => k_is)
    (case k38 => k_is)
    (case a39 => k_is)
    (case i39 => k_is)
    (case l39 => k_is)
    (case c39 => k_is)
    (case k39 => k_is)
    (case a40 => k_is)
    (case i40 => k_is)
    (case l40 => k_is)
    (case c40 => k_is)
    (case k40 => k_is)
    (case a41 => k_is)
    (case i41 => k_is)
    (case l41 => k_is)
    (case c41 => k_is)
    (case k41 => k_is)
    (case a42 => k_is)
    (case i42 => k_is)
    (case l42 => k_is)
    (case c42 => k_is)
    (case k42 => k_is)
    (case a43 => k_is)
    (case i43 => k_is)
    (case l43 => k_is)
    (case c43 => k_is)
    (case k43 => k_is)
    (case a44 => k_is)
    (case i44 => k_is)
    (case l44 => k_is)
    (case c44 => k_is)
    (case k44 => k_is)
    (case pa => k_is)
    (case pg => k_is)
    (case pt => k_is)
    (case pr => k_is)
    (case l45 => k_is)
    (case c45 => k_is)
    (case k45 => k_is)
    (case q1 => k_is)
    (case q2 => k_is)
    (case q3 => k_is)
    (case q4 => k_is)
    (case q5 => k_is)
    (case q6 => k_is)
    (case n1 => k_is)
    (case n2 => k_is)
    (case n3 => k_is)
    (case w1 => k_is)
    (case w2 => k_is)
    (case w3 => k_is)
    (case w4 => k_is)
    (case ne => k_is)
    (case m1 => k_is)
    (case mc0 => k_is)
    (case mc1 => k_is)
    (case z_isinstance => k_is)
    (case z_int => k_is)
    (case z_bool => k_is)
    (case z_list => k_is)
    (case z_tuple => k_is)
    (case z_len => k_is)
    (case z_all => k_is)
    (case z_any => k_is)
    (case z_set => k_is)
    (case z_range => k_is)
    (case z_sorted => k_is)
    (case z_sum => k_is)
    (case z_abs => k_is)
    (case z_max => k_is)
    (case z_min => k_is)
    (case z_divmod => k_is)
    (case z_repr => k_is)
    (case z_enumerate => k_is)
    (case z_zip => k_is)
