import PyProof.Rows.All
import Wide.All
import OpenK.AllK
import Wide.FinOn
import Open.SpecLaws
import KE.OsGo
import HandS.ForSpec
import HandS.Comp
import HandS.Deep
import HandS.Nested
import PySem.Challenge.RW_neverback_s04_count
set_option Elab.async false
set_option maxRecDepth 100000
set_option maxHeartbeats 2000000
namespace NB
/-! ### the mathematics: no Python here -/
/-- the moves, by kind and by step -/
def movT : List (List (Int × Int)) :=
  [[(1, 0), (0, 1), (-1, 0), (0, -1)], [(1, 0), (0, 1), (-1, 1), (-1, 0), (0, -1), (1, -1)], [(1, 0), (-1, 0), (0, 1)]]
def movAt (k s : Nat) : Int × Int := (movT.getD k []).getD s (0, 0)
/-- what place_after reckons -/
def stepTo (k : Nat) (p : Int × Int) (s : Nat) : Int × Int :=
  if k = 2 ∧ (p.1 + p.2) % 2 = 1 then (p.1 + (movAt k s).1, p.2 - (movAt k s).2) else (p.1 + (movAt k s).1, p.2 + (movAt k s).2)
theorem ways0 : Sh19.ways 0 = 4 := rfl
theorem ways1 : Sh19.ways 1 = 6 := rfl
theorem ways2 : Sh19.ways 2 = 3 := rfl
theorem stepTo_neg {k s : Nat} {x y : Int} {m : Int × Int} (hm : movAt k s = m) (c : ¬ (k = 2 ∧ (x + y) % 2 = 1)) : stepTo k (x, y) s = (x + m.1, y + m.2) := by
  unfold stepTo
  rw [if_neg c, hm]
theorem stepTo_pos {k s : Nat} {x y : Int} {m : Int × Int} (hm : movAt k s = m) (c : k = 2 ∧ (x + y) % 2 = 1) : stepTo k (x, y) s = (x + m.1, y - m.2) := by
  unfold stepTo
  rw [if_pos c, hm]
theorem go22 (x y : Int) : Sh19.go 2 (x, y) 2 = if (x + y) % 2 = 0 then (x, y + 1) else (x, y - 1) := rfl
theorem stepTo_go {k s : Nat} (hk : k < 3) (hs : s < Sh19.ways k) (p : Int × Int) : stepTo k p s = Sh19.go k p s := by
  obtain ⟨x, y⟩ := p
  have pr : ∀ {a b c d : Int}, a = c → b = d → ((a, b) : Int × Int) = (c, d) := fun h1 h2 => by rw [h1, h2]
  have h : k = 0 ∨ k = 1 ∨ k = 2 := by omega
  rcases h with rfl | rfl | rfl
  · rw [ways0] at hs
    have h : s = 0 ∨ s = 1 ∨ s = 2 ∨ s = 3 := by omega
    have c : ¬ ((0 : Nat) = 2 ∧ (x + y) % 2 = 1) := fun z => absurd z.1 (by decide)
    rcases h with rfl | rfl | rfl | rfl
    · exact (stepTo_neg (m := (1, 0)) rfl c).trans (pr rfl (by show y + 0 = y; omega))
    · exact (stepTo_neg (m := (0, 1)) rfl c).trans (pr (by show x + 0 = x; omega) rfl)
    · exact (stepTo_neg (m := (-1, 0)) rfl c).trans (pr rfl (by show y + 0 = y; omega))
    · exact (stepTo_neg (m := (0, -1)) rfl c).trans (pr (by show x + 0 = x; omega) rfl)
  · rw [ways1] at hs
    have h : s = 0 ∨ s = 1 ∨ s = 2 ∨ s = 3 ∨ s = 4 ∨ s = 5 := by omega
    have c : ¬ ((1 : Nat) = 2 ∧ (x + y) % 2 = 1) := fun z => absurd z.1 (by decide)
    rcases h with rfl | rfl | rfl | rfl | rfl | rfl
    · exact (stepTo_neg (m := (1, 0)) rfl c).trans (pr rfl (by show y + 0 = y; omega))
    · exact (stepTo_neg (m := (0, 1)) rfl c).trans (pr (by show x + 0 = x; omega) rfl)
    · exact (stepTo_neg (m := (-1, 1)) rfl c).trans (pr rfl rfl)
    · exact (stepTo_neg (m := (-1, 0)) rfl c).trans (pr rfl (by show y + 0 = y; omega))
    · exact (stepTo_neg (m := (0, -1)) rfl c).trans (pr (by show x + 0 = x; omega) rfl)
    · exact (stepTo_neg (m := (1, -1)) rfl c).trans (pr rfl rfl)
  · rw [ways2] at hs
    have h : s = 0 ∨ s = 1 ∨ s = 2 := by omega
    by_cases c : (x + y) % 2 = 1
    · have c0 : ¬ (x + y) % 2 = 0 := by omega
      rcases h with rfl | rfl | rfl
      · exact (stepTo_pos (m := (1, 0)) rfl ⟨rfl, c⟩).trans (pr rfl (by show y - 0 = y; omega))
      · exact (stepTo_pos (m := (-1, 0)) rfl ⟨rfl, c⟩).trans (pr rfl (by show y - 0 = y; omega))
      · rw [go22, if_neg c0]
        exact (stepTo_pos (m := (0, 1)) rfl ⟨rfl, c⟩).trans (pr (by show x + 0 = x; omega) rfl)
    · have c0 : (x + y) % 2 = 0 := by omega
      have c1 : ¬ ((2 : Nat) = 2 ∧ (x + y) % 2 = 1) := fun z => c z.2
      rcases h with rfl | rfl | rfl
      · exact (stepTo_neg (m := (1, 0)) rfl c1).trans (pr rfl (by show y + 0 = y; omega))
      · exact (stepTo_neg (m := (-1, 0)) rfl c1).trans (pr rfl (by show y + 0 = y; omega))
      · rw [go22, if_pos c0]
        exact (stepTo_neg (m := (0, 1)) rfl c1).trans (pr (by show x + 0 = x; omega) rfl)
theorem movT_len {k : Nat} (hk : k < 3) : (movT.getD k []).length = Sh19.ways k := by
  have h : k = 0 ∨ k = 1 ∨ k = 2 := by omega
  rcases h with rfl | rfl | rfl <;> rfl
/-- all are steps of the kind -/
def okS (k : Nat) (ns : List Int) : Bool := ns.all fun s => decide (0 ≤ s) && decide (s < (Sh19.ways k : Nat))
def nat (ns : List Int) : List Nat := ns.map Int.toNat
theorem nat_eq (ns : List Int) : Sh19Neutral.nats ns = nat ns := rfl
theorem okS_spec (k : Nat) : ∀ ns : List Int, (∀ x ∈ ns, 0 ≤ x) → okS k ns = Sh19.stepsOk k (nat ns)
  | [], _ => rfl
  | x :: r, h => by
    have ih := okS_spec k r fun y hy => h y (List.mem_cons_of_mem _ hy)
    have h0 := h x List.mem_cons_self
    have e : (decide (0 ≤ x) && decide (x < (Sh19.ways k : Nat))) = decide (x.toNat < Sh19.ways k) := by
      rw [decide_eq_true h0, Bool.true_and]
      exact decide_eq_decide.mpr (by omega)
    unfold okS Sh19.stepsOk nat at ih ⊢
    rw [List.all_cons, ih, e, List.map_cons, List.all_cons]
theorem okS_at {k : Nat} {ns : List Int} (h : okS k ns = true) {i : Nat} {z : Int} (hz : ns[i]? = some z) : 0 ≤ z ∧ z < (Sh19.ways k : Nat) := by
  have q := List.all_eq_true.mp h z (List.mem_of_getElem? hz)
  rw [Bool.and_eq_true] at q
  exact ⟨of_decide_eq_true q.1, of_decide_eq_true q.2⟩
/-- one item more -/
theorem take_snoc {α : Type} {l : List α} {i : Nat} {x : α} (h : l[i]? = some x) : l.take (i + 1) = l.take i ++ [x] := by
  rw [List.take_add_one, h]
  rfl
theorem nat_snoc {ns : List Int} {i : Nat} {z : Int} (h : ns[i]? = some z) : nat (ns.take (i + 1)) = nat (ns.take i) ++ [z.toNat] := by
  unfold nat
  rw [take_snoc h, List.map_append]
  rfl
theorem places_snoc (k s : Nat) : ∀ (w : List Nat) (p : Sh19.Place), Sh19.places k p (w ++ [s]) = Sh19.places k p w ++ [Sh19.go k (w.foldl (Sh19.go k) p) s]
  | [], _ => rfl
  | t :: r, p => by
    show p :: Sh19.places k (Sh19.go k p t) (r ++ [s]) = p :: Sh19.places k (Sh19.go k p t) r ++ [Sh19.go k (r.foldl (Sh19.go k) (Sh19.go k p t)) s]
    rw [places_snoc k s r]
    rfl
theorem walk_snoc (k s : Nat) (w : List Nat) : Sh19.walk k (w ++ [s]) = Sh19.walk k w ++ [Sh19.go k (Sh19.ending k w) s] := places_snoc k s w (0, 0)
theorem ending_snoc (k s : Nat) (w : List Nat) : Sh19.ending k (w ++ [s]) = Sh19.go k (Sh19.ending k w) s := by
  unfold Sh19.ending
  rw [List.foldl_append]
  rfl
theorem places_last (k : Nat) : ∀ (w : List Nat) (p : Sh19.Place), ∃ l, Sh19.places k p w = l ++ [w.foldl (Sh19.go k) p]
  | [], _ => ⟨[], rfl⟩
  | t :: r, p => by
    obtain ⟨l, e⟩ := places_last k r (Sh19.go k p t)
    exact ⟨p :: l, by show p :: Sh19.places k (Sh19.go k p t) r = _; rw [e]; rfl⟩
theorem walk_last (k : Nat) (w : List Nat) : ∃ l, Sh19.walk k w = l ++ [Sh19.ending k w] := places_last k w (0, 0)
theorem places_len (k : Nat) : ∀ (w : List Nat) (p : Sh19.Place), (Sh19.places k p w).length = w.length + 1
  | [], _ => rfl
  | t :: r, p => by
    show (Sh19.places k (Sh19.go k p t) r).length + 1 = r.length + 1 + 1
    rw [places_len k r]
theorem walk_len (k : Nat) (w : List Nat) : (Sh19.walk k w).length = w.length + 1 := places_len k w (0, 0)
/-- in_range; refusal -/
def inR (k : Int) (n : Nat) : Bool := decide (0 ≤ k) && decide (k < 3) && decide (n ≤ 4096)
def refu (k : Int) (ns : List Int) : Int := if inR k ns.length = true then (if okS k.toNat ns = true then 0 else -3) else -2
theorem inR_walkOk (k : Int) (n : Nat) : inR k n = Sh19.walkOk k n := by
  unfold inR Sh19.walkOk Sh19.within
  have e : decide (k < 3) = decide (k ≤ 2) := decide_eq_decide.mpr (by omega)
  rw [e]
theorem refu_zero {k : Int} {ns : List Int} (h : refu k ns = 0) : inR k ns.length = true ∧ okS k.toNat ns = true := by
  unfold refu at h
  by_cases c : inR k ns.length = true
  · rw [if_pos c] at h
    by_cases d : okS k.toNat ns = true
    · exact ⟨c, d⟩
    · rw [if_neg d] at h
      exact absurd h (by decide)
  · rw [if_neg c] at h
    exact absurd h (by decide)
theorem inR_bd {k : Int} {n : Nat} (h : inR k n = true) : 0 ≤ k ∧ k < 3 ∧ n ≤ 4096 := by
  unfold inR at h
  rw [Bool.and_eq_true, Bool.and_eq_true] at h
  exact ⟨of_decide_eq_true h.1.1, of_decide_eq_true h.1.2, of_decide_eq_true h.2⟩
/-- what is due, by the refusal -/
theorem end_refused {k : Int} {ns : List Int} (hp : ∀ x ∈ ns, 0 ≤ x) (h : refu k ns ≠ 0) : PySh19.end_ k ns = [refu k ns] := by
  have e1 := inR_walkOk k ns.length
  have e2 := okS_spec k.toNat ns hp
  have hl : (nat ns).length = ns.length := List.length_map _
  show (match (some (if Sh19.walkOk k (nat ns).length = false then Sh19.ok (-2) else if Sh19.stepsOk k.toNat (nat ns) = false then Sh19.ok (-3) else ⟨0, [(Sh19.ending k.toNat (nat ns)).1, (Sh19.ending k.toNat (nat ns)).2]⟩) : Option Sh19.Ans) with | none => [] | some a => a.v :: a.l) = _
  unfold refu at h ⊢
  rw [hl, ← e1, ← e2]
  by_cases c : inR k ns.length = true
  · rw [if_pos c] at h ⊢
    by_cases d : okS k.toNat ns = true
    · rw [if_pos d] at h
      exact absurd rfl h
    · rw [if_neg d, if_neg (by rw [c]; decide), if_pos (by simpa using d)]
      rfl
  · rw [if_neg c, if_pos (by simpa using c)]
    rfl
theorem end_ok {k : Int} {ns : List Int} (hp : ∀ x ∈ ns, 0 ≤ x) (h : refu k ns = 0) : PySh19.end_ k ns = [0, (Sh19.ending k.toNat (nat ns)).1, (Sh19.ending k.toNat (nat ns)).2] := by
  obtain ⟨c, d⟩ := refu_zero h
  rw [inR_walkOk] at c
  rw [okS_spec k.toNat ns hp] at d
  have hl : (nat ns).length = ns.length := List.length_map _
  show (match (some (if Sh19.walkOk k (nat ns).length = false then Sh19.ok (-2) else if Sh19.stepsOk k.toNat (nat ns) = false then Sh19.ok (-3) else ⟨0, [(Sh19.ending k.toNat (nat ns)).1, (Sh19.ending k.toNat (nat ns)).2]⟩) : Option Sh19.Ans) with | none => [] | some a => a.v :: a.l) = _
  rw [hl, c, d]
  rfl
theorem is_refused {k : Int} {ns : List Int} (hp : ∀ x ∈ ns, 0 ≤ x) (h : refu k ns ≠ 0) : PySh19.is_true k ns = [refu k ns] := by
  have e1 := inR_walkOk k ns.length
  have e2 := okS_spec k.toNat ns hp
  have hl : (nat ns).length = ns.length := List.length_map _
  show (match (some (if Sh19.walkOk k (nat ns).length = false then Sh19.ok (-2) else if Sh19.stepsOk k.toNat (nat ns) = false then Sh19.ok (-3) else Sh19.ok (if Sh19.isTrue k.toNat (nat ns) = true then 1 else 0)) : Option Sh19.Ans) with | none => [] | some a => a.v :: a.l) = _
  unfold refu at h ⊢
  rw [hl, ← e1, ← e2]
  by_cases c : inR k ns.length = true
  · rw [if_pos c] at h ⊢
    by_cases d : okS k.toNat ns = true
    · rw [if_pos d] at h
      exact absurd rfl h
    · rw [if_neg d, if_neg (by rw [c]; decide), if_pos (by simpa using d)]
      rfl
  · rw [if_neg c, if_pos (by simpa using c)]
    rfl
theorem is_ok {k : Int} {ns : List Int} (hp : ∀ x ∈ ns, 0 ≤ x) (h : refu k ns = 0) : PySh19.is_true k ns = [if Sh19.isTrue k.toNat (nat ns) = true then 1 else 0] := by
  obtain ⟨c, d⟩ := refu_zero h
  rw [inR_walkOk] at c
  rw [okS_spec k.toNat ns hp] at d
  have hl : (nat ns).length = ns.length := List.length_map _
  show (match (some (if Sh19.walkOk k (nat ns).length = false then Sh19.ok (-2) else if Sh19.stepsOk k.toNat (nat ns) = false then Sh19.ok (-3) else Sh19.ok (if Sh19.isTrue k.toNat (nat ns) = true then 1 else 0)) : Option Sh19.Ans) with | none => [] | some a => a.v :: a.l) = _
  rw [hl, c, d]
  rfl
/-- distinct, as the lists' own word -/
theorem distinct_nodup : ∀ l : List Sh19.Place, Sh19.distinct l = true ↔ l.Nodup
  | [] => by simp [Sh19.distinct]
  | p :: r => by
    rw [List.nodup_cons, ← distinct_nodup r]
    simp [Sh19.distinct]
end NB
namespace NB
/-! ### rows: all rows of n numbers below b, in order (for the later promises) -/
theorem rows_succ (b n : Nat) : Sh19.rows b (n + 1) = (List.range b).flatMap fun s => (Sh19.rows b n).map fun r => s :: r := rfl
theorem flatMap_congr' {α β : Type} {l : List α} {f g : α → List β} (h : ∀ x ∈ l, f x = g x) : l.flatMap f = l.flatMap g := by
  induction l with
  | nil => rfl
  | cons x r ih => rw [List.flatMap_cons, List.flatMap_cons, h x List.mem_cons_self, ih fun y hy => h y (List.mem_cons_of_mem _ hy)]
/-- by the last number instead of the first -/
theorem rows_snoc (b : Nat) : ∀ n, Sh19.rows b (n + 1) = (Sh19.rows b n).flatMap fun r => (List.range b).map fun s => r ++ [s]
  | 0 => by
    show (List.range b).flatMap (fun s => [[s]]) = [[]].flatMap fun r => (List.range b).map fun s => r ++ [s]
    rw [List.flatMap_cons, List.flatMap_nil, List.append_nil]
    generalize List.range b = l
    induction l with
    | nil => rfl
    | cons x r ih => rw [List.flatMap_cons, ih]; rfl
  | n + 1 => by
    rw [rows_succ b (n + 1)]
    conv => rhs; rw [rows_succ b n, List.flatMap_assoc]
    refine flatMap_congr' fun s _ => ?_
    rw [rows_snoc b n, List.map_flatMap, List.flatMap_map]
    refine flatMap_congr' fun r _ => ?_
    rw [List.map_map]
    rfl
theorem mem_rows (b : Nat) : ∀ (n : Nat) (w : List Nat), w ∈ Sh19.rows b n ↔ w.length = n ∧ ∀ s ∈ w, s < b
  | 0, w => by
    show w ∈ [[]] ↔ _
    rw [List.mem_singleton]
    constructor
    · rintro rfl
      exact ⟨rfl, fun s hs => absurd hs List.not_mem_nil⟩
    · exact fun h => List.eq_nil_of_length_eq_zero h.1
  | n + 1, w => by
    rw [rows_succ, List.mem_flatMap]
    constructor
    · rintro ⟨s, h1, h2⟩
      obtain ⟨r, h3, rfl⟩ := List.mem_map.mp h2
      obtain ⟨h4, h5⟩ := (mem_rows b n r).1 h3
      refine ⟨by rw [List.length_cons, h4], fun t ht => ?_⟩
      rcases List.mem_cons.mp ht with e | e
      · rw [e]
        exact List.mem_range.mp h1
      · exact h5 t e
    · rintro ⟨h1, h2⟩
      cases w with
      | nil => exact absurd h1 (by simp)
      | cons s r =>
        refine ⟨s, List.mem_range.mpr (h2 s List.mem_cons_self), List.mem_map.mpr ⟨r, (mem_rows b n r).2 ⟨by simpa using h1, fun t ht => h2 t (List.mem_cons_of_mem _ ht)⟩, rfl⟩⟩
/-- a filter of rows that is told by the row ahead of the last number and by that number -/
theorem rows_filter {b n : Nat} {p q : List Nat → Bool} {t : List Nat → Nat → Bool} (h : ∀ r s, r.length = n → p (r ++ [s]) = (q r && t r s)) :
    (Sh19.rows b (n + 1)).filter p = ((Sh19.rows b n).filter q).flatMap fun r => ((List.range b).filter (t r)).map fun s => r ++ [s] := by
  rw [rows_snoc, List.filter_flatMap]
  have key : ∀ l : List (List Nat), (∀ r ∈ l, r.length = n) → (l.flatMap fun r => ((List.range b).map fun s => r ++ [s]).filter p) = (l.filter q).flatMap fun r => ((List.range b).filter (t r)).map fun s => r ++ [s] := by
    intro l
    induction l with
    | nil => exact fun _ => rfl
    | cons r l ih =>
      intro hl
      rw [List.flatMap_cons, ih fun x hx => hl x (List.mem_cons_of_mem _ hx)]
      have e : ((List.range b).map fun s => r ++ [s]).filter p = if q r = true then ((List.range b).filter (t r)).map (fun s => r ++ [s]) else [] := by
        rw [List.filter_map]
        cases c : q r with
        | true =>
          rw [if_pos rfl]
          congr 1
          refine List.filter_congr fun s _ => ?_
          show p (r ++ [s]) = t r s
          rw [h r s (hl r List.mem_cons_self), c, Bool.true_and]
        | false =>
          rw [if_neg Bool.false_ne_true]
          have z : (List.range b).filter (p ∘ fun s => r ++ [s]) = [] := List.filter_eq_nil_iff.mpr fun s _ => by
            show ¬ p (r ++ [s]) = true
            rw [h r s (hl r List.mem_cons_self), c, Bool.false_and]
            exact Bool.false_ne_true
          rw [z]
          rfl
      rw [e]
      cases c : q r with
      | true => rw [if_pos rfl, List.filter_cons_of_pos c, List.flatMap_cons]
      | false => rw [if_neg Bool.false_ne_true, List.filter_cons_of_neg (by rw [c]; exact Bool.false_ne_true), List.nil_append]
  exact key _ fun r hr => ((mem_rows b n r).1 hr).1
/-! ### true walks by their last step -/
theorem distinct_snoc (l : List Sh19.Place) (p : Sh19.Place) : Sh19.distinct (l ++ [p]) = (Sh19.distinct l && !l.contains p) := by
  have z : Sh19.distinct (l ++ [p]) = true ↔ (Sh19.distinct l && !l.contains p) = true := by
    rw [distinct_nodup, Bool.and_eq_true, distinct_nodup, List.nodup_append]
    constructor
    · rintro ⟨h1, _, h2⟩
      refine ⟨h1, ?_⟩
      cases c : l.contains p with
      | false => rfl
      | true => exact absurd rfl (h2 p (List.contains_iff_mem.mp c) p (List.mem_singleton.mpr rfl))
    · rintro ⟨h1, h2⟩
      refine ⟨h1, List.pairwise_singleton _ _, fun a ha b hb e => ?_⟩
      rw [List.mem_singleton.mp hb] at e
      rw [List.contains_iff_mem.mpr (e ▸ ha)] at h2
      cases h2
  exact Bool.eq_iff_iff.mpr z
theorem isTrue_snoc (k s : Nat) (w : List Nat) : Sh19.isTrue k (w ++ [s]) = (Sh19.isTrue k w && !(Sh19.walk k w).contains (Sh19.go k (Sh19.ending k w) s)) := by
  unfold Sh19.isTrue
  rw [walk_snoc, distinct_snoc]
/-- the steps on which a walk goes on true -/
def goOn (k : Nat) (w : List Nat) : List Nat := (List.range (Sh19.ways k)).filter fun s => !(Sh19.walk k w).contains (Sh19.go k (Sh19.ending k w) s)
theorem trues_snoc (k n : Nat) : Sh19.trues k (n + 1) = (Sh19.trues k n).flatMap fun w => (goOn k w).map fun s => w ++ [s] :=
  rows_filter (q := Sh19.isTrue k) fun r s _ => isTrue_snoc k s r
theorem trues_zero (k : Nat) : Sh19.trues k 0 = [[]] := rfl
theorem walk_cons (k : Nat) (w : List Nat) : ∃ l, Sh19.walk k w = (0, 0) :: l := by
  cases w with
  | nil => exact ⟨[], rfl⟩
  | cons s r => exact ⟨_, rfl⟩
/-- a ring: a true walk, and home with one step more -/
theorem isRing_snoc (k s : Nat) (w : List Nat) : Sh19.isRing k (w ++ [s]) = (decide (2 ≤ w.length) && (Sh19.isTrue k w && (Sh19.go k (Sh19.ending k w) s == (0, 0)))) := by
  obtain ⟨l, hl⟩ := walk_cons k w
  unfold Sh19.isRing Sh19.isTrue
  rw [ending_snoc, walk_snoc, hl]
  have e1 : decide (3 ≤ (w ++ [s]).length) = decide (2 ≤ w.length) := decide_eq_decide.mpr (by rw [List.length_append, List.length_singleton]; omega)
  rw [e1]
  cases c : (Sh19.go k (Sh19.ending k w) s == (0, 0)) with
  | false => simp
  | true =>
    have e2 : Sh19.go k (Sh19.ending k w) s = (0, 0) := eq_of_beq c
    have e3 : ((((0, 0) : Sh19.Place) :: l) ++ [Sh19.go k (Sh19.ending k w) s]).drop 1 = l ++ [(0, 0)] := by rw [e2]; rfl
    rw [e3, distinct_snoc]
    have e4 : Sh19.distinct (((0, 0) : Sh19.Place) :: l) = (!l.contains (0, 0) && Sh19.distinct l) := rfl
    rw [e4, Bool.true_and, Bool.and_true, Bool.and_comm (Sh19.distinct l)]
end NB
namespace NB
/-! ### rows stand in order -/
theorem after_cons (a b : Nat) (r s : List Nat) : Sh19.after (a :: r) (b :: s) = (decide (a < b) || (a == b && Sh19.after r s)) := rfl
theorem rows_order (b : Nat) : ∀ n, (Sh19.rows b n).Pairwise fun u v => Sh19.after u v = true
  | 0 => List.pairwise_singleton _ _
  | n + 1 => by
    rw [rows_succ, List.pairwise_flatMap]
    refine ⟨fun s _ => List.pairwise_map.mpr (List.Pairwise.imp (fun {u v} h => ?_) (rows_order b n)), List.Pairwise.imp (fun {s t} h x hx y hy => ?_) List.pairwise_lt_range⟩
    · rw [after_cons, h, beq_self_eq_true, Bool.true_and, Bool.or_true]
    · obtain ⟨u, _, rfl⟩ := List.mem_map.mp hx
      obtain ⟨v, _, rfl⟩ := List.mem_map.mp hy
      rw [after_cons, decide_eq_true h, Bool.true_or]
theorem trues_order (k n : Nat) : (Sh19.trues k n).Pairwise fun u v => Sh19.after u v = true := List.Pairwise.sublist List.filter_sublist (rows_order _ n)
/-- the first that is found is ahead of all others that would do -/
theorem first_least {k n : Nat} {w u : List Nat} (h : (Sh19.trues k n).find? (Sh19.after w) = some u) : (Sh19.trues k n).all (fun x => !Sh19.after w x || (x == u || Sh19.after u x)) = true := by
  obtain ⟨h1, l1, l2, h2, h3⟩ := List.find?_eq_some_iff_append.mp h
  have ord := trues_order k n
  rw [h2] at ord ⊢
  refine List.all_eq_true.mpr fun x hx => ?_
  rcases List.mem_append.mp hx with z | z
  · rw [h3 x z, Bool.true_or]
  · rcases List.mem_cons.mp z with e | e
    · rw [e, beq_self_eq_true, Bool.true_or, Bool.or_true]
    · have q := (List.pairwise_cons.mp (List.pairwise_append.mp ord).2.1).1 x e
      rw [q, Bool.or_true, Bool.or_true]
/-! ### what is due, call by call -/
theorem next_refused {k : Int} {ns : List Int} (hp : ∀ x ∈ ns, 0 ≤ x) (h : refu k ns ≠ 0) : PySh19.next_walk k ns = [refu k ns] := by
  have e1 := inR_walkOk k ns.length
  have e2 := okS_spec k.toNat ns hp
  have hl : (nat ns).length = ns.length := List.length_map _
  show (match (Sh19Neutral.does (.next k (nat ns))) with | none => [] | some a => a.v :: a.l) = _
  unfold Sh19Neutral.does refu at *
  dsimp only
  rw [hl, ← e1, ← e2]
  by_cases c : inR k ns.length = true
  · rw [if_pos c] at h ⊢
    by_cases d : okS k.toNat ns = true
    · rw [if_pos d] at h
      exact absurd rfl h
    · rw [if_neg d, if_neg (by rw [c]; decide), if_pos (by simpa using d)]
      rfl
  · rw [if_neg c, if_pos (by simpa using c)]
    rfl
theorem next_ok {k : Int} {ns : List Int} (hp : ∀ x ∈ ns, 0 ≤ x) (h : refu k ns = 0) :
    PySh19.next_walk k ns = match (Sh19.trues k.toNat ns.length).find? (Sh19.after (nat ns)) with | none => [-5] | some u => 0 :: Sh19.whole u := by
  obtain ⟨c, d⟩ := refu_zero h
  rw [inR_walkOk] at c
  rw [okS_spec k.toNat ns hp] at d
  have hl : (nat ns).length = ns.length := List.length_map _
  show (match (Sh19Neutral.does (.next k (nat ns))) with | none => [] | some a => a.v :: a.l) = _
  unfold Sh19Neutral.does
  dsimp only
  rw [hl, c, d, if_neg (by decide), if_neg (by decide)]
  cases e : (Sh19.trues k.toNat ns.length).find? (Sh19.after (nat ns)) with
  | none => rfl
  | some u =>
    dsimp only
    rw [if_pos (first_least e)]
/-- kind and n are in their ranges -/
def inC (k n : Int) (lo : Int) : Bool := decide (0 ≤ k) && decide (k ≤ 2) && (decide (lo ≤ n) && decide (n ≤ 16))
theorem count_due {k n : Int} (hn : 0 ≤ n) : PySh19.count k n = if 0 ≤ k ∧ k ≤ 2 ∧ n ≤ 16 then [(0 : Int), ((Sh19.count k.toNat n.toNat : Nat) : Int)] else [-2] := by
  show (match (some (if (Sh19.within k 0 2 && decide (n.toNat ≤ 16)) = false then Sh19.ok (-2) else ⟨0, [(Sh19.count k.toNat n.toNat : Nat)]⟩) : Option Sh19.Ans) with | none => [] | some a => a.v :: a.l) = _
  by_cases c : 0 ≤ k ∧ k ≤ 2 ∧ n ≤ 16
  · have e : (Sh19.within k 0 2 && decide (n.toNat ≤ 16)) = true := by
      unfold Sh19.within
      rw [decide_eq_true c.1, decide_eq_true c.2.1, decide_eq_true (show n.toNat ≤ 16 by omega)]
      rfl
    rw [if_pos c, e]
    rfl
  · have e : (Sh19.within k 0 2 && decide (n.toNat ≤ 16)) = false := by
      cases z : (Sh19.within k 0 2 && decide (n.toNat ≤ 16)) with
      | false => rfl
      | true =>
        unfold Sh19.within at z
        rw [Bool.and_eq_true, Bool.and_eq_true] at z
        have z1 := of_decide_eq_true z.1.1
        have z2 := of_decide_eq_true z.1.2
        have z3 := of_decide_eq_true z.2
        exact absurd ⟨z1, z2, by omega⟩ c
    rw [if_neg c, e]
    rfl
theorem rings_due {k n : Int} (hn : 0 ≤ n) : PySh19.rings k n = if 0 ≤ k ∧ k ≤ 2 ∧ 3 ≤ n ∧ n ≤ 16 then [(0 : Int), ((Sh19.rings k.toNat n.toNat : Nat) : Int)] else [-2] := by
  show (match (some (if (Sh19.within k 0 2 && (decide (3 ≤ n.toNat) && decide (n.toNat ≤ 16))) = false then Sh19.ok (-2) else ⟨0, [(Sh19.rings k.toNat n.toNat : Nat)]⟩) : Option Sh19.Ans) with | none => [] | some a => a.v :: a.l) = _
  by_cases c : 0 ≤ k ∧ k ≤ 2 ∧ 3 ≤ n ∧ n ≤ 16
  · have e : (Sh19.within k 0 2 && (decide (3 ≤ n.toNat) && decide (n.toNat ≤ 16))) = true := by
      unfold Sh19.within
      rw [decide_eq_true c.1, decide_eq_true c.2.1, decide_eq_true (show 3 ≤ n.toNat by omega), decide_eq_true (show n.toNat ≤ 16 by omega)]
      rfl
    rw [if_pos c, e]
    rfl
  · have e : (Sh19.within k 0 2 && (decide (3 ≤ n.toNat) && decide (n.toNat ≤ 16))) = false := by
      cases z : (Sh19.within k 0 2 && (decide (3 ≤ n.toNat) && decide (n.toNat ≤ 16))) with
      | false => rfl
      | true =>
        unfold Sh19.within at z
        rw [Bool.and_eq_true, Bool.and_eq_true, Bool.and_eq_true] at z
        have z1 := of_decide_eq_true z.1.1
        have z2 := of_decide_eq_true z.1.2
        have z3 := of_decide_eq_true z.2.1
        have z4 := of_decide_eq_true z.2.2
        exact absurd ⟨z1, z2, by omega, by omega⟩ c
    rw [if_neg c, e]
    rfl
theorem bridges_due {n : Int} (hn : 0 ≤ n) : PySh19.bridges n = if n ≤ 16 then [(0 : Int), ((Sh19.bridges n.toNat : Nat) : Int)] else [-2] := by
  show (match (some (if 16 < n.toNat then Sh19.ok (-2) else ⟨0, [(Sh19.bridges n.toNat : Nat)]⟩) : Option Sh19.Ans) with | none => [] | some a => a.v :: a.l) = _
  by_cases c : n ≤ 16
  · rw [if_pos c, if_neg (by omega)]
  · rw [if_neg c, if_pos (by omega)]
    rfl
theorem spread_due {n : Int} (hn : 0 ≤ n) : PySh19.spread n = if n ≤ 16 then [0, Sh19.spread n.toNat] else [-2] := by
  show (match (some (if 16 < n.toNat then Sh19.ok (-2) else ⟨0, [Sh19.spread n.toNat]⟩) : Option Sh19.Ans) with | none => [] | some a => a.v :: a.l) = _
  by_cases c : n ≤ 16
  · rw [if_pos c, if_neg (by omega)]
  · rw [if_neg c, if_pos (by omega)]
    rfl
/-- a turned step, by the rest of 4 as the program would reckon it -/
theorem turnStep_int {t s : Nat} (ht : t < 8) (hs : s < 4) : (Sh19.turnStep t s : Int) = if (t : Int) < 4 then ((s : Int) + t) % 4 else ((t : Int) - s) % 4 := by
  unfold Sh19.turnStep
  by_cases c : t < 4
  · rw [if_pos c, if_pos (by omega)]
    omega
  · rw [if_neg c, if_neg (by omega)]
    omega
theorem turn_due {a t : Int} {ns : List Int} (ha : 0 ≤ a) (ht : 0 ≤ t) : PySh19.turn a t ns =
    if ¬ (1 ≤ ns.length ∧ ns.length ≤ 4096 ∧ a < ns.length ∧ t < 8) then [-2] else if Sh19.stepsOk 0 (nat ns) = true ∧ Sh19.isTrue 0 (nat ns) = true then (if Sh19.isTrue 0 (Sh19.turned (nat ns) a.toNat t.toNat) = true then 1 else 0) :: Sh19.whole (Sh19.turned (nat ns) a.toNat t.toNat) else [-3] := by
  have hl : (nat ns).length = ns.length := List.length_map _
  show (match (some (if Sh19.turnOk (nat ns).length a.toNat t.toNat = false then Sh19.ok (-2) else if (Sh19.stepsOk 0 (nat ns) && Sh19.isTrue 0 (nat ns)) = false then Sh19.ok (-3) else ⟨if Sh19.isTrue 0 (Sh19.turned (nat ns) a.toNat t.toNat) = true then 1 else 0, Sh19.whole (Sh19.turned (nat ns) a.toNat t.toNat)⟩) : Option Sh19.Ans) with | none => [] | some a => a.v :: a.l) = _
  rw [hl]
  have z : Sh19.turnOk ns.length a.toNat t.toNat = true ↔ (1 ≤ ns.length ∧ ns.length ≤ 4096 ∧ a < ns.length ∧ t < 8) := by
    unfold Sh19.turnOk
    rw [Bool.and_eq_true, Bool.and_eq_true, Bool.and_eq_true, decide_eq_true_eq, decide_eq_true_eq, decide_eq_true_eq, decide_eq_true_eq]
    omega
  by_cases c : 1 ≤ ns.length ∧ ns.length ≤ 4096 ∧ a < ns.length ∧ t < 8
  · rw [z.2 c, if_neg (show ¬ true = false by decide), if_neg (show ¬ ¬ (1 ≤ ns.length ∧ ns.length ≤ 4096 ∧ a < ns.length ∧ t < 8) from fun y => y c)]
    by_cases d : Sh19.stepsOk 0 (nat ns) = true ∧ Sh19.isTrue 0 (nat ns) = true
    · rw [if_pos d, d.1, d.2]
      rfl
    · rw [if_neg d, if_pos]
      · rfl
      · cases y : (Sh19.stepsOk 0 (nat ns) && Sh19.isTrue 0 (nat ns)) with
        | false => rfl
        | true =>
          rw [Bool.and_eq_true] at y
          exact absurd y d
  · have y : Sh19.turnOk ns.length a.toNat t.toNat = false := by
      cases q : Sh19.turnOk ns.length a.toNat t.toNat with
      | false => rfl
      | true => exact absurd (z.1 q) c
    rw [y, if_pos rfl, if_pos c]
    rfl
/-! ### bridges by their last step -/
/-- a true walk on squares whose places but the first are right of 0 -/
def isFore (w : List Nat) : Bool := Sh19.isTrue 0 w && ((Sh19.walk 0 w).drop 1).all fun p => decide (0 < p.1)
theorem isBridge_fore (w : List Nat) : Sh19.isBridge w = (isFore w && (Sh19.walk 0 w).all fun p => decide (p.1 ≤ (Sh19.ending 0 w).1)) := rfl
theorem isFore_snoc (w : List Nat) (s : Nat) : isFore (w ++ [s]) = (isFore w && (!(Sh19.walk 0 w).contains (Sh19.go 0 (Sh19.ending 0 w) s) && decide (0 < (Sh19.go 0 (Sh19.ending 0 w) s).1))) := by
  obtain ⟨l, hl⟩ := walk_cons 0 w
  unfold isFore
  rw [isTrue_snoc, walk_snoc, hl]
  have e1 : ((((0, 0) : Sh19.Place) :: l) ++ [Sh19.go 0 (Sh19.ending 0 w) s]).drop 1 = l ++ [Sh19.go 0 (Sh19.ending 0 w) s] := rfl
  have e2 : ((((0, 0) : Sh19.Place) :: l)).drop 1 = l := rfl
  rw [e1, e2, List.all_append, List.all_cons, List.all_nil, Bool.and_true]
  generalize Sh19.isTrue 0 w = A
  generalize (!(((0, 0) : Sh19.Place) :: l).contains (Sh19.go 0 (Sh19.ending 0 w) s)) = B
  generalize l.all (fun p => decide (0 < p.1)) = C
  generalize decide (0 < (Sh19.go 0 (Sh19.ending 0 w) s).1) = D
  cases A <;> cases B <;> cases C <;> cases D <;> rfl
end NB
namespace NB
/-! ### how many ways on (no Python) -/
/-- how many true ways on there are, of n steps more -/
def cntW (k : Nat) : Nat → List Nat → Nat
  | 0, _ => 1
  | n + 1, w => ((goOn k w).map fun s => cntW k n (w ++ [s])).sum
theorem sum_flat {α β : Type} (f : α → List β) (g : β → Nat) : ∀ l : List α, ((l.flatMap f).map g).sum = (l.map fun x => ((f x).map g).sum).sum
  | [] => rfl
  | x :: r => by rw [List.flatMap_cons, List.map_append, List.sum_append, sum_flat f g r, List.map_cons, List.sum_cons]
theorem sum_ones {α : Type} : ∀ l : List α, (l.map fun _ => 1).sum = l.length
  | [] => rfl
  | x :: r => by
    rw [List.map_cons, List.sum_cons, sum_ones r, List.length_cons]
    omega
theorem cntW_trues (k : Nat) : ∀ n m, ((Sh19.trues k m).map (cntW k n)).sum = (Sh19.trues k (m + n)).length
  | 0, m => sum_ones _
  | n + 1, m => by
    have e : m + (n + 1) = m + 1 + n := by omega
    rw [e, ← cntW_trues k n (m + 1), trues_snoc, sum_flat]
    congr 1
    refine List.map_congr_left fun w _ => ?_
    rw [List.map_map]
    rfl
theorem cntW_count (k n : Nat) : cntW k n [] = Sh19.count k n := by
  have q := cntW_trues k n 0
  rw [trues_zero, Nat.zero_add, List.map_cons, List.map_nil, List.sum_cons, List.sum_nil, Nat.add_zero] at q
  exact q
/-- the steps from number l on that lead from q to none of these places -/
def opn (k l : Nat) (ps : List Sh19.Place) (q : Sh19.Place) : List Nat := (List.range' l (Sh19.ways k - l)).filter fun s => !ps.contains (Sh19.go k q s)
theorem opn_goOn (k : Nat) (w : List Nat) : opn k 0 (Sh19.walk k w) (Sh19.ending k w) = goOn k w := by
  unfold opn goOn
  rw [Nat.sub_zero, List.range_eq_range']
theorem mem_opn {k l s : Nat} {ps : List Sh19.Place} {q : Sh19.Place} : s ∈ opn k l ps q ↔ (l ≤ s ∧ s < Sh19.ways k) ∧ ¬ Sh19.go k q s ∈ ps := by
  unfold opn
  rw [List.mem_filter, List.mem_range'_1]
  constructor
  · rintro ⟨⟨h1, h2⟩, h3⟩
    refine ⟨⟨h1, by omega⟩, fun c => ?_⟩
    rw [List.contains_iff_mem.mpr c] at h3
    cases h3
  · rintro ⟨⟨h1, h2⟩, h3⟩
    refine ⟨⟨h1, by omega⟩, ?_⟩
    cases c : ps.contains (Sh19.go k q s) with
    | false => rfl
    | true => exact absurd (List.contains_iff_mem.mp c) h3
theorem opn_first {k l f : Nat} {r : List Nat} {ps : List Sh19.Place} {q : Sh19.Place} (h : opn k l ps q = f :: r) : ∀ s ∈ opn k l ps q, f ≤ s := by
  have o : (opn k l ps q).Pairwise (· < ·) := List.Pairwise.sublist List.filter_sublist List.pairwise_lt_range'
  rw [h] at o ⊢
  intro s hs
  rcases List.mem_cons.mp hs with e | e
  · rw [e]
    exact Nat.le_refl _
  · exact Nat.le_of_lt ((List.pairwise_cons.mp o).1 s e)
/-- one more of the range -/
theorem range_filter_snoc (p : Nat → Bool) (l i : Nat) : (List.range' l (i + 1)).filter p = (List.range' l i).filter p ++ (if p (l + i) = true then [l + i] else []) := by
  rw [List.range'_concat, List.filter_append, Nat.one_mul]
  cases c : p (l + i) with
  | true => rw [if_pos rfl, List.filter_cons_of_pos c, List.filter_nil]
  | false => rw [if_neg Bool.false_ne_true, List.filter_cons_of_neg (by rw [c]; exact Bool.false_ne_true), List.filter_nil]
end NB
namespace NB
/-! ### sums over all true walks, by the ways on (no Python; for rings, bridges, spread) -/
/-- the sum of g over all true walks that go on from w by n steps -/
def leafS (k : Nat) (g : List Nat → Int) : Nat → List Nat → Int
  | 0, w => g w
  | n + 1, w => ((goOn k w).map fun s => leafS k g n (w ++ [s])).sum
theorem sum_flatI {α β : Type} (f : α → List β) (g : β → Int) : ∀ l : List α, ((l.flatMap f).map g).sum = (l.map fun x => ((f x).map g).sum).sum
  | [] => rfl
  | x :: r => by rw [List.flatMap_cons, List.map_append, List.sum_append, sum_flatI f g r, List.map_cons, List.sum_cons]
theorem leafS_trues (k : Nat) (g : List Nat → Int) : ∀ n m, ((Sh19.trues k m).map (leafS k g n)).sum = ((Sh19.trues k (m + n)).map g).sum
  | 0, _ => rfl
  | n + 1, m => by
    have e : m + (n + 1) = m + 1 + n := by omega
    rw [e, ← leafS_trues k g n (m + 1), trues_snoc, sum_flatI]
    congr 1
    refine List.map_congr_left fun w _ => ?_
    rw [List.map_map]
    rfl
theorem leafS_all (k : Nat) (g : List Nat → Int) (n : Nat) : leafS k g n [] = ((Sh19.trues k n).map g).sum := by
  have q := leafS_trues k g n 0
  rw [trues_zero, Nat.zero_add, List.map_cons, List.map_nil, List.sum_cons, List.sum_nil, Int.add_zero] at q
  exact q
theorem leafS_cnt (k : Nat) : ∀ (n : Nat) (w : List Nat), leafS k (fun _ => 1) n w = (cntW k n w : Nat)
  | 0, _ => rfl
  | n + 1, w => by
    show ((goOn k w).map fun s => leafS k (fun _ => 1) n (w ++ [s])).sum = ((((goOn k w).map fun s => cntW k n (w ++ [s])).sum : Nat) : Int)
    generalize goOn k w = l
    induction l with
    | nil => rfl
    | cons s r ih =>
      rw [List.map_cons, List.sum_cons, List.map_cons, List.sum_cons, ih, leafS_cnt k n (w ++ [s])]
      omega
theorem spread_leaf (n : Nat) : Sh19.spread n = leafS 0 (fun w => Sh19.far (Sh19.ending 0 w)) n [] := (leafS_all 0 _ n).symm
theorem filter_len {α : Type} (p : α → Bool) : ∀ l : List α, ((l.filter p).length : Int) = (l.map fun x => if p x = true then (1 : Int) else 0).sum
  | [] => rfl
  | x :: r => by
    rw [List.map_cons, List.sum_cons, ← filter_len p r]
    cases c : p x with
    | true =>
      rw [List.filter_cons_of_pos c, List.length_cons, if_pos rfl]
      omega
    | false =>
      rw [List.filter_cons_of_neg (by rw [c]; exact Bool.false_ne_true), if_neg Bool.false_ne_true]
      omega
theorem bridges_leaf (n : Nat) : ((Sh19.bridges n : Nat) : Int) = leafS 0 (fun w => if Sh19.isBridge w = true then 1 else 0) n [] := by
  rw [leafS_all]
  unfold Sh19.bridges Sh19.trues
  rw [show Sh19.ways 0 = 4 from rfl, ← filter_len, List.filter_filter]
  have e : (fun a => Sh19.isBridge a && Sh19.isTrue 0 a) = Sh19.isBridge := by
    funext a
    unfold Sh19.isBridge
    cases Sh19.isTrue 0 a
    · simp
    · simp
  rw [e]
/-- the steps that lead home -/
def homeS (k : Nat) (w : List Nat) : List Nat := (List.range (Sh19.ways k)).filter fun s => Sh19.go k (Sh19.ending k w) s == (0, 0)
theorem sum_lens {α : Type} : ∀ l : List (List α), (l.flatten.length : Int) = (l.map fun x => (x.length : Int)).sum
  | [] => rfl
  | x :: r => by
    rw [List.flatten_cons, List.length_append, List.map_cons, List.sum_cons, ← sum_lens r]
    omega
theorem rings_leaf {k n : Nat} (hn : 2 ≤ n) : ((Sh19.rings k (n + 1) : Nat) : Int) = leafS k (fun w => ((homeS k w).length : Int)) n [] := by
  rw [leafS_all]
  unfold Sh19.rings
  have e := rows_filter (b := Sh19.ways k) (n := n) (p := Sh19.isRing k) (q := Sh19.isTrue k) (t := fun w s => Sh19.go k (Sh19.ending k w) s == (0, 0)) fun r s hr => by
    rw [isRing_snoc, decide_eq_true (by omega), Bool.true_and]
  rw [e]
  show ((((Sh19.trues k n).flatMap fun r => (homeS k r).map fun s => r ++ [s]).length : Nat) : Int) = _
  rw [List.flatMap_def, sum_lens, List.map_map]
  congr 1
  refine List.map_congr_left fun w _ => ?_
  show (((homeS k w).map fun s => w ++ [s]).length : Int) = _
  rw [List.length_map]
end NB
namespace NB
open PySem PySem.Spec PyProof.Rows L2
open PySem.W (Codec)
/-! ### the text -/
def top (i : Nat) : Stmt := PySem.Challenge.pw_neverback_s04_count.main.body.getD i (.Pass ⟨0, 0, 0, 0⟩)
/-! ### what the top has written -/
/-- a tuple of the written part -/
def TupK (K : PySem.W.Frag) (a : Addr) (xs : List V) : Prop := SqT K (fun _ => none) a xs
theorem TupK.sq {K : PySem.W.Frag} {a : Addr} {xs : List V} (h : TupK K a xs) (H : Hp) : SqT K H a xs := by
  rcases h with z | z
  · rcases z with z | ⟨o, z⟩ <;> cases z
  · exact .inr z
structure Txt (K : PySem.W.Frag) (mg : Str → Option Value) (M : Addr) : Prop where
  len : mg "len" = none
  gH : ∃ t, mg "HONEYCOMB" = some (.int 2 t)
  gM : mg "MOVES" = some (.ref M)
  mov : ∃ rows : List Addr, TupK K M (rows.map V.ref) ∧ rows.length = 3 ∧ ∀ k, k < 3 → ∃ (r : Addr) (cs : List Addr), rows[k]? = some r ∧ TupK K r (cs.map V.ref) ∧ cs.length = Sh19.ways k ∧
    ∀ s, s < Sh19.ways k → ∃ c, cs[s]? = some c ∧ TupK K c [.int (movAt k s).1, .int (movAt k s).2]
theorem pe_gi {X : Cx} {x : Str} {i : Int} {pos : Pos} (hg : Gl X x) (h : ∃ t, X.mg x = some (.int i t)) (hd : (x == ("__debug__" : Str)) = false := by decide) : PE X (.Name x pos) (tC (.int i)) := by
  obtain ⟨t, e⟩ := h
  exact pe_glob hg e ⟨t, rfl⟩ hd
/-- a def that can be called by its name -/
structure Cal (P : Program) (w : World) (K : PySem.W.Frag) (mg : Str → Option Value) (base : Heap) (k : Nat) (x : Str) (ps : List Str) (sp : Sp) : Prop where
  ex : ∃ (f : Addr) (fd : FuncData), FnOk P w K mg base CX0 k f fd ps sp ∧ PySem.W.keepIn K (.ref f) = true ∧ Binds K fd ps [] ∧ mg x = some (.ref f)
theorem pe_cal {X : Cx} {x : Str} {ps : List Str} {sp : Sp} {k : Nat} {e : Expr} {es : List Expr} {p pos : Pos} {t : TA} (C : Cal X.prog X.w X.K X.mg X.base k x ps sp) (hr : Room k X.A) (ha : PA X (e :: es) t) (hg : Gl X x := by rfl) (hdb : (x == ("__debug__" : Str)) = false := by decide)
    (he : starEach (e :: es) X.env = (false, eval e X.env) :: starEach es X.env := by rfl) (hpl : (backTo pos (starEach es X.env)).any (·.1) = false := by rfl) : PE X (.Call (.Name x p) (e :: es) [] pos) (tCall sp [] E0 t) := by
  obtain ⟨f, fd, F, kp, b, j⟩ := C.ex
  exact pe_call F hr hg j kp b .nil pass0 ha hdb he hpl
theorem if_t {c : Bool} {A B : Prop} (hc : c = true) (h : A) : if c = true then A else B := by
  rw [if_pos hc]
  exact h
theorem if_f {c : Bool} {A B : Prop} (hc : c = false) (h : B) : if c = true then A else B := by
  rw [hc, if_neg Bool.false_ne_true]
  exact h
theorem at_of {α : Type} {xs : List α} {k : Int} {v : α} (h0 : 0 ≤ k) (h : xs[k.toNat]? = some v) : atI xs k = some v := by
  have q := atI_nat h
  rw [Int.toNat_of_nonneg h0] at q
  exact q
theorem get_ref {l : List Addr} {i : Nat} {r : Addr} (h : l[i]? = some r) : (l.map V.ref)[i]? = some (.ref r) := by
  rw [List.getElem?_map, h]
  rfl
theorem get_int {ns : List Int} {i : Nat} {y : V} (h : (ns.map V.int)[i]? = some y) : ∃ z, ns[i]? = some z ∧ y = .int z := by
  rw [List.getElem?_map] at h
  cases e : ns[i]? with
  | none =>
    rw [e] at h
    cases h
  | some z =>
    rw [e] at h
    exact ⟨z, rfl, (Option.some.inj h).symm⟩
theorem same_new {H : Hp} {q : Addr} {o : HO} (hq : H q = none) : Same H (upd H q o) := fun b u e => by
  rw [upd_ne (ne_of_none e hq)]
  exact e
/-- what a def's own new object becomes does not touch what stood before -/
theorem same_at {H H' : Hp} {q : Addr} {o : HO} (s : Same H H') (hq : H q = none) : Same H (upd H' q o) := fun b u e => by
  rw [upd_ne (ne_of_none e hq)]
  exact s b u e
/-- the list at p holds tuples, one a place -/
structure Lies (H : Hp) (p : Addr) (ps : List (Int × Int)) : Prop where
  ex : ∃ cs : List Addr, H p = some (.lst (cs.map V.ref)) ∧ cs.length = ps.length ∧ ∀ (i : Nat) (c : Addr) (q : Int × Int), cs[i]? = some c → ps[i]? = some q → H c = some (.tup [.int q.1, .int q.2])
theorem Lies.same {H H' : Hp} {p : Addr} {ps : List (Int × Int)} (s : Same H H') (h : Lies H p ps) : Lies H' p ps := by
  obtain ⟨cs, h1, h2, h3⟩ := h.ex
  exact ⟨cs, s _ _ h1, h2, fun i c q a b => s _ _ (h3 i c q a b)⟩
theorem Lies.last {H : Hp} {p : Addr} {l : List (Int × Int)} {q : Int × Int} (h : Lies H p (l ++ [q])) : ∃ (cs : List Addr) (c : Addr), H p = some (.lst (cs.map V.ref)) ∧ atI (cs.map V.ref) (-1) = some (.ref c) ∧ H c = some (.tup [.int q.1, .int q.2]) := by
  obtain ⟨cs, hcs, hlen, hall⟩ := h.ex
  rw [List.length_append, List.length_singleton] at hlen
  have hlt : l.length < cs.length := by omega
  have hc : cs[l.length]? = some cs[l.length] := List.getElem?_eq_getElem hlt
  have hC := hall l.length cs[l.length] q hc (by rw [List.getElem?_append_right (Nat.le_refl _), Nat.sub_self]; rfl)
  refine ⟨cs, cs[l.length], hcs, ?_, hC⟩
  have e : cs = cs.take l.length ++ [cs[l.length]] := by
    have q := take_snoc hc
    rw [List.take_of_length_le (by omega)] at q
    exact q
  have e2 : cs.map V.ref = (cs.take l.length).map V.ref ++ [V.ref cs[l.length]] := by
    have q := congrArg (List.map V.ref) e
    rw [List.map_append] at q
    exact q
  rw [e2]
  exact atI_last _ _
/-- one place more -/
theorem lies_snoc {H H' : Hp} {p' c : Addr} {ps : List (Int × Int)} {q : Int × Int} {cs : List Addr} (hl : cs.length = ps.length) (hall : ∀ (i : Nat) (c : Addr) (q : Int × Int), cs[i]? = some c → ps[i]? = some q → H c = some (.tup [.int q.1, .int q.2]))
    (hp : H' p' = some (.lst (cs.map V.ref ++ [.ref c]))) (hc : H' c = some (.tup [.int q.1, .int q.2])) (st : ∀ d x y, H d = some (.tup [.int x, .int y]) → H' d = some (.tup [.int x, .int y])) : Lies H' p' (ps ++ [q]) := by
  refine ⟨cs ++ [c], ?_, ?_, ?_⟩
  · rw [hp, List.map_append]
    rfl
  · rw [List.length_append, List.length_append, hl]
    rfl
  · intro j c' q' h1 h2
    by_cases hj : j < cs.length
    · rw [List.getElem?_append_left hj] at h1
      rw [List.getElem?_append_left (by rw [← hl]; exact hj)] at h2
      exact st _ _ _ (hall j c' q' h1 h2)
    · have hj2 : j = cs.length := by
        have := (List.getElem?_eq_some_iff.mp h1).1
        rw [List.length_append, List.length_singleton] at this
        omega
      subst hj2
      rw [List.getElem?_append_right (Nat.le_refl _), Nat.sub_self] at h1
      rw [List.getElem?_append_right (by rw [hl]; exact Nat.le_refl _), hl, Nat.sub_self] at h2
      have x1 : c = c' := Option.some.inj h1
      have x2 : q = q' := Option.some.inj h2
      subst x1
      subst x2
      exact hc
theorem at0 (a b : V) : atI [a, b] 0 = some a := at_of (Int.le_refl _) rfl
theorem at1 (a b : V) : atI [a, b] 1 = some b := at_of (by decide) rfl
theorem hu65 {A : Around} {k : Nat} (hr : Room k A) : A.units + 65 < cLine := by
  have := hr.un
  omega
/-! ### a place as data -/
def pD (z : Int × Int) : PyData := .tuple [.int z.1, .int z.2]
theorem pD_lay (z : Int × Int) : (pD z).canLay0 = true := by simp [pD, PyData.canLay0, PyData.canLayAll0]
theorem pD_depth (z : Int × Int) : (pD z).depth = 1 := by simp [pD, PyData.depth, PyData.depthAll]
theorem pDs_lay : ∀ zs : List (Int × Int), PyData.canLayAll0 (zs.map pD) = true
  | [] => by simp [PyData.canLayAll0]
  | z :: zs => by simp [PyData.canLayAll0, pD_lay z, pDs_lay zs]
theorem pDs_depth : ∀ zs : List (Int × Int), PyData.depthAll (zs.map pD) ≤ 1
  | [] => by simp [PyData.depthAll]
  | z :: zs => by
    have h1 := pDs_depth zs
    have h2 := pD_depth z
    simp only [List.map_cons, PyData.depthAll]
    omega
theorem pD_shaped (z : Int × Int) : SeqAt.shaped (pD z) = true := by
  have h := pD_depth z
  show ((pD z).canLay0 && decide ((pD z).depth ≤ 64)) = true
  rw [Bool.and_eq_true]
  exact ⟨pD_lay z, decide_eq_true (by omega)⟩
theorem pDs_shaped (zs : List (Int × Int)) : SeqAt.shaped (.list (zs.map pD)) = true := by
  have h1 := pDs_depth zs
  have h2 : PyData.depth (.list (zs.map pD)) ≤ 64 := by
    simp only [PyData.depth]
    omega
  show (PyData.canLay0 (.list (zs.map pD)) && decide (PyData.depth (.list (zs.map pD)) ≤ 64)) = true
  rw [Bool.and_eq_true]
  exact ⟨by simp only [PyData.canLay0]; exact pDs_lay zs, decide_eq_true h2⟩
theorem pD_eqv (z w : Int × Int) : PyData.eqv (pD z) (pD w) = decide (z = w) := by
  obtain ⟨a, b⟩ := z
  obtain ⟨a', b'⟩ := w
  have e : PyData.eqv (pD (a, b)) (pD (a', b')) = ((a == a') && ((b == b') && true)) := by simp only [pD, PyData.eqv, PyData.eqvAll]
  rw [e]
  by_cases h1 : a = a'
  · by_cases h2 : b = b'
    · subst h1 h2
      simp
    · rw [decide_eq_false (fun z => h2 (Prod.mk.inj z).2), beq_eq_false_iff_ne.mpr h2, Bool.false_and, Bool.and_false]
  · rw [decide_eq_false (fun z => h1 (Prod.mk.inj z).1), beq_eq_false_iff_ne.mpr h1, Bool.false_and]
theorem any_eqv (q : Int × Int) : ∀ ps : List (Int × Int), ((ps.map pD).any fun z => PyData.eqv z (pD q)) = ps.contains q
  | [] => rfl
  | p :: r => by
    rw [List.map_cons, List.any_cons, any_eqv q r, pD_eqv, List.contains_cons]
    congr 1
    by_cases h : p = q
    · rw [decide_eq_true h, h, beq_self_eq_true]
    · rw [decide_eq_false h, beq_eq_false_iff_ne.mpr (fun z => h z.symm)]
theorem dp_all {K : PySem.W.Frag} {H : Hp} : ∀ (cs : List Addr) (ps : List (Int × Int)), cs.length = ps.length → (∀ (i : Nat) (c : Addr) (q : Int × Int), cs[i]? = some c → ps[i]? = some q → H c = some (.tup [.int q.1, .int q.2])) → DpAll K H (cs.map V.ref) (ps.map pD)
  | [], [], _, _ => .nil
  | [], _ :: _, h, _ => absurd h (by simp)
  | _ :: _, [], h, _ => absurd h (by simp)
  | c :: cs, q :: ps, h, a => .cons (.tup (SqT.of (a 0 c q rfl rfl)) (.cons (.int _) (.cons (.int _) .nil))) (dp_all cs ps (by simpa using h) fun i c' q' h1 h2 => a (i + 1) c' q' h1 h2)
theorem Lies.dp {K : PySem.W.Frag} {H : Hp} {p : Addr} {ps : List (Int × Int)} (h : Lies H p ps) : Dp K H (.ref p) (.list (ps.map pD)) := by
  obtain ⟨cs, h1, h2, h3⟩ := h.ex
  exact .lst (SqL.of h1) (dp_all cs ps h2 h3)
end NB
namespace NB
open PySem PySem.Spec PyProof.Rows L2 LamX NdefX
/-! ### functions that a name holds: a def of the top, or a lambda that was just made -/
/-- the call at f ends as sp says, wherever the base stands -/
structure Hld (P : Program) (w : World) (K : PySem.W.Frag) (mg : Str → Option Value) (base : Heap) (k : Nat) (f : Addr) (sp : Sp) : Prop where
  fn : PySem.W.FnAt f base
  run : ∀ (A : Around) (outer : List Env) (st : Shared) (H : Hp) (us : List Value) (vs : List V) (Q : VK), Room k A → Env0 P w K mg base A outer st H → Vals vs us → sp vs H Q L2.E0 →
    codeAny (model P w) A (.call (.ref f) ⟨us, []⟩) (CR L2.CX0 outer P w H st Q L2.E0) st
section
variable {P : Program} {w : World} {K : PySem.W.Frag} {mg : Str → Option Value} {base : Heap} {j k : Nat} {f : Addr} {sp : Sp}
theorem Hld.mono (h : Hld P w K mg base j f sp) (le : j ≤ k) : Hld P w K mg base k f sp := ⟨h.fn, fun A outer st H us vs Q room => h.run A outer st H us vs Q (room.mono le)⟩
/-- where no exception leaves: the call has given back -/
theorem gave {outer : List Env} {H : Hp} {st st' : Shared} {Q : VK} : ∀ {r : Result}, CR L2.CX0 outer P w H st Q L2.E0 r st' → ∃ u, r = .ok (.ret u) ∧ CE outer P w H st Q u st'
  | .ok (.ret u), z => ⟨u, rfl, z⟩
  | .ok .next, z => z.elim
  | .ok .brk, z => z.elim
  | .ok .cont, z => z.elim
  | .error _, z => (show False from z).elim
/-- a def of the top is one -/
theorem hld_of {fd : FuncData} {ps : List Str} {oc : Value} {od : Option Addr} {sl : Array (Option Value)} (KB : K.In base) (at_f : K.lookup f = some ⟨oc, od, .func fd, sl⟩) (bi : Binds K fd ps []) (ok : FnOk P w K mg base L2.CX0 k f fd ps sp) : Hld P w K mg base k f sp := by
  refine ⟨⟨oc, od, fd, sl, KB _ _ at_f⟩, fun A outer st H us vs Q room e0 rel rd => ?_⟩
  have n : us.length = ps.length := rel.length.symm.trans (ok.len _ _ _ _ rd)
  have bound : BindsTo st fd ⟨us, []⟩ (ps.zip us) := by
    have z := bi st us (e0.mod.kin.keeps fun a o e => (e0.bs a o e).1) (by rw [List.append_nil]; exact n)
    rw [List.append_nil] at z
    exact z
  exact ok.run A outer st H ⟨us, []⟩ us vs Q L2.E0 room e0 bound rel rd
/-- what the base's cells hold they hold in every heap over it -/
theorem cells_over {cl : List (Str × Addr)} {fr : List Str} {ws : List (Option V)} {A : Around} {outer : List Env} {st : Shared} {H : Hp} (cells : CellsAt cl fr ws base fun _ => none) (e0 : Env0 P w K mg base A outer st H) : CellsAt cl fr ws st.heap H where
  len := cells.len
  inj := cells.inj
  all := fun y a e => by
    obtain ⟨_, v, o, at_a, hv⟩ := cells.all y a e
    exact ⟨(e0.bs a o at_a).2, v, o, (e0.bs a o at_a).1, hv⟩
  has := fun i y e => by
    obtain ⟨a, look, val⟩ := cells.has i y e
    refine ⟨a, look, fun v hv => ?_⟩
    obtain ⟨u, rel, o, at_a, hc⟩ := val v hv
    exact ⟨u, rel, o, (e0.bs a o at_a).1, hc⟩
/-- a lambda by its body: N its names, the parameters ps, then the captured ones fr, which hold ws; its code object is tracked -/
theorem hld_lam {c' : Addr} {qual : Str} {params : Arguments} {body : Expr} {scope : Scope} {cl : List (Str × Addr)} {pm ctv : Value} {N ps fr : List Str} {ws : List (Option V)}
    (sc : NScope N ps fr scope) (bi : ∀ us : List Value, us.length = ps.length → bindArgs (PySem.W.kla_fn "<lambda>" qual params body scope cl pm (.ref c') ctv) ⟨us, []⟩ = pure (ps.zip us))
    (at_f : base.get? f = some (PySem.W.kla_obj "<lambda>" qual params body scope cl pm c' ctv)) (cells : CellsAt cl fr ws base fun _ => none) (num : ∀ vs H Q, sp vs H Q L2.E0 → vs.length = ps.length ∧ H c' = some (CodeO c' qual))
    (reads : ∀ (A : Around) (outer : List Env) (st : Shared) (H : Hp) (vs : List V) (Q : VK), Room k (A.deeper (envF ⟨"<lambda>", qual, params, [], scope, cl, c'⟩ f st.heap.objs.size)) → sp vs H Q L2.E0 →
      ∃ t, PE (ncx L2.CX0 P w K mg base N ⟨"<lambda>", qual, params, [], scope, cl, c'⟩ f A outer st H L2.E0).nox body t ∧ t (startF N vs ws) H Q) :
    Hld P w K mg base (k + 1) f sp := by
  refine ⟨⟨_, _, _, _, at_f⟩, fun A outer st H us vs Q room e0 rel rd => ?_⟩
  obtain ⟨n, at_c⟩ := num _ _ _ rd
  have over : ∀ a o, base.get? a = some o → st.heap.get? a = some o := fun a o e => (e0.bs a o e).1
  refine PySem.W.kla_callFunE room.depth (over _ _ at_f) rfl sc.co sc.gen rfl (codeO_at e0.hok at_c) ?_
  rw [bi us (rel.length.symm.trans n)]
  refine wpAny_pure (wpAny_newFunctionEnv sc.nocell (fun y hy => sc.par y.1 (List.of_mem_zip hy).1) (fun h1 loc but => ⟨(e0.mod.nolimit.keeps over).fresh _ but, ?_⟩) sc.kind)
  have more : ∀ a o, st.heap.get? a = some o → h1.get? a = some o := fun a o e => but.extBut a o (Nat.ne_of_lt (Heap.lt_size e)) (Heap.get?_push_of_some _ e)
  obtain ⟨t, pe, rd2⟩ := reads A outer st H vs Q (room.deeper _) rd
  have start := inv_startN (F := ⟨"<lambda>", qual, params, [], scope, cl, c'⟩) (f := f) (CX := L2.CX0) (E := L2.E0) (tk := st.toks + (ps.zip us).length) sc room.hd e0 n rel (cells_over cells e0) loc more
  refine PySem.W.kla_codeExpr (wpAny_mono (pe.nox.run [] _ _ H Q start rd2) (fun u st' got => ?_) fun _ _ z => z)
  obtain ⟨v, G, inv, rv, fin⟩ := got
  exact ⟨v, G, inv.os, inv.bare, inv.base, inv.hok, rv, fin⟩
/-! ### another base: all that stands, but what is tracked and the frames -/
def wider (h : Heap) (H : Hp) (l : List Env) : Heap := PySem.W.hideAll h (trk h H ++ frs l)
theorem wider_has {h : Heap} {H : Hp} {l : List Env} {a : Addr} {o : Obj} (e : h.get? a = some o) (free : H a = none) (nofr : a ∉ frs l) : (wider h H l).get? a = some o := by
  refine PySem.W.hideAll_get _ e fun m => (List.mem_append.mp m).elim (fun z => ?_) nofr
  have q := (List.mem_filter.mp z).2
  rw [free] at q
  cases q
theorem of_wider {h : Heap} {H : Hp} {l : List Env} {a : Addr} {o : Obj} (e : (wider h H l).get? a = some o) : h.get? a = some o ∧ H a = none := by
  have at_a := PySem.W.of_hideAll _ e
  refine ⟨at_a, Option.eq_none_iff_forall_ne_some.mpr fun x q => ?_⟩
  have m : a ∈ trk h H := List.mem_filter.mpr ⟨List.mem_range.mpr (Heap.lt_size at_a), by rw [q]; rfl⟩
  have z := e.symm.trans (PySem.W.hideAll_none (h := h) _ (List.mem_append_left (frs l) m))
  cases z
theorem widen {A : Around} {outer : List Env} {st : Shared} {H : Hp} (e0 : Env0 P w K mg base A outer st H) : Env0 P w K mg (wider st.heap H outer) A outer st H := by
  have over : ∀ a o, base.get? a = some o → (wider st.heap H outer).get? a = some o := fun a o e => wider_has (e0.bs a o e).1 (e0.bs a o e).2 fun m => by
    have z := e.symm.trans (e0.funs.mem m).1
    cases z
  obtain ⟨mb, bl, bb⟩ := e0.mod.blt
  exact { frames := e0.frames, mod := ⟨e0.mod.kin.keeps over, e0.mod.glob.keeps over, ⟨mb, bl.keeps over, bb⟩, e0.mod.nolimit.keeps over⟩, bs := fun a o e => of_wider e, bsz := Nat.le_of_eq (PySem.W.hideAll_size _ _), funs := PySem.W.funFrames_hide e0.funs fun env he a ha => List.mem_append_right _ (List.mem_filterMap.mpr ⟨env, he, ha⟩), frf := e0.frf, hok := e0.hok, bare := e0.bare }
end
/-! ### calls -/
/-- the name in slot i holds the function at f -/
def tHld (i : Nat) (f : Addr) (sp : Sp) (t : TA) : TE := fun σ H Q => σ[i]? = some (some (.ref f)) ∧ t σ H fun vs G => sp vs G Q L2.E0
/-- x(a, b, lambda ..): spG ws f c' is what the def promises that gets the lambda at f, whose code object is at c'; ws: what it has captured -/
def tLam3 (T : List (Addr × Str)) (q : Str) (js : List Nat) (spG : List (Option V) → Addr → Addr → Sp) (ta tb : TE) : TE := fun σ H Q => ta σ H fun x H1 => tb σ H1 fun y H2 => Tabs T H2 ∧
  ∀ (f c' : Addr) (G : Hp), ExtN H2 G → G c' = some (CodeO c' q) → spG (js.map (slotAt σ)) f c' [x, y, .ref f] G Q L2.E0
section
variable {X : Cx}
theorem back {pn : List (Addr × Obj)} {σ : L2.St} {H : Hp} {st : Shared} {Q : VK} {f : Addr} {us : List Value} (inv : Inv X pn σ H st) (run : codeAny (model X.prog X.w) X.A (.call (.ref f) ⟨us, []⟩) (CR L2.CX0 X.stack X.prog X.w H st Q L2.E0) st) :
    wpAny (model X.prog X.w) X.A (call (.ref f) us) (EP X pn σ Q) X.xe st :=
  wpAny_call (codeAny_mono run fun r st' z => by
    obtain ⟨u, rfl, e⟩ := gave z
    exact inv.after e)
theorem pe_hld {k i : Nat} {f : Addr} {sp : Sp} {x : Str} {p pos : Pos} {e : Expr} {es : List Expr} {t : TA} (fn : Hld X.prog X.w X.K X.mg X.base k f sp) (room : Room k X.A) (at_i : X.N[i]? = some x) (vis : Vis X.env.scope x) (args : PA X (e :: es) t)
    (d1 : (x == ("__debug__" : Str)) = false := by decide) (d2 : (x == ("__classdict__" : Str)) = false := by decide) (p1 : starEach (e :: es) X.env = (false, eval e X.env) :: starEach es X.env := by rfl) (p2 : (backTo pos (starEach es X.env)).any (·.1) = false := by rfl) :
    PE X (.Call (.Name x p) (e :: es) [] pos) (tHld i f sp t) where
  run := fun pn st σ H Q inv ⟨holds, rd⟩ => by
    have is_fn : ∀ {G : Hp} {st' : Shared}, Inv X pn σ G st' → PySem.W.FnAt f st'.heap := fun z => by
      obtain ⟨oc, od, fd, sl, at_f⟩ := fn.fn
      exact ⟨oc, od, fd, sl, z.bk _ _ at_f⟩
    have name := (pe_var (X := X) (pos := p) at_i vis d1 d2).run pn st σ H (fun v G => v = .ref f ∧ G = H) inv ⟨_, holds, rfl, rfl⟩
    refine wpAny_Call_Name_kw (thn name fun u st1 got => ?_)
    obtain ⟨v, G, inv1, rel, rfl, rfl⟩ := got
    cases rel
    exact PySem.W.callWith_F (first := []) (is_fn inv1) (thn (args.run pos pn st1 σ _ _ inv1 rd) fun us st2 ⟨vs, G2, inv2, rels, rd2⟩ => ⟨is_fn inv2, back inv2 (fn.run X.A X.stack st2 G2 us vs Q room inv2.env0 rels rd2)⟩) p1 p2
theorem pe_lam3 {x : Str} {g c P : Addr} {T : List (Addr × Str)} {fd : FuncData} {ps fr : List Str} {js : List Nat} {k kW : Nat} {spG : List (Option V) → Addr → Addr → Sp} {spW : List (Option V) → Addr → Sp} {e1 e2 : Expr} {params : Arguments} {body : Expr} {scope : Scope} {p lpos pos : Pos} {ta tb : TE}
    (gl : Gl X x) (at_x : X.mg x = some (.ref g)) (keep : PySem.W.keepIn X.K (.ref g) = true) (bi : Binds X.K fd ps []) (room : Room k X.A) (a1 : PE X e1 ta) (a2 : PE X e2 tb) (TB : TabB X.base X.mg c P) (code : X.env.code = .ref c) (inT : (P, X.env.qual ++ "<lambda>") ∈ T) (oneT : ∀ p ∈ T, p.1 = P → p.2 = X.env.qual ++ "<lambda>")
    (nodef : defaultsOf params X.env = ([], [])) (free : ∀ y ∈ scope.names, y.2 = .free → X.env.scope.names.lookup y.1 = some .cell ∨ X.env.scope.names.lookup y.1 = some .free) (inS : ∀ y ∈ fr, (y, NameKind.free) ∈ scope.names) (slots : js.map (fun j => X.N[j]?) = fr.map some) (own : ∀ y, X.fn y = true)
    (gets : ∀ (B : Heap) (ws : List (Option V)) (f c' : Addr), Hld X.prog X.w X.K X.mg B kW f (spW ws c') → FnOk X.prog X.w X.K X.mg B L2.CX0 k g fd ps (spG ws f c'))
    (lam : ∀ (B : Heap) (ws : List (Option V)) (f c' : Addr) (cl : List (Str × Addr)) (pm ctv : Value), B.get? f = some (PySem.W.kla_obj "<lambda>" (X.env.qual ++ "<lambda>") params body scope cl pm c' ctv) → CellsAt cl fr ws B (fun _ => none) → Hld X.prog X.w X.K X.mg B kW f (spW ws c'))
    (d1 : (x == ("__debug__" : Str)) = false := by decide) (p1 : starEach [e1, e2, .Lambda params body scope lpos] X.env = (false, eval e1 X.env) :: starEach [e2, .Lambda params body scope lpos] X.env := by rfl)
    (p2 : starEach [e2, .Lambda params body scope lpos] X.env = (false, eval e2 X.env) :: starEach [.Lambda params body scope lpos] X.env := by rfl) (p3 : (backTo pos (starEach [e2, .Lambda params body scope lpos] X.env)).any (·.1) = false := by rfl) :
    PE X (.Call (.Name x p) [e1, e2, .Lambda params body scope lpos] [] pos) (tLam3 T (X.env.qual ++ "<lambda>") js spG ta tb) where
  run := fun pn st σ H Q inv rd => by
    have has : ∀ y ∈ scope.names, y.2 = .free → ∃ a, X.env.cells.lookup y.1 = some a := fun y hy e => inv.ok.has _ (free y hy e)
    refine wpAny_Call_Name_kw (ld_glob inv gl at_x (PySem.W.callWith_K (h₀ := X.base) inv.ok.mod.kin keep ?_ p1 p3) d1)
    rw [p1]
    refine Calls.spliced_cons (thn (a1.run pn st σ H _ inv rd) fun u1 st1 ⟨x1, H1, inv1, rel1, rd1⟩ => ?_)
    show wpAny _ _ (spliced (backTo pos (starEach [e2, .Lambda params body scope lpos] X.env))) _ _ _
    rw [p2]
    refine Calls.spliced_cons (thn (a2.run pn st1 σ H1 _ inv1 rd1) fun u2 st2 ⟨x2, H2, inv2, rel2, tabs, rd2⟩ => ?_)
    refine Calls.spliced_cons (lam_make2 inv2 TB code inT oneT tabs nodef has fun f c' pm ctv G st3 inv3 ext _ at_f nof nofr at_c => ?_)
    refine Calls.spliced_nil ⟨inv3.kIn, ?_⟩
    have caps : Caps X (cloFrom X.env.cells scope.names []) fr js := Caps.made inv3.ok free inS slots
    have held := cells_of inv3 caps
    have nocell : ∀ y a, X.env.cells.lookup y = some a → a ∉ frs X.stack := fun y a e m => by
      rcases List.mem_cons.mp (inv3.stkSub _ m) with z | z
      · exact inv3.cne y a e z
      · obtain ⟨_, o, at_a, _⟩ := inv3.ok.funs.mem z
        exact Nat.lt_irrefl _ (Nat.lt_of_lt_of_le (Heap.lt_size at_a) (inv3.ok.cab y a (own y) e))
    have still : ∀ {y : Str} {a : Addr} {v : Option Value}, (cloFrom X.env.cells scope.names []).lookup y = some a → st3.heap.IsCell a v → (wider st3.heap G X.stack).IsCell a v := fun {y a v} e ⟨o, at_a, hv⟩ =>
      ⟨o, wider_has at_a (held.all y a e).1 (nocell y a (caps.sub y a e)), hv⟩
    have cells : CellsAt (cloFrom X.env.cells scope.names []) fr (js.map (slotAt σ)) (wider st3.heap G X.stack) fun _ => none :=
      { len := held.len, inj := held.inj
        all := fun y a e => ⟨rfl, (held.all y a e).2.elim fun v z => ⟨v, still e z⟩⟩
        has := fun i y e => (held.has i y e).elim fun a ⟨look, val⟩ => ⟨a, look, fun v hv => (val v hv).elim fun u ⟨rel, z⟩ => ⟨u, rel, still look z⟩⟩ }
    have ok := gets _ _ f c' (lam _ _ f c' _ pm ctv (wider_has at_f nof nofr) cells)
    have want := rd2 f c' G ext at_c
    exact back inv3 (ok.run X.A X.stack st3 G ⟨[u1, u2, .ref f], []⟩ [u1, u2, .ref f] [x1, x2, .ref f] Q L2.E0 room (widen inv3.env0) (bi st3 [u1, u2, .ref f] inv3.kIn (ok.len _ _ _ _ want)) (.cons rel1 (.cons rel2 (.cons rfl .nil))) want)
end
end NB
namespace NB
open PySem PySem.Spec PySem.W PyProof.Rows L2 LamX
/-! ### the end where the def makes a lambda: its table of code objects is tracked; whole numbers are handed in -/
abbrev tab0 : Obj := { cls := .none, data := .fields #[] }
/-- what the top has left, c and T: the def's code object and its table -/
structure Left (K : PySem.W.Frag) (mg : Str → Option Value) (h : Heap) (c T : Addr) : Prop where
  kin : K.In h
  out : K.lookup T = none
  glob : h.Ns mainGlobals mg
  blt : ∃ mb, h.Ns builtinsNs mb ∧ ∀ x : Str, x ≠ "__name__" → mb x = bootBuiltins x
  lim : h.NoLimit
  tab : h.get? T = some tab0
  code : PySem.W.CodeHd h c T
  bmod : ∃ bm o, mg "__builtins__" = some (.ref bm) ∧ bm ≠ builtinsNs ∧ h.get? bm = some o ∧ o.cls = .type "module" ∧ o.dict = some builtinsNs ∧ o.data = .plain
/-- the heap without the table -/
def noT (h : Heap) (T : Addr) : Heap := PySem.W.hideAll h [T]
/-- the table alone is tracked -/
def onlyT (T : Addr) : Hp := upd (fun _ => none) T (.tbl #[])
theorem onlyT_ne {T a : Addr} (ne : a ≠ T) : onlyT T a = none := upd_ne ne
section
variable {K : PySem.W.Frag} {mg : Str → Option Value} {h : Heap} {c T : Addr}
theorem noT_has {a : Addr} {o : Obj} (ne : a ≠ T) (e : h.get? a = some o) : (noT h T).get? a = some o := PySem.W.hideAll_get [T] e fun m => ne (List.mem_singleton.mp m)
theorem of_noT {a : Addr} {o : Obj} (e : (noT h T).get? a = some o) : h.get? a = some o ∧ onlyT T a = none := by
  refine ⟨PySem.W.of_hideAll [T] e, onlyT_ne fun z => ?_⟩
  subst z
  have q := e.symm.trans (PySem.W.hideAll_none (h := h) [a] List.mem_cons_self)
  cases q
/-- whatever is no table's object is another -/
theorem Left.other (L : Left K mg h c T) {a : Addr} {o : Obj} (e : h.get? a = some o) (d : o.data ≠ .fields #[]) : a ≠ T := fun z => by
  subst z
  exact d (congrArg Obj.data (Option.some.inj (e.symm.trans L.tab)))
theorem Left.ns (L : Left K mg h c T) {a : Addr} {m : Str → Option Value} (n : h.Ns a m) : (noT h T).Ns a m := by
  obtain ⟨o, es, ep, at_a, d, more⟩ := n
  exact ⟨o, es, ep, noT_has (L.other at_a fun z => by rw [d] at z; cases z) at_a, d, more⟩
theorem Left.mod (L : Left K mg h c T) : L2.Mod K mg (noT h T) where
  kin := fun a o e => noT_has (fun z => by rw [z, L.out] at e; cases e) (L.kin a o e)
  glob := L.ns L.glob
  blt := L.blt.elim fun mb z => ⟨mb, L.ns z.1, z.2⟩
  nolimit := L.lim.elim fun m z => ⟨m, L.ns z.1, z.2⟩
theorem Left.tb (L : Left K mg h c T) : TabB (noT h T) mg c T where
  code := by
    obtain ⟨o, vs, file, tf, flags, tg, inF, text, tt, at_c, more⟩ := L.code
    exact ⟨o, vs, file, tf, flags, tg, inF, text, tt, noT_has more.2.2.2.2.2.2.2.2 at_c, more⟩
  bm := by
    obtain ⟨bm, o, e1, e2, e3, e4, e5, e6⟩ := L.bmod
    have nt : bm ≠ T := L.other e3 fun z => by rw [e6] at z; cases z
    refine ⟨bm, o, e1, e2, fun z => ?_, nt, noT_has nt e3, e4, e5, e6⟩
    obtain ⟨o2, es, ep, at2, d2, _⟩ := L.glob
    rw [← z, e3] at at2
    cases at2
    rw [e6] at d2
    cases d2
  gP := by
    obtain ⟨o, es, ep, at_g, d, _⟩ := L.glob
    exact L.other at_g fun z => by rw [d] at z; cases z
theorem Left.env {P : Program} {w : World} {st : Shared} (L : Left K mg st.heap c T) (g0 : st.gens = #[]) : Env0 P w K mg (noT st.heap T) callerA [] st (onlyT T) where
  frames := rfl
  mod := L.mod
  bs := fun a o e => of_noT e
  bsz := Nat.le_of_eq (PySem.W.hideAll_size _ _)
  funs := trivial
  frf := fun a m => by cases m
  hok := fun a u e => by
    by_cases z : a = T
    · subst z
      have q : some (HO.tbl #[]) = some u := (upd_same (H := fun _ => none)).symm.trans e
      cases q
      exact L.tab
    · rw [onlyT_ne z] at e
      cases e
  bare := .of_eq g0
end
/-- whole numbers that are handed in -/
theorem whole_args {Pm : Params} {h : Heap} : ∀ (ds : List WData) (us : List Value), WellAll Pm h us ds → (∀ d ∈ ds, ∃ i, d = .int i) → ∃ xs, Vals xs us ∧ ∀ (K : PySem.W.Frag) (H : Hp), DwAll K H xs ds
  | [], _, x, _ => by
    cases x
    exact ⟨[], .nil, fun _ _ => .nil⟩
  | d :: ds, _, x, allI => by
    obtain ⟨v, vs, rfl, is_d, rest⟩ := well_cons x
    obtain ⟨xs, r, dw⟩ := whole_args ds vs rest fun d m => allI d (List.mem_cons_of_mem _ m)
    obtain ⟨i, rfl⟩ := allI d List.mem_cons_self
    cases is_d
    exact ⟨.int i :: xs, .cons ⟨_, rfl⟩ r, fun K H => .cons (.int i) (dw K H)⟩
theorem end_lam {P : Program} {w : World} {K : PySem.W.Frag} {mg : Str → Option Value} {k : Nat} {fa c T : Addr} {fd : FuncData} {ps : List Str} {sp : Sp} {st : Shared} {us : List Value} {ds : List WData} {R : PySem.W.WRecords} {cl : Str → Option Addr} {due : WData} (L : Left K mg st.heap c T) (g0 : st.gens = #[])
    (wl : WellAll w.params st.heap us ds) (allI : ∀ d ∈ ds, ∃ i, d = .int i) (room : Room k callerA) (ok : FnOk P w K mg (noT st.heap T) L2.CX0 k fa fd ps sp) (bi : us.length = ps.length → BindsTo st fd ⟨us, []⟩ (ps.zip us)) (n : ds.length = ps.length)
    (rd : ∀ xs, DwAll K (onlyT T) xs ds → sp xs (onlyT T) (fun v G => Dw K G v due) L2.E0) :
    codeAny (model P w) callerA (.call (.ref fa) ⟨us, []⟩) (fun r st' => ∃ u as, r = .ok (.ret u) ∧ ReadsW R cl st'.heap u due as ∧ OldK st.heap st'.heap ∧ st'.os = st.os ∧ AllBare st'.gens) st := by
  obtain ⟨xs, rel, dw⟩ := whole_args ds us wl allI
  have len : us.length = ps.length := (wellAll_len wl).trans n
  refine codeAny_mono (ok.run callerA [] st (onlyT T) ⟨us, []⟩ us xs _ L2.E0 room (L.env g0) (bi len) rel (rd xs (dw K _))) fun r st' z => ?_
  obtain ⟨u, rfl, v, G, os, bare, un, good, rv, is_due⟩ := gave z
  have same : ∀ a o, a ≠ T → st.heap.get? a = some o → st'.heap.get? a = some o := fun a o ne e => un.keep a o e (onlyT_ne ne) (fun m => by cases m) (fun m => by cases m)
  obtain ⟨more, grew⟩ := un.tbls T #[] upd_same
  have now : st'.heap.get? T = some { cls := .none, data := .fields (#[] ++ more) } := good T _ grew
  obtain ⟨as, reads⟩ := Dw.reads (R := R) (cl := cl) good (K := K) (fun a o e => same a o (fun y => by rw [y, L.out] at e; cases e) (L.kin a o e)) due v u is_due rv
  refine ⟨u, as, rfl, reads, { old := fun a o e => ?_, there := fun a o e => ?_ }, os, bare⟩
  · by_cases y : a = T
    · subst y
      obtain rfl : tab0 = o := Option.some.inj (L.tab.symm.trans e)
      exact .inr (.inl ⟨(L.code.tab L.tab).isCodeTable, rfl, #[], more, rfl, now⟩)
    · exact .inl (same a o y e)
  · by_cases y : a = T
    · subst y
      exact ⟨_, now⟩
    · exact ⟨o, same a o y e⟩
/-- no empty table stands in the written part -/
def noTab (K : PySem.W.Frag) : Bool := K.all fun p => match p.2.data with
  | .fields vs => !vs.isEmpty
  | _ => true
theorem frag_mem : ∀ {K : PySem.W.Frag} {a : Addr} {o : Obj}, K.lookup a = some o → (a, o) ∈ K
  | [], _, _, e => by cases e
  | (b, u) :: r, a, o, e => by
    rw [List.lookup_cons] at e
    by_cases z : a = b
    · subst z
      rw [beq_self_eq_true] at e
      cases e
      exact List.mem_cons_self
    · rw [beq_eq_false_iff_ne.mpr z] at e
      exact List.mem_cons_of_mem _ (frag_mem e)
theorem noTab_out {K : PySem.W.Frag} {h : Heap} {T : Addr} (kin : K.In h) (no : noTab K = true) (tab : h.get? T = some tab0) : K.lookup T = none :=
  Option.eq_none_iff_forall_ne_some.mpr fun o e => by
    obtain rfl : tab0 = o := Option.some.inj (tab.symm.trans (kin _ _ e))
    have z : (!(#[] : Array Value).isEmpty) = true := List.all_eq_true.mp no _ (frag_mem e)
    cases z
def allInt : List Codec → Bool
  | [] => true
  | .int _ _ :: r => allInt r
  | _ => false
theorem ints_only : ∀ (cs : List Codec) (a : Codec.denoteAll cs), allInt cs = true → ∀ d ∈ Codec.encAll cs a, ∃ i, d = WData.int i
  | [], _, _, d, m => absurd m List.not_mem_nil
  | .int _ _ :: r, a, z, d, m => (List.mem_cons.mp (show d ∈ WData.int a.1 :: Codec.encAll r a.2 from m)).elim (fun e => ⟨_, e⟩) fun e => ints_only r a.2 z d e
/-- what k_headS leaves, for a def with a table -/
theorem walk_specT {r : PySem.W.OpenSpec} {k : Nat} {view : Program} {loose : List Str} {XP : (Str → Option Value) → Heap → Prop} {YP : World → Heap → Prop} {d : DefRec} {K : Params → PySem.W.Frag} {ps : List Str} {sp : Addr → Sp}
    (said : r.wellSaid = true) (num : r.args.length = ps.length) (room : Room k callerA) (isDef : ((recsOf view).any fun e => e.name == d.name) = true) (kin : ∀ (w : World) (h : Heap), YP w h → (K w.params).In h) (no : ∀ Pm, noTab (K Pm) = true) (allI : allInt r.args = true)
    (F : ∀ (w : World) (mg : Str → Option Value) (fa c T : Addr) (h : Heap), YP w h → (K w.params).In h → h.Ns mainGlobals mg → mg d.name = some (.ref fa) → (∀ (o : Obj) (fd : FuncData), (K w.params).lookup fa = some o → o.data = .func fd → fd.code = .ref c) →
      ∃ fd : FuncData, (∀ (st : Shared) (us : List Value), us.length = ps.length → BindsTo st fd ⟨us, []⟩ (ps.zip us)) ∧ ∀ base : Heap, (K w.params).In base → base.Ns mainGlobals mg → TabB base mg c T → FnOk r.prog w (K w.params) mg base L2.CX0 k fa fd ps (sp T))
    (S : ∀ (K : PySem.W.Frag) (H : Hp) (T : Addr) (xs : List V) (a : Codec.denoteAll r.args), H T = some (.tbl #[]) → Codec.withinAll r.args a = true → Codec.app r.args r.asked a = true → DwAll K H xs (Codec.encAll r.args a) →
      sp T xs H (fun v G => Dw K G v (r.ret.enc (Codec.app r.args r.f a))) L2.E0) :
    PySem.W.WalkOS view loose XP YP r d [] (fun f us => PySem.call f us) := by
  intro w st0 st mg mb gr yp fa _ _ _ _ _ _ _ _ _ _ at_d g0 args us _ pre lay _ wl _
  obtain ⟨a, dec, asked⟩ := PySem.W.os_pre_some pre
  obtain ⟨rfl, within⟩ := Codec.encAll_of_decAll r.args args a dec
  have KX := kin w _ yp
  obtain ⟨e, mem, eqn⟩ := List.any_eq_true.mp isDef
  obtain ⟨fb, o, fd0, c, T, n1, n2, n3, n4, n5, n6⟩ := gr.T.tab e mem
  have eqf : some (Value.ref fa) = some (.ref fb) := by rw [← at_d, ← n1, beq_iff_eq.mp eqn]
  cases eqf
  have L : Left (K w.params) mg st.heap c T := ⟨KX, noTab_out KX (no _) n6.2, gr.T.g, ⟨mb, gr.T.b, gr.T.builtins⟩, gr.T.nolimit, n6.2, PySem.W.CodeHd.of n5 n6, gr.T.bmain⟩
  obtain ⟨fd, bi, ok⟩ := F w mg _ c T _ yp KX gr.T.g at_d fun o1 fd1 e1 e2 => by
    obtain rfl : o1 = o := Option.some.inj ((KX _ _ e1).symm.trans n2)
    rw [n3] at e2
    cases e2
    exact n4
  have len : (Codec.encAll r.args a).length = ps.length := (encAll_len _ _).trans num
  refine PySem.W.enter_call (codeAny_mono (end_lam (R := []) (cl := classAt st0.heap) L g0 wl (ints_only _ a allI) room (ok _ L.mod.kin L.mod.glob L.tb) (bi st us) len fun xs dw => S _ _ T xs a upd_same within asked dw) fun res st' z => ?_)
  obtain ⟨u, as, rfl, reads, old, os, bare⟩ := z
  exact ⟨.inl ⟨u, _, as, rfl, fun _ => rfl, reads, (PySem.W.OpenSpec.post_iff said within _ _).mpr rfl, fun y => by cases y⟩, old, os, bare⟩
end NB
namespace NB
open PySem PySem.Spec PyProof.Rows L2
open PySem.W (Codec)
abbrev sKind : Stmt := top 5
theorem scKind : FnScope ["kind"] ["kind"] (defScope sKind) := ⟨rfl, rfl, rfl, by decide +kernel, rfl, by decide +kernel, by decide +kernel⟩
def inK (k : Int) : Bool := decide (0 ≤ k) && decide (k < 3)
def spKind (K : PySem.W.Frag) : Sp := fun vs H Q _ => ∃ (k : Int), vs = [.int k] ∧ Q (.bl (inK k)) H
section
variable {P : Program} {w : World} {K : PySem.W.Frag} {mg : Str → Option Value} {base : Heap} {M : Addr}
theorem ok_kind {f : Addr} {fd : FuncData} (F : Fun K "is_kind" "is_kind" sKind f fd) (T : Txt K mg M) : FnOk P w K mg base CX0 1 f fd ["kind"] (spKind K) := by
  refine F.ok scKind (fun vs H Q E h => ?_) (fun cdv A outer s H vs Q E hr h => ?_)
  · obtain ⟨k, rfl, _⟩ := h
    rfl
  · refine ⟨_, pss_one (ps_ret (pe_chain op_le op_lt pe_int (pv 0) (pe_callB call_len_seq (by rfl) T.len PySem.boot_len (pa_cons (pe_glob (v := V.ref M) rfl T.gM rfl) pa_nil)))), ?_⟩
    obtain ⟨k, rfl, hQ⟩ := h
    have fin : ∀ b, b = inK k → Q (.bl b) H := fun b e => by
      rw [e]
      exact hQ
    obtain ⟨rows, hM, hl, _⟩ := T.mov
    have hl3 : (((rows.map V.ref).length : Nat) : Int) = 3 := by
      rw [List.length_map, hl]
      rfl
    refine ⟨_, rfl, _, _, rfl, rfl, _, rfl, ?_⟩
    by_cases c0 : (0 : Int) ≤ k
    · refine if_t (decide_eq_true c0) ?_
      refine ⟨M, _, rfl, .inr (hM.sq H), _, _, rfl, rfl, ?_⟩
      refine fin _ ?_
      unfold inK
      rw [hl3, decide_eq_true c0, Bool.true_and]
    · refine if_f (decide_eq_false c0) ?_
      refine fin _ ?_
      unfold inK
      rw [decide_eq_false c0, Bool.false_and]
end
end NB
namespace NB
open PySem PySem.Spec PyProof.Rows L2
open PySem.W (Codec)
abbrev sAft : Stmt := top 6
theorem scAft : FnScope ["kind", "place", "step", "x", "y", "move"] ["kind", "place", "step"] (defScope sAft) := ⟨rfl, rfl, rfl, by decide +kernel, rfl, by decide +kernel, by decide +kernel⟩
def spAft (K : PySem.W.Frag) : Sp := fun vs H Q _ => ∃ (p : Addr) (k s x y : Int), vs = [.int k, .ref p, .int s] ∧ SqT K H p [.int x, .int y] ∧ (0 ≤ k ∧ k < 3) ∧ (0 ≤ s ∧ s < (Sh19.ways k.toNat : Nat)) ∧
  ∀ q, H q = none → Q (.ref q) (upd H q (.tup [.int (Sh19.go k.toNat (x, y) s.toNat).1, .int (Sh19.go k.toNat (x, y) s.toNat).2]))
section
variable {P : Program} {w : World} {K : PySem.W.Frag} {mg : Str → Option Value} {base : Heap} {M : Addr}
theorem ok_aft {f : Addr} {fd : FuncData} (F : Fun K "place_after" "place_after" sAft f fd) (T : Txt K mg M) : FnOk P w K mg base CX0 1 f fd ["kind", "place", "step"] (spAft K) := by
  refine F.ok scAft (fun vs H Q E h => ?_) (fun cdv A outer s H vs Q E hr h => ?_)
  · obtain ⟨p, k, t, x, y, rfl, _⟩ := h
    rfl
  · refine ⟨_, pss_cons (ps_set (i := 3) scAft.nd rfl (Or.inl rfl) (pe_ix ix_tup (pv 1) pe_int (fun _ _ => rfl)))
      (pss_cons (ps_set (i := 4) scAft.nd rfl (Or.inl rfl) (pe_ix ix_tup (pv 1) pe_int (fun _ _ => rfl)))
      (pss_cons (ps_set (i := 5) scAft.nd rfl (Or.inl rfl) (pe_ix ix_tup (pe_ix ix_tup (pe_glob (v := V.ref M) rfl T.gM rfl) (pv 0) (fun _ _ => rfl)) (pv 2) (fun _ _ => rfl)))
      (pss_cons (ps_if (PW.pt (pw_and (pt_cmpR op_eq (pv 0) (pe_gi rfl T.gH) (nomark _)) (pw_and1 (pt_cmpR op_eq (pe_op op_mod (pe_op op_add (pv 3) (pv 4)) pe_int) pe_int (nomark _)))))
          (pss_one (ps_ret (pe_tup (pa_cons (pe_op op_add (pv 3) (pe_ix ix_tup (pv 5) pe_int (fun _ _ => rfl))) (pa_cons (pe_op op_sub (pv 4) (pe_ix ix_tup (pv 5) pe_int (fun _ _ => rfl))) pa_nil))))) pss_nil)
      (pss_one (ps_ret (pe_tup (pa_cons (pe_op op_add (pv 3) (pe_ix ix_tup (pv 5) pe_int (fun _ _ => rfl))) (pa_cons (pe_op op_add (pv 4) (pe_ix ix_tup (pv 5) pe_int (fun _ _ => rfl))) pa_nil)))))))), ?_⟩
    obtain ⟨p, k, t, x, y, rfl, hP, ⟨k0, k3⟩, ⟨t0, t3⟩, hQ⟩ := h
    obtain ⟨rows, hM, hl, hrow⟩ := T.mov
    obtain ⟨r, cs, hr', hR, hcl, hcs⟩ := hrow k.toNat (by omega)
    obtain ⟨c, hc, hC⟩ := hcs t.toNat (by omega)
    have hatr : atI (rows.map V.ref) k = some (.ref r) := at_of k0 (get_ref hr')
    have hatc : atI (cs.map V.ref) t = some (.ref c) := at_of t0 (get_ref hc)
    have e := stepTo_go (k := k.toNat) (s := t.toNat) (by omega) (by omega) (x, y)
    rw [← e] at hQ
    refine ⟨_, rfl, p, _, 0, _, rfl, rfl, hP, at0 _ _, ?_⟩
    refine ⟨_, rfl, p, _, 1, _, rfl, rfl, hP, at1 _ _, ?_⟩
    refine ⟨_, rfl, M, _, k, _, rfl, rfl, hM.sq _, hatr, _, rfl, r, _, t, _, rfl, rfl, hR.sq _, hatc, ?_⟩
    refine ⟨_, rfl, rfl, _, rfl, ?_⟩
    by_cases c2 : k = 2
    · refine if_t (decide_eq_true (by rw [c2])) ?_
      refine ⟨_, rfl, _, rfl, _, _, rfl, rfl, _, _, rfl, rfl, (by show (0 : Int) < 2; decide), rfl, _, rfl, ?_⟩
      by_cases c3 : (x + y) % 2 = 1
      · refine if_t (decide_eq_true (congrArg V.int c3)) ?_
        refine ⟨_, rfl, _, rfl, c, _, 0, _, rfl, rfl, hC.sq _, at0 _ _, _, _, rfl, rfl, _, rfl, _, rfl, c, _, 1, _, rfl, rfl, hC.sq _, at1 _ _, _, _, rfl, rfl, (by show 2 ≤ sizeLine; decide), fun q hq => ?_⟩
        have z := hQ q hq
        rw [stepTo_pos rfl ⟨by omega, c3⟩] at z
        exact z
      · refine if_f (decide_eq_false (fun z => c3 (V.int.inj z))) ?_
        refine ⟨_, rfl, _, rfl, c, _, 0, _, rfl, rfl, hC.sq _, at0 _ _, _, _, rfl, rfl, _, rfl, _, rfl, c, _, 1, _, rfl, rfl, hC.sq _, at1 _ _, _, _, rfl, rfl, (by show 2 ≤ sizeLine; decide), fun q hq => ?_⟩
        have z := hQ q hq
        rw [stepTo_neg rfl (fun z => c3 z.2)] at z
        exact z
    · refine if_f (decide_eq_false (fun z => c2 (V.int.inj z))) ?_
      refine iteF ?_
      refine ⟨_, rfl, _, rfl, c, _, 0, _, rfl, rfl, hC.sq _, at0 _ _, _, _, rfl, rfl, _, rfl, _, rfl, c, _, 1, _, rfl, rfl, hC.sq _, at1 _ _, _, _, rfl, rfl, (by show 2 ≤ sizeLine; decide), fun q hq => ?_⟩
      have z := hQ q hq
      rw [stepTo_neg rfl (fun z => c2 (by omega))] at z
      exact z
end
end NB
namespace NB
open PySem PySem.Spec PyProof.Rows L2
open PySem.W (Codec)
abbrev sOpn : Stmt := top 7
theorem scOpn : FnScope ["kind", "places", "least", "last", "step"] ["kind", "places", "least"] (defScope sOpn) := ⟨rfl, rfl, rfl, by decide +kernel, rfl, by decide +kernel, by decide +kernel⟩
def nInts (l : List Nat) : List V := l.map fun s : Nat => V.int (s : Int)
def spOpn (K : PySem.W.Frag) : Sp := fun vs H Q _ => ∃ (p : Addr) (k : Int) (n : Nat) (l : List Sh19.Place) (q : Sh19.Place), vs = [.int k, .ref p, .int n] ∧ Lies H p (l ++ [q]) ∧ (0 ≤ k ∧ k < 3) ∧ n ≤ Sh19.ways k.toNat ∧
  ∀ H' D, Same H H' → H D = none → H' D = some (.lst (nInts (opn k.toNat n (l ++ [q]) q))) → Q (.ref D) H'
theorem ways_le (k : Nat) : Sh19.ways k ≤ 6 := by
  unfold Sh19.ways
  split
  · omega
  · split <;> omega
section
variable {P : Program} {w : World} {K : PySem.W.Frag} {mg : Str → Option Value} {base : Heap} {M : Addr}
theorem ok_opn {f : Addr} {fd : FuncData} (F : Fun K "open_steps" "open_steps" sOpn f fd) (T : Txt K mg M) (mr : mg "range" = none)
    (CA : Cal P w K mg base 1 "place_after" ["kind", "place", "step"] (spAft K)) : FnOk P w K mg base CX0 2 f fd ["kind", "places", "least"] (spOpn K) := by
  refine F.ok scOpn (fun vs H Q E h => ?_) (fun cdv A outer s H vs Q E hr h => ?_)
  · obtain ⟨p, k, n, l, q, rfl, _⟩ := h
    rfl
  · refine ⟨_, pss_cons (ps_set (i := 3) scOpn.nd rfl (Or.inr rfl) (pe_ix ix_list (pv 1) (pe_un un_neg pe_int) (fun _ _ => rfl)))
      (pss_one (ps_ret (pe_lc (own := [("step", 4)]) (g := gName 4) rfl scOpn.nd
        (pi_range2 rfl mr (pa_cons (pv 2) (pa_cons (pe_callB call_len_seq (by rfl) T.len PySem.boot_len (pa_cons (pe_ix ix_tup (pe_glob (v := V.ref M) rfl T.gM rfl) (pv 0) (fun _ _ => rfl)) pa_nil)) pa_nil)))
        (blkOk_by (own := [("step", 4)]) (N := ["kind", "places", "least", "last", "step"]) (sc := defScope sOpn) (by decide +kernel))
        (fun _ _ _ _ _ => pg_name (i := 4) scOpn.nd rfl (Or.inl rfl))
        (fun _ _ _ _ _ => pts_one (pt_cmpR (r := rNotInD K) (op_notInD (hu65 hr)) (pe_cal CA hr (pa_cons (pv 0) (pa_cons (pv 3) (pa_cons (pv 4) pa_nil)))) (pv 1) rfl))
        (fun _ _ _ _ _ => pv 4)))), ?_⟩
    obtain ⟨p, k, n, l, q, rfl, hL, ⟨k0, k3⟩, hn, hQ⟩ := h
    obtain ⟨cs, c, hcs, hat, hc⟩ := hL.last
    obtain ⟨rows, hM, hl, hrow⟩ := T.mov
    obtain ⟨r, ms, hr', hR, hcl, _⟩ := hrow k.toNat (by omega)
    have hatr : atI (rows.map V.ref) k = some (.ref r) := L2.at_of (by omega) (get_ref hr')
    have hw := ways_le k.toNat
    refine ⟨_, rfl, 1, rfl, p, _, -1, _, rfl, rfl, SqL.of hcs, hat, ?_⟩
    have hl2 : (((ms.map V.ref).length : Nat) : Int) = (Sh19.ways k.toNat : Nat) := by
      rw [List.length_map, hcl]
    refine ⟨_, rfl, _, rfl, M, _, k, _, rfl, rfl, hM.sq _, hatr, r, _, rfl, .inr (hR.sq _), n, _, rfl, ⟨by omega, by omega, by omega, by omega⟩, fun D hD => ?_⟩
    rw [hl2]
    have en : ((Sh19.ways k.toNat : Nat) : Int) - (n : Nat) = ((Sh19.ways k.toNat - n : Nat) : Int) := by omega
    refine lc_range (lo := (n : Int)) (n := (((Sh19.ways k.toNat : Nat) : Int) - (n : Nat)).toNat) (fun i H' => Same H H' ∧ H' D = some (.lst (nInts ((List.range' n i).filter fun s => !(l ++ [q]).contains (Sh19.go k.toNat q s))))) ⟨same_new hD, upd_same⟩ ?_ ?_
    · rintro i H' hi ⟨s5, hd⟩
      refine ⟨rfl, ?_⟩
      refine ⟨_, rfl, _, rfl, _, rfl, c, k, _, _, _, rfl, SqT.of (s5 _ _ hc), ⟨k0, k3⟩, ⟨by omega, by omega⟩, fun t ht => ?_⟩
      have nt : D ≠ t := ne_of_none hd ht
      have ez : ((n : Int) + (i : Nat)).toNat = n + i := by omega
      rw [ez]
      refine ⟨_, rfl, pD (Sh19.go k.toNat q (n + i)), (l ++ [q]).map pD, .tup (SqT.of upd_same) (.cons (.int _) (.cons (.int _) .nil)), (hL.same (s5.trans (same_new ht))).dp, pD_shaped _, pDs_shaped _, _, rfl, ?_⟩
      rw [any_eqv]
      have e5 := range_filter_snoc (fun s => !(l ++ [q]).contains (Sh19.go k.toNat q s)) n i
      cases d : (l ++ [q]).contains (Sh19.go k.toNat q (n + i)) with
      | true =>
        refine iteF ⟨s5.trans (same_new ht), ?_⟩
        rw [e5, d, upd_ne nt]
        rw [Bool.not_true, if_neg Bool.false_ne_true, List.append_nil]
        exact hd
      | false =>
        refine iteT ⟨_, rfl, _, by rw [upd_ne nt]; exact hd, ?_, ?_, ?_⟩
        · refine Nat.lt_of_le_of_lt (m := 6) ?_ (by decide)
          unfold nInts
          rw [List.length_map]
          refine Nat.le_trans (List.length_filter_le ..) ?_
          rw [List.length_range']
          omega
        · exact same_at (s5.trans (same_new ht)) hD
        · rw [e5, d, upd_same]
          rw [Bool.not_false, if_pos rfl]
          unfold nInts
          rw [List.map_append]
          have e6 : ((n : Int) + (i : Nat)) = ((n + i : Nat) : Int) := by omega
          rw [e6]
          rfl
    · rintro H' ⟨s5, hd⟩
      refine hQ H' D s5 hD ?_
      rw [hd]
      unfold opn
      rw [en]
      rfl
end
end NB
namespace NB
open PySem PySem.Spec PyProof.Rows L2
open PySem.W (Codec)
abbrev sMay : Stmt := top 8
theorem scMay : FnScope ["kind", "n", "least"] ["kind", "n", "least"] (defScope sMay) := ⟨rfl, rfl, rfl, by decide +kernel, rfl, by decide +kernel, by decide +kernel⟩
def may (k n lo : Int) : Bool := inK k && (decide (lo ≤ n) && decide (n ≤ 16))
theorem may_iff {k n lo : Int} : may k n lo = true ↔ 0 ≤ k ∧ k ≤ 2 ∧ lo ≤ n ∧ n ≤ 16 := by
  unfold may inK
  rw [Bool.and_eq_true, Bool.and_eq_true, Bool.and_eq_true, decide_eq_true_eq, decide_eq_true_eq, decide_eq_true_eq, decide_eq_true_eq]
  omega
def spMay (K : PySem.W.Frag) : Sp := fun vs H Q _ => ∃ (k n lo : Int), vs = [.int k, .int n, .int lo] ∧ Q (.bl (may k n lo)) H
section
variable {P : Program} {w : World} {K : PySem.W.Frag} {mg : Str → Option Value} {base : Heap} {M : Addr}
theorem ok_may {f : Addr} {fd : FuncData} (F : Fun K "may_be_counted" "may_be_counted" sMay f fd) (gC : ∃ t, mg "MOST_STEPS_COUNTED" = some (.int 16 t)) (CI : Cal P w K mg base 1 "is_kind" ["kind"] (spKind K)) : FnOk P w K mg base CX0 2 f fd ["kind", "n", "least"] (spMay K) := by
  refine F.ok scMay (fun vs H Q E h => ?_) (fun cdv A outer s H vs Q E hr h => ?_)
  · obtain ⟨k, n, lo, rfl, _⟩ := h
    rfl
  · refine ⟨_, pss_one (ps_ret (pe_and (pe_cal CI hr (pa_cons (pv 0) pa_nil)) (pe_one (pe_chain op_le op_le (pv 2) (pv 1) (pe_gi rfl gC))))), ?_⟩
    obtain ⟨k, n, lo, rfl, hQ⟩ := h
    have fin : ∀ b, b = may k n lo → Q (.bl b) H := fun b e => by
      rw [e]
      exact hQ
    refine ⟨_, rfl, k, rfl, _, rfl, ?_⟩
    cases ci : inK k with
    | false =>
      refine iteF (fin _ ?_)
      unfold may
      rw [ci, Bool.false_and]
    | true =>
      refine iteT ⟨_, rfl, _, rfl, _, _, rfl, rfl, _, rfl, ?_⟩
      by_cases c0 : lo ≤ n
      · refine if_t (decide_eq_true c0) ?_
        refine ⟨_, _, rfl, rfl, fin _ ?_⟩
        unfold may
        rw [ci, decide_eq_true c0, Bool.true_and, Bool.true_and]
      · refine if_f (decide_eq_false c0) (fin _ ?_)
        unfold may
        rw [ci, decide_eq_false c0, Bool.true_and, Bool.false_and]
end
end NB
namespace NB
open PySem PySem.Spec PyProof.Rows L2
open PySem.W (Codec)
abbrev sSumOn : Stmt := top 9
theorem scSumOn : FnScope ["kind", "places", "left", "worth", "total", "step", "place"] ["kind", "places", "left", "worth"] (defScope sSumOn) := ⟨rfl, rfl, rfl, by decide +kernel, rfl, by decide +kernel, by decide +kernel⟩
/-- what stays true while objects are only added -/
def Stays (Z : Hp → Prop) : Prop := ∀ H H', Same H H' → Z H → Z H'
/-- what a walk is worth: g of its steps; Z: what its reckoning needs of the heap besides -/
def spWo (Z : Hp → Prop) (k : Int) (g : List Nat → Int) : Sp := fun vs H Q _ => ∃ (p : Addr) (u : List Nat), vs = [.ref p] ∧ Z H ∧ Lies H p (Sh19.walk k.toNat u) ∧ u.length ≤ 100 ∧ (∀ s ∈ u, s < Sh19.ways k.toNat) ∧ ∀ H', Same H H' → Q (.int (g u)) H'
def spSumOn (Z : Hp → Prop) (fW : Addr) (k : Int) (g : List Nat → Int) (L : Nat) : Sp := fun vs H Q _ => ∃ (p : Addr) (n : Nat) (u : List Nat), vs = [.int k, .ref p, .int n, .ref fW] ∧ Z H ∧ Lies H p (Sh19.walk k.toNat u) ∧ (0 ≤ k ∧ k < 3) ∧ n < L ∧ u.length + n ≤ 100 ∧ (∀ s ∈ u, s < Sh19.ways k.toNat) ∧
  ∀ H', Same H H' → Q (.int (leafS k.toNat g n u)) H'
theorem get_nInts {l : List Nat} {i : Nat} {y : V} (h : (nInts l)[i]? = some y) : ∃ z, l[i]? = some z ∧ y = .int (z : Nat) := by
  unfold nInts at h
  rw [List.getElem?_map] at h
  cases e : l[i]? with
  | none =>
    rw [e] at h
    cases h
  | some z =>
    rw [e] at h
    exact ⟨z, rfl, (Option.some.inj h).symm⟩
theorem sum_take_int : ∀ (l : List Nat) (g : Nat → Int) (i z : Nat), l[i]? = some z → ((l.take (i + 1)).map g).sum = ((l.take i).map g).sum + g z := by
  intro l g i z h
  rw [take_snoc h, List.map_append, List.sum_append]
  simp
section
variable {P : Program} {w : World} {K : PySem.W.Frag} {mg : Str → Option Value} {base : Heap} {M : Addr}
theorem ok_sumon {Z : Hp → Prop} {f fW : Addr} {k : Int} {g : List Nat → Int} {fd : FuncData} (zs : Stays Z) (F : Fun K "sum_on" "sum_on" sSumOn f fd) (b : Binds K fd ["kind", "places", "left", "worth"] []) (gl : mg "sum_on" = some (.ref f))
    (CA : Cal P w K mg base 1 "place_after" ["kind", "place", "step"] (spAft K)) (CO : Cal P w K mg base 2 "open_steps" ["kind", "places", "least"] (spOpn K)) (HW : Hld P w K mg base 3 fW (spWo Z k g)) : ∀ L, FnOk P w K mg base CX0 (L + 3) f fd ["kind", "places", "left", "worth"] (spSumOn Z fW k g L)
  | 0 => ⟨fun vs H Q E ⟨_, _, _, _, _, _, _, h, _⟩ => absurd h (by omega), fun _ _ _ _ _ _ _ _ _ _ _ _ _ ⟨_, _, _, _, _, _, _, h, _⟩ => absurd h (by omega)⟩
  | L + 1 => by
    have CW : Cal P w K mg base (L + 3) "sum_on" ["kind", "places", "left", "worth"] (spSumOn Z fW k g L) := ⟨f, fd, ok_sumon zs F b gl CA CO HW L, F.kp, b, gl⟩
    refine F.ok scSumOn (fun vs H Q E h => ?_) (fun cdv A outer s H vs Q E hr h => ?_)
    · obtain ⟨p, n, u, rfl, _⟩ := h
      rfl
    · refine ⟨_, pss_cons (ps_if (pt_cmpR op_eq (pv 2) pe_int (nomark _)) (pss_one (ps_ret (pe_hld (i := 3) HW (hr.mono (by omega)) rfl (Or.inl rfl) (pa_cons (pv 1) pa_nil)))) pss_nil)
        (pss_cons (ps_set (i := 4) scSumOn.nd rfl (Or.inl rfl) pe_int)
        (pss_cons (ps_for PassesOwn.never rfl (pi_list (pe_cal CO (hr.mono (by omega)) (pa_cons (pv 0) (pa_cons (pv 1) (pa_cons pe_int pa_nil))))) (pg_name (i := 5) scSumOn.nd rfl (Or.inl rfl))
          (pss_cons (ps_set (i := 6) scSumOn.nd rfl (Or.inl rfl) (pe_cal CA (hr.mono (by omega)) (pa_cons (pv 0) (pa_cons (pe_ix ix_list (pv 1) (pe_un un_neg pe_int) (fun _ _ => rfl)) (pa_cons (pv 5) pa_nil)))))
          (pss_one (ps_set (i := 4) scSumOn.nd rfl (Or.inl rfl) (pe_op op_add (pv 4) (pe_cal CW hr (pa_cons (pv 0) (pa_cons (pe_op op_cat (pv 1) (pe_lst (pa_cons (pv 6) pa_nil))) (pa_cons (pe_op op_sub (pv 2) pe_int) (pa_cons (pv 3) pa_nil))))))))))
        (pss_one (ps_ret (pv 4))))), ?_⟩
      obtain ⟨p, n, u, rfl, hZ, hL, ⟨k0, k3⟩, hn, hu, hs, hQ⟩ := h
      refine ⟨_, rfl, rfl, _, rfl, ?_⟩
      cases n with
      | zero => exact if_t (decide_eq_true rfl) ⟨rfl, _, rfl, p, u, rfl, hZ, hL, by omega, hs, fun H' s' => hQ H' s'⟩
      | succ n =>
        refine if_f (decide_eq_false fun z => ?_) ?_
        · have z' := V.int.inj z
          omega
        obtain ⟨l, hl⟩ := walk_last k.toNat u
        refine ⟨_, rfl, _, rfl, p, k, 0, l, _, rfl, by rw [← hl]; exact hL, ⟨k0, k3⟩, Nat.zero_le _, fun H1 D s1 nD hD => ?_⟩
        rw [← hl, opn_goOn] at hD
        refine ⟨D, rfl, ⟨_, SqL.of hD⟩, for_list (K := K) (a := D) (xs := nInts (goOn k.toNat u)) (fun i σ H' => ∃ v1 v2 : Option V, σ = [some (.int k), some (.ref p), some (.int ((n + 1 : Nat) : Int)), some (.ref fW), some (.int (((goOn k.toNat u).take i).map fun s => leafS k.toNat g n (u ++ [s])).sum), v1, v2] ∧ Same H1 H')
          ⟨none, none, rfl, Same.refl _⟩ (fun i σ H' _ ⟨_, _, _, s5⟩ => s5.seq (SqL.of hD)) ?_ ?_⟩
        · rintro i y σ H' hi ⟨v1, v2, rfl, s5⟩
          obtain ⟨z, hz, rfl⟩ := get_nInts hi
          have hzw : z < Sh19.ways k.toNat := by
            have q := List.mem_of_getElem? hz
            unfold goOn at q
            exact List.mem_range.mp (List.mem_filter.mp q).1
          have L5 : Lies H' p (Sh19.walk k.toNat u) := hL.same (s1.trans s5)
          obtain ⟨cs, c, hcs, hat, hc⟩ := (show Lies H' p (l ++ [Sh19.ending k.toNat u]) by rw [← hl]; exact L5).last
          refine ⟨_, rfl, _, rfl, 1, rfl, p, _, -1, _, rfl, rfl, SqL.of hcs, hat, _, rfl, c, k, z, _, _, rfl, SqT.of hc, ⟨k0, k3⟩, ⟨by omega, by omega⟩, fun t ht => ?_⟩
          have ez : ((z : Nat) : Int).toNat = z := by omega
          rw [ez]
          obtain ⟨cs', hcs', hlen, hall⟩ := L5.ex
          have ecs : cs.map V.ref = cs'.map V.ref := by
            rw [hcs] at hcs'
            injection hcs' with e
            injection e
          have npt : p ≠ t := ne_of_none hcs ht
          refine ⟨_, rfl, _, rfl, _, rfl, _, rfl, (by show 1 ≤ sizeLine; decide), fun b1 hb1 => ?_⟩
          have npb : p ≠ b1 := ne_of_none (show upd H' t (.tup [.int (Sh19.go k.toNat (Sh19.ending k.toNat u) z).1, .int (Sh19.go k.toNat (Sh19.ending k.toNat u) z).2]) p = some (.lst (cs'.map V.ref)) by rw [upd_ne npt]; exact hcs') hb1
          have ntb : t ≠ b1 := ne_of_none (show upd H' t (.tup [.int (Sh19.go k.toNat (Sh19.ending k.toNat u) z).1, .int (Sh19.go k.toNat (Sh19.ending k.toNat u) z).2]) t = some _ from upd_same) hb1
          refine ⟨p, b1, cs'.map V.ref, [.ref t], rfl, rfl, by rw [upd_ne npb, upd_ne npt]; exact hcs', upd_same, ?_, fun p2 hp2 => ?_⟩
          · rw [List.length_map, hlen, walk_len]
            exact Nat.le_trans (show u.length + 1 + 1 ≤ 200 by omega) (by decide)
          have s6 : Same H' (upd (upd (upd H' t (.tup [.int (Sh19.go k.toNat (Sh19.ending k.toNat u) z).1, .int (Sh19.go k.toNat (Sh19.ending k.toNat u) z).2])) b1 (.lst [.ref t])) p2 (.lst (cs'.map V.ref ++ [.ref t]))) := ((same_new ht).trans (same_new hb1)).trans (same_new hp2)
          have ht2 : t ≠ p2 := ne_of_none (show (upd (upd H' t (.tup [.int (Sh19.go k.toNat (Sh19.ending k.toNat u) z).1, .int (Sh19.go k.toNat (Sh19.ending k.toNat u) z).2])) b1 (.lst [.ref t])) t = some _ by rw [upd_ne ntb]; exact upd_same) hp2
          refine ⟨_, rfl, _, _, rfl, rfl, _, rfl, p2, n, u ++ [z], ?_, zs _ _ ((s1.trans s5).trans s6) hZ, ?_, ⟨k0, k3⟩, by omega, ?_, ?_, fun H7 s7 => ?_⟩
          · have e : ((n + 1 : Nat) : Int) - 1 = (n : Nat) := by omega
            show [V.int k, V.ref p2, V.int (((n + 1 : Nat) : Int) - 1), V.ref fW] = _
            rw [e]
          · rw [walk_snoc]
            exact lies_snoc hlen hall upd_same (by rw [upd_ne ht2, upd_ne ntb]; exact upd_same) (fun d x y e => s6 _ _ e)
          · rw [List.length_append, List.length_singleton]
            omega
          · intro s' hs'
            rcases List.mem_append.mp hs' with e | e
            · exact hs s' e
            · cases List.mem_singleton.mp e
              exact hzw
          · refine ⟨_, _, rfl, rfl, ⟨some (.int z), some (.ref t), ?_, s5.trans (s6.trans s7)⟩⟩
            rw [sum_take_int _ _ i z hz]
            rfl
        · rintro σ H' ⟨v1, v2, rfl, s5⟩
          have hlen : (nInts (goOn k.toNat u)).length = (goOn k.toNat u).length := List.length_map _
          refine ⟨_, rfl, ?_⟩
          rw [hlen, List.take_length]
          exact hQ H' (s1.trans s5)
abbrev sSumOf : Stmt := top 10
theorem scSumOf : FnScope ["kind", "n", "worth"] ["kind", "n", "worth"] (defScope sSumOf) := ⟨rfl, rfl, rfl, by decide +kernel, rfl, by decide +kernel, by decide +kernel⟩
def spSumOf (Z : Hp → Prop) (fW : Addr) (k : Int) (g : List Nat → Int) : Sp := fun vs H Q _ => ∃ n : Nat, vs = [.int k, .int n, .ref fW] ∧ Z H ∧ (0 ≤ k ∧ k < 3) ∧ n < 17 ∧ ∀ H', Same H H' → Q (.int (leafS k.toNat g n [])) H'
theorem ok_sumof {Z : Hp → Prop} {f fW : Addr} {k : Int} {g : List Nat → Int} {fd : FuncData} (zs : Stays Z) (F : Fun K "sum_of_walks" "sum_of_walks" sSumOf f fd) (CW : Cal P w K mg base 20 "sum_on" ["kind", "places", "left", "worth"] (spSumOn Z fW k g 17)) : FnOk P w K mg base CX0 21 f fd ["kind", "n", "worth"] (spSumOf Z fW k g) := by
  refine F.ok scSumOf (fun vs H Q E h => ?_) (fun cdv A outer s H vs Q E hr h => ?_)
  · obtain ⟨n, rfl, _⟩ := h
    rfl
  · refine ⟨_, pss_one (ps_ret (pe_cal CW hr (pa_cons (pv 0) (pa_cons (pe_lst (pa_cons (pe_tup (pa_cons pe_int (pa_cons pe_int pa_nil))) pa_nil)) (pa_cons (pv 1) (pa_cons (pv 2) pa_nil)))))), ?_⟩
    obtain ⟨n, rfl, hZ, hk, hn, hQ⟩ := h
    refine ⟨_, rfl, (by show 2 ≤ sizeLine; decide), fun t ht => ?_⟩
    refine ⟨(by show 1 ≤ sizeLine; decide), fun p hp => ?_⟩
    have nt : t ≠ p := ne_of_none (show upd H t (.tup [.int 0, .int 0]) t = some _ from upd_same) hp
    refine ⟨_, rfl, _, rfl, p, n, [], rfl, zs _ _ ((same_new ht).trans (same_new hp)) hZ, ?_, hk, hn, by show 0 + _ ≤ 100; omega, fun s hs => absurd hs List.not_mem_nil, fun H' s' => hQ H' (((same_new ht).trans (same_new hp)).trans s')⟩
    refine ⟨[t], upd_same, rfl, fun i c q h1 h2 => ?_⟩
    match i, h1 with
    | 0, h1 =>
      have e1 : t = c := Option.some.inj h1
      have e2 : ((0, 0) : Int × Int) = q := Option.some.inj h2
      subst e1
      subst e2
      rw [upd_ne nt]
      exact upd_same
end
end NB
namespace NB
open PySem PySem.Spec PyProof.Rows L2 LamX NdefX
/-! ### sum_of_walks, whatever it is handed -/
structure Giv (P : Program) (w : World) (K : PySem.W.Frag) (mg : Str → Option Value) : Prop where
  ex : ∃ (g : Addr) (fd : FuncData), PySem.W.keepIn K (.ref g) = true ∧ Binds K fd ["kind", "n", "worth"] [] ∧ mg "sum_of_walks" = some (.ref g) ∧
    ∀ (Z : Hp → Prop) (B : Heap) (fW : Addr) (k : Int) (gg : List Nat → Int), Stays Z → Hld P w K mg B 3 fW (spWo Z k gg) → FnOk P w K mg B L2.CX0 21 g fd ["kind", "n", "worth"] (spSumOf Z fW k gg)
theorem Giv.cal {P : Program} {w : World} {K : PySem.W.Frag} {mg : Str → Option Value} {B : Heap} {Z : Hp → Prop} {fW : Addr} {k : Int} {gg : List Nat → Int} (G : Giv P w K mg) (zs : Stays Z) (h : Hld P w K mg B 3 fW (spWo Z k gg)) : Cal P w K mg B 21 "sum_of_walks" ["kind", "n", "worth"] (spSumOf Z fW k gg) := by
  obtain ⟨g, fd, h1, h2, h3, h4⟩ := G.ex
  exact ⟨g, fd, h4 Z B fW k gg zs h, h1, h2, h3⟩
/-- the lambda's code object stands -/
def codeAt (q : Str) (c' : Addr) : Hp → Prop := fun H => H c' = some (CodeO c' q)
theorem codeAt_stays (q : Str) (c' : Addr) : Stays (codeAt q c') := fun _ _ s z => s _ _ z
/-- R: which kind the walks are of, by what the lambda has captured -/
def spWR (q : Str) (R : List (Option V) → Int → Prop) (gg : Int → List Nat → Int) (ws : List (Option V)) (c' : Addr) : Sp := fun vs H Q E => ∃ k, R ws k ∧ spWo (codeAt q c') k (gg k) vs H Q E
def spGR (q : Str) (R : List (Option V) → Int → Prop) (gg : Int → List Nat → Int) (ws : List (Option V)) (f c' : Addr) : Sp := fun vs H Q E => ∃ k, R ws k ∧ spSumOf (codeAt q c') f k (gg k) vs H Q E
theorem spWR_num {q : Str} {R : List (Option V) → Int → Prop} {gg : Int → List Nat → Int} {ws : List (Option V)} {c' : Addr} {vs : List V} {H : Hp} {Q : VK} {E : XK} (h : spWR q R gg ws c' vs H Q E) : vs.length = 1 ∧ H c' = some (CodeO c' q) := by
  obtain ⟨_, _, _, _, rfl, z, _⟩ := h
  exact ⟨rfl, z⟩
theorem pe_sum {X : Cx} {c T : Addr} {fr : List Str} {js : List Nat} {R : List (Option V) → Int → Prop} {gg : Int → List Nat → Int} {e1 e2 : Expr} {params : Arguments} {body : Expr} {scope : Scope} {p lpos pos : Pos} {ta tb : TE} (G : Giv X.prog X.w X.K X.mg)
    (hr : Room 21 X.A) (h1 : PE X e1 ta) (h2 : PE X e2 tb) (TB : TabB X.base X.mg c T) (hcode : X.env.code = .ref c) (hnd : ndefB X.env.scope scope fr = true) (hjs : js.map (fun j => X.N[j]?) = fr.map some) (hfn : ∀ y, X.fn y = true)
    (hL : ∀ (B : Heap) (ws : List (Option V)) (f c' : Addr) (cl : List (Str × Addr)) (pm ctv : Value), B.get? f = some (PySem.W.kla_obj "<lambda>" (X.env.qual ++ "<lambda>") params body scope cl pm c' ctv) → CellsAt cl fr ws B (fun _ => none) → Hld X.prog X.w X.K X.mg B 3 f (spWR (X.env.qual ++ "<lambda>") R gg ws c'))
    (hdef : defaultsOf params X.env = ([], []) := by rfl) (hg : Gl X "sum_of_walks" := by rfl)
    (he1 : starEach [e1, e2, .Lambda params body scope lpos] X.env = (false, eval e1 X.env) :: starEach [e2, .Lambda params body scope lpos] X.env := by rfl)
    (he2 : starEach [e2, .Lambda params body scope lpos] X.env = (false, eval e2 X.env) :: starEach [.Lambda params body scope lpos] X.env := by rfl) (hpl : (backTo pos (starEach [e2, .Lambda params body scope lpos] X.env)).any (·.1) = false := by rfl) :
    PE X (.Call (.Name "sum_of_walks" p) [e1, e2, .Lambda params body scope lpos] [] pos) (tLam3 [(T, X.env.qual ++ "<lambda>")] (X.env.qual ++ "<lambda>") js (spGR (X.env.qual ++ "<lambda>") R gg) ta tb) := by
  obtain ⟨g, fd, g1, g2, g3, g4⟩ := G.ex
  refine pe_lam3 (fr := fr) (kW := 3) (spW := spWR (X.env.qual ++ "<lambda>") R gg) hg g3 g1 g2 hr h1 h2 TB hcode List.mem_cons_self (fun p m _ => by rw [List.mem_singleton.mp m]) hdef (ndef_free hnd) (ndef_fr hnd) hjs hfn (fun B ws f c' HW => ?_) hL (by decide) he1 he2 hpl
  have all : ∀ k, R ws k → FnOk X.prog X.w X.K X.mg B L2.CX0 21 g fd ["kind", "n", "worth"] (spSumOf (codeAt (X.env.qual ++ "<lambda>") c') f k (gg k)) := fun k hk => g4 _ B f k (gg k) (codeAt_stays _ _) ⟨HW.fn, fun A outer s H us vs Q hr e0 r q => HW.run A outer s H us vs Q hr e0 r ⟨k, hk, q⟩⟩
  exact ⟨fun vs H Q E ⟨k, hk, q⟩ => (all k hk).len vs H Q E q, fun A outer s H args us vs Q E hr e0 hb r ⟨k, hk, q⟩ => (all k hk).run A outer s H args us vs Q E hr e0 hb r q⟩
/-- one empty table -/
theorem tabs1 {H : Hp} {T : Addr} {q : Str} (h : H T = some (.tbl #[])) : Tabs [(T, q)] H := fun p m => by
  rw [List.mem_singleton.mp m]
  exact TabS.nil h
/-! ### a def that makes a lambda: its code object is known -/
theorem ok_code {P : Program} {w : World} {K : PySem.W.Frag} {mg : Str → Option Value} {base : Heap} {x qual : Str} {st : Stmt} {f c : Addr} {oc kV doc pm ct : Value} {od an : Option Addr} {osl : Array (Option Value)} {N ps : List Str} {k : Nat} {sp : Sp}
    (lk : K.lookup f = some ⟨oc, od, .func (PySem.W.fnOf x qual (defArgs st) (defBody st) (defScope st) .none kV doc pm an (.ref c) ct), osl⟩) (hcd : PySem.W.codeIn K (.ref c) qual = true) (S : FnScope N ps (defScope st)) (len : ∀ vs H Q E, sp vs H Q E → vs.length = ps.length)
    (hbody : ∀ (A : Around) (outer : List Env) (s : Shared) (H : Hp) (vs : List V) (Q : VK) (E : XK), Room k (A.deeper (envOfC qual (defScope st) s.heap.objs.size f (.ref c))) → sp vs H Q E →
      ∃ t, PSs (cxOf L2.CX0 P w K mg base N qual (defScope st) f (.ref c) A outer s H E).nox (defBody st) t ∧ t { nx := fun _ H' => Q .non H', rt := Q } (L2.start N vs) H) :
    FnOk P w K mg base L2.CX0 (k + 1) f (PySem.W.fnOf x qual (defArgs st) (defBody st) (defScope st) .none kV doc pm an (.ref c) ct) ps sp :=
  fn_of lk hcd S len fun A outer s H vs Q E room rd => (hbody A outer s H vs Q E room rd).elim fun t z => ⟨t, z.1.nox, z.2⟩
/-- the lambda that a def's last row hands over -/
def lamOf (st : Stmt) : Expr := match defBody st with
  | [_, .Return (some (.List [_, .Call _ [_, _, l] _ _] _)) _] => l
  | _ => .Name "" ⟨0, 0, 0, 0⟩
def lamScope : Expr → Scope
  | .Lambda _ _ sc _ => sc
  | _ => defScope (.Pass ⟨0, 0, 0, 0⟩)
end NB
namespace NB
open PySem PySem.Spec PyProof.Rows L2 LamX NdefX
open PySem.W (Codec)
abbrev sCount : Stmt := top 11
theorem scCount : FnScope ["kind", "n"] ["kind", "n"] (defScope sCount) := ⟨rfl, rfl, rfl, by decide +kernel, rfl, by decide +kernel, by decide +kernel⟩
theorem nsCount : NScope ["places"] ["places"] [] (lamScope (lamOf sCount)) := nscope_by (by decide +kernel)
theorem ndCount : ndefB (defScope sCount) (lamScope (lamOf sCount)) [] = true := by decide +kernel
def spCount (T : Addr) : Sp := fun vs H Q _ => ∃ (k n : Int), vs = [.int k, .int n] ∧ 0 ≤ n ∧ H T = some (.tbl #[]) ∧ ∀ (H' : Hp) (p : Addr), H' p = some (.lst ((PySh19.count k n).map V.int)) → Q (.ref p) H'
section
variable {P : Program} {w : World} {K : PySem.W.Frag} {mg : Str → Option Value} {base : Heap} {M : Addr}
theorem ok_count {f c T : Addr} {oc kV doc pm ct : Value} {od an : Option Addr} {osl : Array (Option Value)} (lk : K.lookup f = some ⟨oc, od, .func (PySem.W.fnOf "count" "count" (defArgs sCount) (defBody sCount) (defScope sCount) .none kV doc pm an (.ref c) ct), osl⟩)
    (hcd : PySem.W.codeIn K (.ref c) "count" = true) (TB : TabB base mg c T) (gR : ∃ t, mg "OUT_OF_RANGE" = some (.int (-2) t))
    (CM : Cal P w K mg base 2 "may_be_counted" ["kind", "n", "least"] (spMay K)) (G : Giv P w K mg) : FnOk P w K mg base L2.CX0 22 f (PySem.W.fnOf "count" "count" (defArgs sCount) (defBody sCount) (defScope sCount) .none kV doc pm an (.ref c) ct) ["kind", "n"] (spCount T) := by
  refine ok_code lk hcd scCount (fun vs H Q E h => ?_) (fun A outer s H vs Q E hr h => ?_)
  · obtain ⟨k, n, rfl, _⟩ := h
    rfl
  · refine ⟨_, pss_cons (ps_if (pt_not (pt_val (pe_cal CM (hr.mono (by decide)) (pa_cons (pv 0) (pa_cons (pv 1) (pa_cons pe_int pa_nil)))))) (pss_one (ps_ret (pe_lst (pa_cons (pe_gi rfl gR) pa_nil)))) pss_nil)
      (pss_one (ps_ret (pe_lst (pa_cons pe_int (pa_cons (pe_sum (c := c) (T := T) (fr := []) (js := []) (R := fun _ _ => True) (gg := fun _ _ => 1) G hr (pv 0) (pv 1) TB rfl ndCount rfl (fun _ => rfl) ?lam) pa_nil))))), ?_⟩
    case lam =>
      intro B ws f' c' cl pm' ctv hf C
      refine hld_lam (N := ["places"]) (ps := ["places"]) (fr := []) (ws := ws) (k := 2) nsCount (fun us hl => match us, hl with | [_], _ => rfl) hf C (fun vs H Q h => spWR_num h) (fun A outer s H vs Q hr h => ?_)
      refine ⟨_, pe_int, ?_⟩
      obtain ⟨_, _, _, _, _, _, _, _, _, hQ⟩ := h
      exact hQ H (Same.refl H)
    obtain ⟨k, n, rfl, n0, hT, hQ⟩ := h
    rw [count_due n0] at hQ
    refine ⟨_, rfl, _, rfl, k, n, 0, rfl, _, rfl, ?_⟩
    by_cases c : may k n 0 = true
    · obtain ⟨c1, c2, _, c4⟩ := may_iff.mp c
      rw [if_pos ⟨c1, c2, c4⟩] at hQ
      refine if_f (by rw [c]; rfl) ?_
      refine ⟨_, rfl, _, rfl, tabs1 hT, fun f' c' H2 _ hc' => ⟨k, trivial, n.toNat, ?_, hc', ⟨c1, by omega⟩, by omega, fun H' s' => ?_⟩⟩
      · rw [Int.toNat_of_nonneg n0]
      · refine ⟨(by show 2 ≤ sizeLine; decide), fun b _ => hQ _ b ?_⟩
        rw [upd_same, leafS_cnt, cntW_count]
        rfl
    · rw [if_neg fun z => c (may_iff.mpr ⟨z.1, z.2.1, n0, z.2.2⟩)] at hQ
      refine if_t (by rw [Bool.eq_false_iff.mpr c]; rfl) ?_
      exact ⟨by show 1 ≤ sizeLine; decide, fun p _ => hQ _ p upd_same⟩
end
end NB
namespace NB
open PySem PySem.Spec PyProof.Rows L2
open PySem.W (Codec)
theorem all_mk {P : Program} {w : World} {K : PySem.W.Frag} {h : Heap} {mg : Str → Option Value} {fa M : Addr} {f1 f2 f3 f4 f5 f6 f7 : Addr} (X : K.In h) (G : h.Ns mainGlobals mg) (hfa : mg "count" = some (.ref fa))
    {od1 an1 od2 an2 od3 an3 od4 an4 od5 an5 od6 an6 od7 an7 : Option Addr} {sl1 sl2 sl3 sl4 sl5 sl6 sl7 : Array (Option Value)} {oc1 kV1 dc1 pm1 cd1 ct1 oc2 kV2 dc2 pm2 cd2 ct2 oc3 kV3 dc3 pm3 cd3 ct3 oc4 kV4 dc4 pm4 cd4 ct4 oc5 kV5 dc5 pm5 cd5 ct5 oc6 kV6 dc6 pm6 cd6 ct6 oc7 kV7 dc7 pm7 cd7 ct7 : Value}
    {t_OUT_OF_RANGE t_MOST_STEPS_COUNTED t_HONEYCOMB : Tok} {u0 u1 u2 : Addr} {dM d0 d1 d2 : Option Addr} {sM s0 s1 s2 : Array (Option Value)} {nM n0 n1 n2 : Nat}
    {e00 e01 e02 e03 e10 e11 e12 e13 e14 e15 e20 e21 e22 : Addr} {g00 g01 g02 g03 g10 g11 g12 g13 g14 g15 g20 g21 g22 : Option Addr} {h00 h01 h02 h03 h10 h11 h12 h13 h14 h15 h20 h21 h22 : Array (Option Value)} {m00 m01 m02 m03 m10 m11 m12 m13 m14 m15 m20 m21 m22 : Nat} {x00 y00 x01 y01 x02 y02 x03 y03 x10 y10 x11 y11 x12 y12 x13 y13 x14 y14 x15 y15 x20 y20 x21 y21 x22 y22 : Tok}
    (a1 : PySem.W.nsIn K mainGlobals "is_kind" = some (some (.ref f1))) (l1 : K.lookup f1 = some ⟨oc1, od1, .func (PySem.W.fnOf "is_kind" "is_kind" (defArgs sKind) (defBody sKind) (defScope sKind) .none kV1 dc1 pm1 an1 cd1 ct1), sl1⟩) (c1 : PySem.W.codeIn K cd1 "is_kind" = true) (k1 : PySem.W.keepIn K (.ref f1) = true)
    (a2 : PySem.W.nsIn K mainGlobals "place_after" = some (some (.ref f2))) (l2 : K.lookup f2 = some ⟨oc2, od2, .func (PySem.W.fnOf "place_after" "place_after" (defArgs sAft) (defBody sAft) (defScope sAft) .none kV2 dc2 pm2 an2 cd2 ct2), sl2⟩) (c2 : PySem.W.codeIn K cd2 "place_after" = true) (k2 : PySem.W.keepIn K (.ref f2) = true)
    (a3 : PySem.W.nsIn K mainGlobals "open_steps" = some (some (.ref f3))) (l3 : K.lookup f3 = some ⟨oc3, od3, .func (PySem.W.fnOf "open_steps" "open_steps" (defArgs sOpn) (defBody sOpn) (defScope sOpn) .none kV3 dc3 pm3 an3 cd3 ct3), sl3⟩) (c3 : PySem.W.codeIn K cd3 "open_steps" = true) (k3 : PySem.W.keepIn K (.ref f3) = true)
    (a4 : PySem.W.nsIn K mainGlobals "may_be_counted" = some (some (.ref f4))) (l4 : K.lookup f4 = some ⟨oc4, od4, .func (PySem.W.fnOf "may_be_counted" "may_be_counted" (defArgs sMay) (defBody sMay) (defScope sMay) .none kV4 dc4 pm4 an4 cd4 ct4), sl4⟩) (c4 : PySem.W.codeIn K cd4 "may_be_counted" = true) (k4 : PySem.W.keepIn K (.ref f4) = true)
    (a5 : PySem.W.nsIn K mainGlobals "sum_on" = some (some (.ref f5))) (l5 : K.lookup f5 = some ⟨oc5, od5, .func (PySem.W.fnOf "sum_on" "sum_on" (defArgs sSumOn) (defBody sSumOn) (defScope sSumOn) .none kV5 dc5 pm5 an5 cd5 ct5), sl5⟩) (c5 : PySem.W.codeIn K cd5 "sum_on" = true) (k5 : PySem.W.keepIn K (.ref f5) = true)
    (a6 : PySem.W.nsIn K mainGlobals "sum_of_walks" = some (some (.ref f6))) (l6 : K.lookup f6 = some ⟨oc6, od6, .func (PySem.W.fnOf "sum_of_walks" "sum_of_walks" (defArgs sSumOf) (defBody sSumOf) (defScope sSumOf) .none kV6 dc6 pm6 an6 cd6 ct6), sl6⟩) (c6 : PySem.W.codeIn K cd6 "sum_of_walks" = true) (k6 : PySem.W.keepIn K (.ref f6) = true)
    (a7 : PySem.W.nsIn K mainGlobals "count" = some (some (.ref f7))) (l7 : K.lookup f7 = some ⟨oc7, od7, .func (PySem.W.fnOf "count" "count" (defArgs sCount) (defBody sCount) (defScope sCount) .none kV7 dc7 pm7 an7 cd7 ct7), sl7⟩) (c7 : PySem.W.codeIn K cd7 "count" = true) (k7 : PySem.W.keepIn K (.ref f7) = true)
    (v_OUT_OF_RANGE : PySem.W.nsIn K mainGlobals "OUT_OF_RANGE" = some (some (.int (-2) t_OUT_OF_RANGE)))
    (v_MOST_STEPS_COUNTED : PySem.W.nsIn K mainGlobals "MOST_STEPS_COUNTED" = some (some (.int 16 t_MOST_STEPS_COUNTED)))
    (v_HONEYCOMB : PySem.W.nsIn K mainGlobals "HONEYCOMB" = some (some (.int 2 t_HONEYCOMB)))
    (vm : PySem.W.nsIn K mainGlobals "MOVES" = some (some (.ref M))) (vM : K.lookup M = some ⟨.type "tuple", dM, .seq #[.ref u0, .ref u1, .ref u2] nM, sM⟩)
    (r0 : K.lookup u0 = some ⟨.type "tuple", d0, .seq #[.ref e00, .ref e01, .ref e02, .ref e03] n0, s0⟩)
    (r1 : K.lookup u1 = some ⟨.type "tuple", d1, .seq #[.ref e10, .ref e11, .ref e12, .ref e13, .ref e14, .ref e15] n1, s1⟩)
    (r2 : K.lookup u2 = some ⟨.type "tuple", d2, .seq #[.ref e20, .ref e21, .ref e22] n2, s2⟩)
    (w00 : K.lookup e00 = some ⟨.type "tuple", g00, .seq #[.int 1 x00, .int 0 y00] m00, h00⟩)
    (w01 : K.lookup e01 = some ⟨.type "tuple", g01, .seq #[.int 0 x01, .int 1 y01] m01, h01⟩)
    (w02 : K.lookup e02 = some ⟨.type "tuple", g02, .seq #[.int (-1) x02, .int 0 y02] m02, h02⟩)
    (w03 : K.lookup e03 = some ⟨.type "tuple", g03, .seq #[.int 0 x03, .int (-1) y03] m03, h03⟩)
    (w10 : K.lookup e10 = some ⟨.type "tuple", g10, .seq #[.int 1 x10, .int 0 y10] m10, h10⟩)
    (w11 : K.lookup e11 = some ⟨.type "tuple", g11, .seq #[.int 0 x11, .int 1 y11] m11, h11⟩)
    (w12 : K.lookup e12 = some ⟨.type "tuple", g12, .seq #[.int (-1) x12, .int 1 y12] m12, h12⟩)
    (w13 : K.lookup e13 = some ⟨.type "tuple", g13, .seq #[.int (-1) x13, .int 0 y13] m13, h13⟩)
    (w14 : K.lookup e14 = some ⟨.type "tuple", g14, .seq #[.int 0 x14, .int (-1) y14] m14, h14⟩)
    (w15 : K.lookup e15 = some ⟨.type "tuple", g15, .seq #[.int 1 x15, .int (-1) y15] m15, h15⟩)
    (w20 : K.lookup e20 = some ⟨.type "tuple", g20, .seq #[.int 1 x20, .int 0 y20] m20, h20⟩)
    (w21 : K.lookup e21 = some ⟨.type "tuple", g21, .seq #[.int (-1) x21, .int 0 y21] m21, h21⟩)
    (w22 : K.lookup e22 = some ⟨.type "tuple", g22, .seq #[.int 0 x22, .int 1 y22] m22, h22⟩)
    {cT TT : Addr} (hcT : ∀ (o : Obj) (fd : FuncData), K.lookup fa = some o → o.data = .func fd → fd.code = .ref cT)
    (z_len : PySem.W.nsIn K mainGlobals "len" = some none)
    (z_range : PySem.W.nsIn K mainGlobals "range" = some none) :
    ∃ fd : FuncData, (∀ (s : Shared) (us : List Value), us.length = (["kind", "n"] : List Str).length → BindsTo s fd ⟨us, []⟩ ((["kind", "n"] : List Str).zip us)) ∧ ∀ base : Heap, K.In base → base.Ns mainGlobals mg → LamX.TabB base mg cT TT → FnOk P w K mg base L2.CX0 22 fa fd ["kind", "n"] (spCount TT) := by
  have e := hfa.symm.trans (PySem.W.mg_of X G a7)
  cases e
  have tm : ∃ rows : List Addr, TupK K M (rows.map V.ref) ∧ rows.length = 3 ∧ ∀ k, k < 3 → ∃ (r : Addr) (cs : List Addr), rows[k]? = some r ∧ TupK K r (cs.map V.ref) ∧ cs.length = Sh19.ways k ∧
      ∀ s, s < Sh19.ways k → ∃ c, cs[s]? = some c ∧ TupK K c [.int (movAt k s).1, .int (movAt k s).2] := by
    refine ⟨[u0, u1, u2], (.inr ⟨_, _, _, vM, rfl, rfl, (by show 3 ≤ sizeLine; decide), .cons rfl (.cons rfl (.cons rfl .nil))⟩), rfl, fun k hk => ?_⟩
    match k, hk with
    | 0, _ =>
      refine ⟨u0, [e00, e01, e02, e03], rfl, (.inr ⟨_, _, _, r0, rfl, rfl, (by show 4 ≤ sizeLine; decide), .cons rfl (.cons rfl (.cons rfl (.cons rfl (.nil))))⟩), rfl, fun s hs => ?_⟩
      match s, hs with
      | 0, _ => exact ⟨e00, rfl, .inr ⟨_, _, _, w00, rfl, rfl, (by show 2 ≤ sizeLine; decide), .cons ⟨_, rfl⟩ (.cons ⟨_, rfl⟩ .nil)⟩⟩
      | 1, _ => exact ⟨e01, rfl, .inr ⟨_, _, _, w01, rfl, rfl, (by show 2 ≤ sizeLine; decide), .cons ⟨_, rfl⟩ (.cons ⟨_, rfl⟩ .nil)⟩⟩
      | 2, _ => exact ⟨e02, rfl, .inr ⟨_, _, _, w02, rfl, rfl, (by show 2 ≤ sizeLine; decide), .cons ⟨_, rfl⟩ (.cons ⟨_, rfl⟩ .nil)⟩⟩
      | 3, _ => exact ⟨e03, rfl, .inr ⟨_, _, _, w03, rfl, rfl, (by show 2 ≤ sizeLine; decide), .cons ⟨_, rfl⟩ (.cons ⟨_, rfl⟩ .nil)⟩⟩
      | s + 4, hs => exact absurd hs (by rw [ways0]; omega)
    | 1, _ =>
      refine ⟨u1, [e10, e11, e12, e13, e14, e15], rfl, (.inr ⟨_, _, _, r1, rfl, rfl, (by show 6 ≤ sizeLine; decide), .cons rfl (.cons rfl (.cons rfl (.cons rfl (.cons rfl (.cons rfl (.nil))))))⟩), rfl, fun s hs => ?_⟩
      match s, hs with
      | 0, _ => exact ⟨e10, rfl, .inr ⟨_, _, _, w10, rfl, rfl, (by show 2 ≤ sizeLine; decide), .cons ⟨_, rfl⟩ (.cons ⟨_, rfl⟩ .nil)⟩⟩
      | 1, _ => exact ⟨e11, rfl, .inr ⟨_, _, _, w11, rfl, rfl, (by show 2 ≤ sizeLine; decide), .cons ⟨_, rfl⟩ (.cons ⟨_, rfl⟩ .nil)⟩⟩
      | 2, _ => exact ⟨e12, rfl, .inr ⟨_, _, _, w12, rfl, rfl, (by show 2 ≤ sizeLine; decide), .cons ⟨_, rfl⟩ (.cons ⟨_, rfl⟩ .nil)⟩⟩
      | 3, _ => exact ⟨e13, rfl, .inr ⟨_, _, _, w13, rfl, rfl, (by show 2 ≤ sizeLine; decide), .cons ⟨_, rfl⟩ (.cons ⟨_, rfl⟩ .nil)⟩⟩
      | 4, _ => exact ⟨e14, rfl, .inr ⟨_, _, _, w14, rfl, rfl, (by show 2 ≤ sizeLine; decide), .cons ⟨_, rfl⟩ (.cons ⟨_, rfl⟩ .nil)⟩⟩
      | 5, _ => exact ⟨e15, rfl, .inr ⟨_, _, _, w15, rfl, rfl, (by show 2 ≤ sizeLine; decide), .cons ⟨_, rfl⟩ (.cons ⟨_, rfl⟩ .nil)⟩⟩
      | s + 6, hs => exact absurd hs (by rw [ways1]; omega)
    | 2, _ =>
      refine ⟨u2, [e20, e21, e22], rfl, (.inr ⟨_, _, _, r2, rfl, rfl, (by show 3 ≤ sizeLine; decide), .cons rfl (.cons rfl (.cons rfl (.nil)))⟩), rfl, fun s hs => ?_⟩
      match s, hs with
      | 0, _ => exact ⟨e20, rfl, .inr ⟨_, _, _, w20, rfl, rfl, (by show 2 ≤ sizeLine; decide), .cons ⟨_, rfl⟩ (.cons ⟨_, rfl⟩ .nil)⟩⟩
      | 1, _ => exact ⟨e21, rfl, .inr ⟨_, _, _, w21, rfl, rfl, (by show 2 ≤ sizeLine; decide), .cons ⟨_, rfl⟩ (.cons ⟨_, rfl⟩ .nil)⟩⟩
      | 2, _ => exact ⟨e22, rfl, .inr ⟨_, _, _, w22, rfl, rfl, (by show 2 ≤ sizeLine; decide), .cons ⟨_, rfl⟩ (.cons ⟨_, rfl⟩ .nil)⟩⟩
      | s + 3, hs => exact absurd hs (by rw [ways2]; omega)
    | k + 3, hk => exact absurd hk (by omega)
  have m_len := PySem.W.mg_none_of X G z_len
  have m_range := PySem.W.mg_none_of X G z_range
  have g_OUT_OF_RANGE : ∃ t, mg "OUT_OF_RANGE" = some (.int (-2) t) := ⟨_, PySem.W.mg_of X G v_OUT_OF_RANGE⟩
  have g_MOST_STEPS_COUNTED : ∃ t, mg "MOST_STEPS_COUNTED" = some (.int 16 t) := ⟨_, PySem.W.mg_of X G v_MOST_STEPS_COUNTED⟩
  have g_HONEYCOMB : ∃ t, mg "HONEYCOMB" = some (.int 2 t) := ⟨_, PySem.W.mg_of X G v_HONEYCOMB⟩
  have T : Txt K mg M := ⟨m_len, g_HONEYCOMB, PySem.W.mg_of X G vm, tm⟩
  have ec : cd7 = .ref cT := hcT _ _ l7 rfl
  subst ec
  have F1 := fun_mk (st := sKind) l1 c1 k1
  have b1 := F1.binds (ps := ["kind"]) fun _ _ _ _ _ _ us hl => match us, hl with | [_], _ => rfl
  have j1 := PySem.W.mg_of X G a1
  have F2 := fun_mk (st := sAft) l2 c2 k2
  have b2 := F2.binds (ps := ["kind", "place", "step"]) fun _ _ _ _ _ _ us hl => match us, hl with | [_, _, _], _ => rfl
  have j2 := PySem.W.mg_of X G a2
  have F3 := fun_mk (st := sOpn) l3 c3 k3
  have b3 := F3.binds (ps := ["kind", "places", "least"]) fun _ _ _ _ _ _ us hl => match us, hl with | [_, _, _], _ => rfl
  have j3 := PySem.W.mg_of X G a3
  have F4 := fun_mk (st := sMay) l4 c4 k4
  have b4 := F4.binds (ps := ["kind", "n", "least"]) fun _ _ _ _ _ _ us hl => match us, hl with | [_, _, _], _ => rfl
  have j4 := PySem.W.mg_of X G a4
  have F5 := fun_mk (st := sSumOn) l5 c5 k5
  have b5 := F5.binds (ps := ["kind", "places", "left", "worth"]) fun _ _ _ _ _ _ us hl => match us, hl with | [_, _, _, _], _ => rfl
  have j5 := PySem.W.mg_of X G a5
  have F6 := fun_mk (st := sSumOf) l6 c6 k6
  have b6 := F6.binds (ps := ["kind", "n", "worth"]) fun _ _ _ _ _ _ us hl => match us, hl with | [_, _, _], _ => rfl
  have j6 := PySem.W.mg_of X G a6
  have F7 := fun_mk (st := sCount) l7 c7 k7
  have b7 := F7.binds (ps := ["kind", "n"]) fun _ _ _ _ _ _ us hl => match us, hl with | [_, _], _ => rfl
  have j7 := PySem.W.mg_of X G a7
  have C_is_kind : ∀ B : Heap, Cal P w K mg B 1 "is_kind" ["kind"] (spKind K) := fun B => ⟨_, _, ok_kind F1 T, F1.kp, b1, j1⟩
  have C_place_after : ∀ B : Heap, Cal P w K mg B 1 "place_after" ["kind", "place", "step"] (spAft K) := fun B => ⟨_, _, ok_aft F2 T, F2.kp, b2, j2⟩
  have C_open_steps : ∀ B : Heap, Cal P w K mg B 2 "open_steps" ["kind", "places", "least"] (spOpn K) := fun B => ⟨_, _, ok_opn F3 T m_range (C_place_after B), F3.kp, b3, j3⟩
  have C_may_be_counted : ∀ B : Heap, Cal P w K mg B 2 "may_be_counted" ["kind", "n", "least"] (spMay K) := fun B => ⟨_, _, ok_may F4 g_MOST_STEPS_COUNTED (C_is_kind B), F4.kp, b4, j4⟩
  have G_sum : Giv P w K mg := ⟨_, _, F6.kp, b6, j6, fun Z B fW k gg zs HW => ok_sumof zs F6 ⟨_, _, ok_sumon zs F5 b5 j5 (C_place_after B) (C_open_steps B) HW 17, F5.kp, b5, j5⟩⟩
  refine ⟨PySem.W.fnOf "count" "count" (defArgs sCount) (defBody sCount) (defScope sCount) .none kV7 dc7 pm7 an7 (.ref cT) ct7, fun s us hu => match us, hu with | [_, _], _ => .of_eq rfl, fun base KB _ TB => ?_⟩
  exact ok_count l7 c7 TB g_OUT_OF_RANGE (C_may_be_counted base) G_sum
end NB
open PySem PySem.W PyProof.Rows
set_option maxRecDepth 100000 in
set_option maxHeartbeats 8000000 in
theorem PySem.Challenge.cw_neverback_s04_count_holds : PySem.Challenge.rw_neverback_s04_count.Holds := by
  w_on; k_headS; (case hw => exact ⟨[.int 0, .int 0], by decide +kernel, by decide +kernel⟩)
  k_fillS
  refine NB.walk_specT (r := PySem.Challenge.rw_neverback_s04_count) (k := 22) (ps := ["kind", "n"]) (sp := NB.spCount) (by decide +kernel) rfl ⟨rfl, by decide, by decide⟩ (by decide +kernel) (fun w h Y => PySem.W.kIn_of Y) (fun Pm => by kernel_rfl) rfl ?F ?S
  case F =>
    intro w mg fa cT TT h Y KX G hmg hcT
    refine' NB.all_mk KX G hmg ?a1 ?l1 ?c1 ?k1 ?a2 ?l2 ?c2 ?k2 ?a3 ?l3 ?c3 ?k3 ?a4 ?l4 ?c4 ?k4 ?a5 ?l5 ?c5 ?k5 ?a6 ?l6 ?c6 ?k6 ?a7 ?l7 ?c7 ?k7 ?v_OUT_OF_RANGE ?v_MOST_STEPS_COUNTED ?v_HONEYCOMB ?vm ?vM ?r0 ?r1 ?r2 ?w00 ?w01 ?w02 ?w03 ?w10 ?w11 ?w12 ?w13 ?w14 ?w15 ?w20 ?w21 ?w22 hcT ?z_len ?z_range
    (case a1 => k_is)
    (case l1 => k_is)
    (case c1 => k_is)
    (case k1 => k_is)
    (case a2 => k_is)
    (case l2 => k_is)
    (case c2 => k_is)
    (case k2 => k_is)
    (case a3 => k_is)
    (case l3 => k_is)
    (case c3 => k_is)
    (case k3 => k_is)
    (case a4 => k_is)
    (case l4 => k_is)
    (case c4 => k_is)
    (case k4 => k_is)
    (case a5 => k_is)
    (case l5 => k_is)
    (case c5 => k_is)
    (case k5 => k_is)
    (case a6 => k_is)
    (case l6 => k_is)
    (case c6 => k_is)
    (case k6 => k_is)
    (case a7 => k_is)
    (case l7 => k_is)
    (case c7 => k_is)
    (case k7 => k_is)
    (case v_OUT_OF_RANGE => k_is)
    (case v_MOST_STEPS_COUNTED => k_is)
    (case v_HONEYCOMB => k_is)
    (case vm => k_is)
    (case vM => k_is)
    (case r0 => k_is)
    (case r1 => k_is)
    (case r2 => k_is)
    (case w00 => k_is)
    (case w01 => k_is)
    (case w02 => k_is)
    (case w03 => k_is)
    (case w10 => k_is)
    (case w11 => k_is)
    (case w12 => k_is)
    (case w13 => k_is)
    (case w14 => k_is)
    (case w15 => k_is)
    (case w20 => k_is)
    (case w21 => k_is)
    (case w22 => k_is)
    (case z_len => k_is)
    (case z_range => k_is)
  case S =>
    intro K H T xs a hT hwi hask hx
    cases hx with
    | cons h1 h2 =>
      cases h2 with
      | cons h2 h3 =>
        cases h3
        cases h1
        cases h2
        have q : (Codec.inInt 0 2147483647 a.1 && (Codec.inInt 0 4294967295 a.2.1 && true)) = true := hwi
        rw [Bool.and_eq_true, Bool.and_eq_true] at q
        have q2 := q.2.1
        unfold Codec.inInt at q2
        rw [Bool.and_eq_true] at q2
        exact ⟨a.1, a.2.1, rfl, of_decide_eq_true q2.1, hT, fun H' p hp => .lst (L2.SqL.of hp) (L2.dw_ints _)⟩
#print axioms PySem.Challenge.cw_neverback_s04_count_holds
