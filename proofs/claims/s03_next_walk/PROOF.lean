import PyProof.Rows.All
import Wide.All
import OpenK.AllK
import Wide.FinOn
import Open.SpecLaws
import KE.OsGo
import HandS.ForSpec
import HandS.Comp
import HandS.Deep
import HandS.Dict
import HandS.WordsDict
import HandS.TupLen
import PySem.Challenge.RW_neverback_s03_next_walk
set_option Elab.async false
set_option maxRecDepth 100000
set_option maxHeartbeats 2000000
namespace NB
/-! ### the mathematics: no Python here -/
/-- the moves, by kind and by step -/
def movT : List (List (Int × Int)) :=
  [[(1, 0), (0, 1), (-1, 0), (0, -1)], [(1, 0), (0, 1), (-1, 1), (-1, 0), (0, -1), (1, -1)], [(1, 0), (-1, 0), (0, 1)]]
def movAt (k s : Nat) : Int × Int := (movT.getD k []).getD s (0, 0)
/-- what place_after reckons -/
def stepTo (k : Nat) (p : Int × Int) (s : Nat) : Int × Int :=
  if k = 2 ∧ (p.1 + p.2) % 2 = 1 then (p.1 + (movAt k s).1, p.2 - (movAt k s).2) else (p.1 + (movAt k s).1, p.2 + (movAt k s).2)
theorem ways0 : Sh19.ways 0 = 4 := rfl
theorem ways1 : Sh19.ways 1 = 6 := rfl
theorem ways2 : Sh19.ways 2 = 3 := rfl
theorem stepTo_neg {k s : Nat} {x y : Int} {m : Int × Int} (hm : movAt k s = m) (c : ¬ (k = 2 ∧ (x + y) % 2 = 1)) : stepTo k (x, y) s = (x + m.1, y + m.2) := by
  unfold stepTo
  rw [if_neg c, hm]
theorem stepTo_pos {k s : Nat} {x y : Int} {m : Int × Int} (hm : movAt k s = m) (c : k = 2 ∧ (x + y) % 2 = 1) : stepTo k (x, y) s = (x + m.1, y - m.2) := by
  unfold stepTo
  rw [if_pos c, hm]
theorem go22 (x y : Int) : Sh19.go 2 (x, y) 2 = if (x + y) % 2 = 0 then (x, y + 1) else (x, y - 1) := rfl
theorem stepTo_go {k s : Nat} (hk : k < 3) (hs : s < Sh19.ways k) (p : Int × Int) : stepTo k p s = Sh19.go k p s := by
  obtain ⟨x, y⟩ := p
  have pr : ∀ {a b c d : Int}, a = c → b = d → ((a, b) : Int × Int) = (c, d) := fun h1 h2 => by rw [h1, h2]
  have h : k = 0 ∨ k = 1 ∨ k = 2 := by omega
  rcases h with rfl | rfl | rfl
  · rw [ways0] at hs
    have h : s = 0 ∨ s = 1 ∨ s = 2 ∨ s = 3 := by omega
    have c : ¬ ((0 : Nat) = 2 ∧ (x + y) % 2 = 1) := fun z => absurd z.1 (by decide)
    rcases h with rfl | rfl | rfl | rfl
    · exact (stepTo_neg (m := (1, 0)) rfl c).trans (pr rfl (by show y + 0 = y; omega))
    · exact (stepTo_neg (m := (0, 1)) rfl c).trans (pr (by show x + 0 = x; omega) rfl)
    · exact (stepTo_neg (m := (-1, 0)) rfl c).trans (pr rfl (by show y + 0 = y; omega))
    · exact (stepTo_neg (m := (0, -1)) rfl c).trans (pr (by show x + 0 = x; omega) rfl)
  · rw [ways1] at hs
    have h : s = 0 ∨ s = 1 ∨ s = 2 ∨ s = 3 ∨ s = 4 ∨ s = 5 := by omega
    have c : ¬ ((1 : Nat) = 2 ∧ (x + y) % 2 = 1) := fun z => absurd z.1 (by decide)
    rcases h with rfl | rfl | rfl | rfl | rfl | rfl
    · exact (stepTo_neg (m := (1, 0)) rfl c).trans (pr rfl (by show y + 0 = y; omega))
    · exact (stepTo_neg (m := (0, 1)) rfl c).trans (pr (by show x + 0 = x; omega) rfl)
    · exact (stepTo_neg (m := (-1, 1)) rfl c).trans (pr rfl rfl)
    · exact (stepTo_neg (m := (-1, 0)) rfl c).trans (pr rfl (by show y + 0 = y; omega))
    · exact (stepTo_neg (m := (0, -1)) rfl c).trans (pr (by show x + 0 = x; omega) rfl)
    · exact (stepTo_neg (m := (1, -1)) rfl c).trans (pr rfl rfl)
  · rw [ways2] at hs
    have h : s = 0 ∨ s = 1 ∨ s = 2 := by omega
    by_cases c : (x + y) % 2 = 1
    · have c0 : ¬ (x + y) % 2 = 0 := by omega
      rcases h with rfl | rfl | rfl
      · exact (stepTo_pos (m := (1, 0)) rfl ⟨rfl, c⟩).trans (pr rfl (by show y - 0 = y; omega))
      · exact (stepTo_pos (m := (-1, 0)) rfl ⟨rfl, c⟩).trans (pr rfl (by show y - 0 = y; omega))
      · rw [go22, if_neg c0]
        exact (stepTo_pos (m := (0, 1)) rfl ⟨rfl, c⟩).trans (pr (by show x + 0 = x; omega) rfl)
    · have c0 : (x + y) % 2 = 0 := by omega
      have c1 : ¬ ((2 : Nat) = 2 ∧ (x + y) % 2 = 1) := fun z => c z.2
      rcases h with rfl | rfl | rfl
      · exact (stepTo_neg (m := (1, 0)) rfl c1).trans (pr rfl (by show y + 0 = y; omega))
      · exact (stepTo_neg (m := (-1, 0)) rfl c1).trans (pr rfl (by show y + 0 = y; omega))
      · rw [go22, if_pos c0]
        exact (stepTo_neg (m := (0, 1)) rfl c1).trans (pr (by show x + 0 = x; omega) rfl)
theorem movT_len {k : Nat} (hk : k < 3) : (movT.getD k []).length = Sh19.ways k := by
  have h : k = 0 ∨ k = 1 ∨ k = 2 := by omega
  rcases h with rfl | rfl | rfl <;> rfl
/-- all are steps of the kind -/
def okS (k : Nat) (ns : List Int) : Bool := ns.all fun s => decide (0 ≤ s) && decide (s < (Sh19.ways k : Nat))
def nat (ns : List Int) : List Nat := ns.map Int.toNat
theorem nat_eq (ns : List Int) : Sh19Neutral.nats ns = nat ns := rfl
theorem okS_spec (k : Nat) : ∀ ns : List Int, (∀ x ∈ ns, 0 ≤ x) → okS k ns = Sh19.stepsOk k (nat ns)
  | [], _ => rfl
  | x :: r, h => by
    have ih := okS_spec k r fun y hy => h y (List.mem_cons_of_mem _ hy)
    have h0 := h x List.mem_cons_self
    have e : (decide (0 ≤ x) && decide (x < (Sh19.ways k : Nat))) = decide (x.toNat < Sh19.ways k) := by
      rw [decide_eq_true h0, Bool.true_and]
      exact decide_eq_decide.mpr (by omega)
    unfold okS Sh19.stepsOk nat at ih ⊢
    rw [List.all_cons, ih, e, List.map_cons, List.all_cons]
theorem okS_at {k : Nat} {ns : List Int} (h : okS k ns = true) {i : Nat} {z : Int} (hz : ns[i]? = some z) : 0 ≤ z ∧ z < (Sh19.ways k : Nat) := by
  have q := List.all_eq_true.mp h z (List.mem_of_getElem? hz)
  rw [Bool.and_eq_true] at q
  exact ⟨of_decide_eq_true q.1, of_decide_eq_true q.2⟩
/-- one item more -/
theorem take_snoc {α : Type} {l : List α} {i : Nat} {x : α} (h : l[i]? = some x) : l.take (i + 1) = l.take i ++ [x] := by
  rw [List.take_add_one, h]
  rfl
theorem nat_snoc {ns : List Int} {i : Nat} {z : Int} (h : ns[i]? = some z) : nat (ns.take (i + 1)) = nat (ns.take i) ++ [z.toNat] := by
  unfold nat
  rw [take_snoc h, List.map_append]
  rfl
theorem places_snoc (k s : Nat) : ∀ (w : List Nat) (p : Sh19.Place), Sh19.places k p (w ++ [s]) = Sh19.places k p w ++ [Sh19.go k (w.foldl (Sh19.go k) p) s]
  | [], _ => rfl
  | t :: r, p => by
    show p :: Sh19.places k (Sh19.go k p t) (r ++ [s]) = p :: Sh19.places k (Sh19.go k p t) r ++ [Sh19.go k (r.foldl (Sh19.go k) (Sh19.go k p t)) s]
    rw [places_snoc k s r]
    rfl
theorem walk_snoc (k s : Nat) (w : List Nat) : Sh19.walk k (w ++ [s]) = Sh19.walk k w ++ [Sh19.go k (Sh19.ending k w) s] := places_snoc k s w (0, 0)
theorem ending_snoc (k s : Nat) (w : List Nat) : Sh19.ending k (w ++ [s]) = Sh19.go k (Sh19.ending k w) s := by
  unfold Sh19.ending
  rw [List.foldl_append]
  rfl
theorem places_last (k : Nat) : ∀ (w : List Nat) (p : Sh19.Place), ∃ l, Sh19.places k p w = l ++ [w.foldl (Sh19.go k) p]
  | [], _ => ⟨[], rfl⟩
  | t :: r, p => by
    obtain ⟨l, e⟩ := places_last k r (Sh19.go k p t)
    exact ⟨p :: l, by show p :: Sh19.places k (Sh19.go k p t) r = _; rw [e]; rfl⟩
theorem walk_last (k : Nat) (w : List Nat) : ∃ l, Sh19.walk k w = l ++ [Sh19.ending k w] := places_last k w (0, 0)
theorem places_len (k : Nat) : ∀ (w : List Nat) (p : Sh19.Place), (Sh19.places k p w).length = w.length + 1
  | [], _ => rfl
  | t :: r, p => by
    show (Sh19.places k (Sh19.go k p t) r).length + 1 = r.length + 1 + 1
    rw [places_len k r]
theorem walk_len (k : Nat) (w : List Nat) : (Sh19.walk k w).length = w.length + 1 := places_len k w (0, 0)
/-- in_range; refusal -/
def inR (k : Int) (n : Nat) : Bool := decide (0 ≤ k) && decide (k < 3) && decide (n ≤ 4096)
def refu (k : Int) (ns : List Int) : Int := if inR k ns.length = true then (if okS k.toNat ns = true then 0 else -3) else -2
theorem inR_walkOk (k : Int) (n : Nat) : inR k n = Sh19.walkOk k n := by
  unfold inR Sh19.walkOk Sh19.within
  have e : decide (k < 3) = decide (k ≤ 2) := decide_eq_decide.mpr (by omega)
  rw [e]
theorem refu_zero {k : Int} {ns : List Int} (h : refu k ns = 0) : inR k ns.length = true ∧ okS k.toNat ns = true := by
  unfold refu at h
  by_cases c : inR k ns.length = true
  · rw [if_pos c] at h
    by_cases d : okS k.toNat ns = true
    · exact ⟨c, d⟩
    · rw [if_neg d] at h
      exact absurd h (by decide)
  · rw [if_neg c] at h
    exact absurd h (by decide)
theorem inR_bd {k : Int} {n : Nat} (h : inR k n = true) : 0 ≤ k ∧ k < 3 ∧ n ≤ 4096 := by
  unfold inR at h
  rw [Bool.and_eq_true, Bool.and_eq_true] at h
  exact ⟨of_decide_eq_true h.1.1, of_decide_eq_true h.1.2, of_decide_eq_true h.2⟩
/-- what is due, by the refusal -/
theorem end_refused {k : Int} {ns : List Int} (hp : ∀ x ∈ ns, 0 ≤ x) (h : refu k ns ≠ 0) : PySh19.end_ k ns = [refu k ns] := by
  have e1 := inR_walkOk k ns.length
  have e2 := okS_spec k.toNat ns hp
  have hl : (nat ns).length = ns.length := List.length_map _
  show (match (some (if Sh19.walkOk k (nat ns).length = false then Sh19.ok (-2) else if Sh19.stepsOk k.toNat (nat ns) = false then Sh19.ok (-3) else ⟨0, [(Sh19.ending k.toNat (nat ns)).1, (Sh19.ending k.toNat (nat ns)).2]⟩) : Option Sh19.Ans) with | none => [] | some a => a.v :: a.l) = _
  unfold refu at h ⊢
  rw [hl, ← e1, ← e2]
  by_cases c : inR k ns.length = true
  · rw [if_pos c] at h ⊢
    by_cases d : okS k.toNat ns = true
    · rw [if_pos d] at h
      exact absurd rfl h
    · rw [if_neg d, if_neg (by rw [c]; decide), if_pos (by simpa using d)]
      rfl
  · rw [if_neg c, if_pos (by simpa using c)]
    rfl
theorem end_ok {k : Int} {ns : List Int} (hp : ∀ x ∈ ns, 0 ≤ x) (h : refu k ns = 0) : PySh19.end_ k ns = [0, (Sh19.ending k.toNat (nat ns)).1, (Sh19.ending k.toNat (nat ns)).2] := by
  obtain ⟨c, d⟩ := refu_zero h
  rw [inR_walkOk] at c
  rw [okS_spec k.toNat ns hp] at d
  have hl : (nat ns).length = ns.length := List.length_map _
  show (match (some (if Sh19.walkOk k (nat ns).length = false then Sh19.ok (-2) else if Sh19.stepsOk k.toNat (nat ns) = false then Sh19.ok (-3) else ⟨0, [(Sh19.ending k.toNat (nat ns)).1, (Sh19.ending k.toNat (nat ns)).2]⟩) : Option Sh19.Ans) with | none => [] | some a => a.v :: a.l) = _
  rw [hl, c, d]
  rfl
theorem is_refused {k : Int} {ns : List Int} (hp : ∀ x ∈ ns, 0 ≤ x) (h : refu k ns ≠ 0) : PySh19.is_true k ns = [refu k ns] := by
  have e1 := inR_walkOk k ns.length
  have e2 := okS_spec k.toNat ns hp
  have hl : (nat ns).length = ns.length := List.length_map _
  show (match (some (if Sh19.walkOk k (nat ns).length = false then Sh19.ok (-2) else if Sh19.stepsOk k.toNat (nat ns) = false then Sh19.ok (-3) else Sh19.ok (if Sh19.isTrue k.toNat (nat ns) = true then 1 else 0)) : Option Sh19.Ans) with | none => [] | some a => a.v :: a.l) = _
  unfold refu at h ⊢
  rw [hl, ← e1, ← e2]
  by_cases c : inR k ns.length = true
  · rw [if_pos c] at h ⊢
    by_cases d : okS k.toNat ns = true
    · rw [if_pos d] at h
      exact absurd rfl h
    · rw [if_neg d, if_neg (by rw [c]; decide), if_pos (by simpa using d)]
      rfl
  · rw [if_neg c, if_pos (by simpa using c)]
    rfl
theorem is_ok {k : Int} {ns : List Int} (hp : ∀ x ∈ ns, 0 ≤ x) (h : refu k ns = 0) : PySh19.is_true k ns = [if Sh19.isTrue k.toNat (nat ns) = true then 1 else 0] := by
  obtain ⟨c, d⟩ := refu_zero h
  rw [inR_walkOk] at c
  rw [okS_spec k.toNat ns hp] at d
  have hl : (nat ns).length = ns.length := List.length_map _
  show (match (some (if Sh19.walkOk k (nat ns).length = false then Sh19.ok (-2) else if Sh19.stepsOk k.toNat (nat ns) = false then Sh19.ok (-3) else Sh19.ok (if Sh19.isTrue k.toNat (nat ns) = true then 1 else 0)) : Option Sh19.Ans) with | none => [] | some a => a.v :: a.l) = _
  rw [hl, c, d]
  rfl
/-- distinct, as the lists' own word -/
theorem distinct_nodup : ∀ l : List Sh19.Place, Sh19.distinct l = true ↔ l.Nodup
  | [] => by simp [Sh19.distinct]
  | p :: r => by
    rw [List.nodup_cons, ← distinct_nodup r]
    simp [Sh19.distinct]
end NB
namespace NB
/-! ### rows: all rows of n numbers below b, in order (for the later promises) -/
theorem rows_succ (b n : Nat) : Sh19.rows b (n + 1) = (List.range b).flatMap fun s => (Sh19.rows b n).map fun r => s :: r := rfl
theorem flatMap_congr' {α β : Type} {l : List α} {f g : α → List β} (h : ∀ x ∈ l, f x = g x) : l.flatMap f = l.flatMap g := by
  induction l with
  | nil => rfl
  | cons x r ih => rw [List.flatMap_cons, List.flatMap_cons, h x List.mem_cons_self, ih fun y hy => h y (List.mem_cons_of_mem _ hy)]
/-- by the last number instead of the first -/
theorem rows_snoc (b : Nat) : ∀ n, Sh19.rows b (n + 1) = (Sh19.rows b n).flatMap fun r => (List.range b).map fun s => r ++ [s]
  | 0 => by
    show (List.range b).flatMap (fun s => [[s]]) = [[]].flatMap fun r => (List.range b).map fun s => r ++ [s]
    rw [List.flatMap_cons, List.flatMap_nil, List.append_nil]
    generalize List.range b = l
    induction l with
    | nil => rfl
    | cons x r ih => rw [List.flatMap_cons, ih]; rfl
  | n + 1 => by
    rw [rows_succ b (n + 1)]
    conv => rhs; rw [rows_succ b n, List.flatMap_assoc]
    refine flatMap_congr' fun s _ => ?_
    rw [rows_snoc b n, List.map_flatMap, List.flatMap_map]
    refine flatMap_congr' fun r _ => ?_
    rw [List.map_map]
    rfl
theorem mem_rows (b : Nat) : ∀ (n : Nat) (w : List Nat), w ∈ Sh19.rows b n ↔ w.length = n ∧ ∀ s ∈ w, s < b
  | 0, w => by
    show w ∈ [[]] ↔ _
    rw [List.mem_singleton]
    constructor
    · rintro rfl
      exact ⟨rfl, fun s hs => absurd hs List.not_mem_nil⟩
    · exact fun h => List.eq_nil_of_length_eq_zero h.1
  | n + 1, w => by
    rw [rows_succ, List.mem_flatMap]
    constructor
    · rintro ⟨s, h1, h2⟩
      obtain ⟨r, h3, rfl⟩ := List.mem_map.mp h2
      obtain ⟨h4, h5⟩ := (mem_rows b n r).1 h3
      refine ⟨by rw [List.length_cons, h4], fun t ht => ?_⟩
      rcases List.mem_cons.mp ht with e | e
      · rw [e]
        exact List.mem_range.mp h1
      · exact h5 t e
    · rintro ⟨h1, h2⟩
      cases w with
      | nil => exact absurd h1 (by simp)
      | cons s r =>
        refine ⟨s, List.mem_range.mpr (h2 s List.mem_cons_self), List.mem_map.mpr ⟨r, (mem_rows b n r).2 ⟨by simpa using h1, fun t ht => h2 t (List.mem_cons_of_mem _ ht)⟩, rfl⟩⟩
/-- a filter of rows that is told by the row ahead of the last number and by that number -/
theorem rows_filter {b n : Nat} {p q : List Nat → Bool} {t : List Nat → Nat → Bool} (h : ∀ r s, r.length = n → p (r ++ [s]) = (q r && t r s)) :
    (Sh19.rows b (n + 1)).filter p = ((Sh19.rows b n).filter q).flatMap fun r => ((List.range b).filter (t r)).map fun s => r ++ [s] := by
  rw [rows_snoc, List.filter_flatMap]
  have key : ∀ l : List (List Nat), (∀ r ∈ l, r.length = n) → (l.flatMap fun r => ((List.range b).map fun s => r ++ [s]).filter p) = (l.filter q).flatMap fun r => ((List.range b).filter (t r)).map fun s => r ++ [s] := by
    intro l
    induction l with
    | nil => exact fun _ => rfl
    | cons r l ih =>
      intro hl
      rw [List.flatMap_cons, ih fun x hx => hl x (List.mem_cons_of_mem _ hx)]
      have e : ((List.range b).map fun s => r ++ [s]).filter p = if q r = true then ((List.range b).filter (t r)).map (fun s => r ++ [s]) else [] := by
        rw [List.filter_map]
        cases c : q r with
        | true =>
          rw [if_pos rfl]
          congr 1
          refine List.filter_congr fun s _ => ?_
          show p (r ++ [s]) = t r s
          rw [h r s (hl r List.mem_cons_self), c, Bool.true_and]
        | false =>
          rw [if_neg Bool.false_ne_true]
          have z : (List.range b).filter (p ∘ fun s => r ++ [s]) = [] := List.filter_eq_nil_iff.mpr fun s _ => by
            show ¬ p (r ++ [s]) = true
            rw [h r s (hl r List.mem_cons_self), c, Bool.false_and]
            exact Bool.false_ne_true
          rw [z]
          rfl
      rw [e]
      cases c : q r with
      | true => rw [if_pos rfl, List.filter_cons_of_pos c, List.flatMap_cons]
      | false => rw [if_neg Bool.false_ne_true, List.filter_cons_of_neg (by rw [c]; exact Bool.false_ne_true), List.nil_append]
  exact key _ fun r hr => ((mem_rows b n r).1 hr).1
/-! ### true walks by their last step -/
theorem distinct_snoc (l : List Sh19.Place) (p : Sh19.Place) : Sh19.distinct (l ++ [p]) = (Sh19.distinct l && !l.contains p) := by
  have z : Sh19.distinct (l ++ [p]) = true ↔ (Sh19.distinct l && !l.contains p) = true := by
    rw [distinct_nodup, Bool.and_eq_true, distinct_nodup, List.nodup_append]
    constructor
    · rintro ⟨h1, _, h2⟩
      refine ⟨h1, ?_⟩
      cases c : l.contains p with
      | false => rfl
      | true => exact absurd rfl (h2 p (List.contains_iff_mem.mp c) p (List.mem_singleton.mpr rfl))
    · rintro ⟨h1, h2⟩
      refine ⟨h1, List.pairwise_singleton _ _, fun a ha b hb e => ?_⟩
      rw [List.mem_singleton.mp hb] at e
      rw [List.contains_iff_mem.mpr (e ▸ ha)] at h2
      cases h2
  exact Bool.eq_iff_iff.mpr z
theorem isTrue_snoc (k s : Nat) (w : List Nat) : Sh19.isTrue k (w ++ [s]) = (Sh19.isTrue k w && !(Sh19.walk k w).contains (Sh19.go k (Sh19.ending k w) s)) := by
  unfold Sh19.isTrue
  rw [walk_snoc, distinct_snoc]
/-- the steps on which a walk goes on true -/
def goOn (k : Nat) (w : List Nat) : List Nat := (List.range (Sh19.ways k)).filter fun s => !(Sh19.walk k w).contains (Sh19.go k (Sh19.ending k w) s)
theorem trues_snoc (k n : Nat) : Sh19.trues k (n + 1) = (Sh19.trues k n).flatMap fun w => (goOn k w).map fun s => w ++ [s] :=
  rows_filter (q := Sh19.isTrue k) fun r s _ => isTrue_snoc k s r
theorem trues_zero (k : Nat) : Sh19.trues k 0 = [[]] := rfl
theorem walk_cons (k : Nat) (w : List Nat) : ∃ l, Sh19.walk k w = (0, 0) :: l := by
  cases w with
  | nil => exact ⟨[], rfl⟩
  | cons s r => exact ⟨_, rfl⟩
/-- a ring: a true walk, and home with one step more -/
theorem isRing_snoc (k s : Nat) (w : List Nat) : Sh19.isRing k (w ++ [s]) = (decide (2 ≤ w.length) && (Sh19.isTrue k w && (Sh19.go k (Sh19.ending k w) s == (0, 0)))) := by
  obtain ⟨l, hl⟩ := walk_cons k w
  unfold Sh19.isRing Sh19.isTrue
  rw [ending_snoc, walk_snoc, hl]
  have e1 : decide (3 ≤ (w ++ [s]).length) = decide (2 ≤ w.length) := decide_eq_decide.mpr (by rw [List.length_append, List.length_singleton]; omega)
  rw [e1]
  cases c : (Sh19.go k (Sh19.ending k w) s == (0, 0)) with
  | false => simp
  | true =>
    have e2 : Sh19.go k (Sh19.ending k w) s = (0, 0) := eq_of_beq c
    have e3 : ((((0, 0) : Sh19.Place) :: l) ++ [Sh19.go k (Sh19.ending k w) s]).drop 1 = l ++ [(0, 0)] := by rw [e2]; rfl
    rw [e3, distinct_snoc]
    have e4 : Sh19.distinct (((0, 0) : Sh19.Place) :: l) = (!l.contains (0, 0) && Sh19.distinct l) := rfl
    rw [e4, Bool.true_and, Bool.and_true, Bool.and_comm (Sh19.distinct l)]
end NB
namespace NB
/-! ### rows stand in order -/
theorem after_cons (a b : Nat) (r s : List Nat) : Sh19.after (a :: r) (b :: s) = (decide (a < b) || (a == b && Sh19.after r s)) := rfl
theorem rows_order (b : Nat) : ∀ n, (Sh19.rows b n).Pairwise fun u v => Sh19.after u v = true
  | 0 => List.pairwise_singleton _ _
  | n + 1 => by
    rw [rows_succ, List.pairwise_flatMap]
    refine ⟨fun s _ => List.pairwise_map.mpr (List.Pairwise.imp (fun {u v} h => ?_) (rows_order b n)), List.Pairwise.imp (fun {s t} h x hx y hy => ?_) List.pairwise_lt_range⟩
    · rw [after_cons, h, beq_self_eq_true, Bool.true_and, Bool.or_true]
    · obtain ⟨u, _, rfl⟩ := List.mem_map.mp hx
      obtain ⟨v, _, rfl⟩ := List.mem_map.mp hy
      rw [after_cons, decide_eq_true h, Bool.true_or]
theorem trues_order (k n : Nat) : (Sh19.trues k n).Pairwise fun u v => Sh19.after u v = true := List.Pairwise.sublist List.filter_sublist (rows_order _ n)
/-- the first that is found is ahead of all others that would do -/
theorem first_least {k n : Nat} {w u : List Nat} (h : (Sh19.trues k n).find? (Sh19.after w) = some u) : (Sh19.trues k n).all (fun x => !Sh19.after w x || (x == u || Sh19.after u x)) = true := by
  obtain ⟨h1, l1, l2, h2, h3⟩ := List.find?_eq_some_iff_append.mp h
  have ord := trues_order k n
  rw [h2] at ord ⊢
  refine List.all_eq_true.mpr fun x hx => ?_
  rcases List.mem_append.mp hx with z | z
  · rw [h3 x z, Bool.true_or]
  · rcases List.mem_cons.mp z with e | e
    · rw [e, beq_self_eq_true, Bool.true_or, Bool.or_true]
    · have q := (List.pairwise_cons.mp (List.pairwise_append.mp ord).2.1).1 x e
      rw [q, Bool.or_true, Bool.or_true]
/-! ### what is due, call by call -/
theorem next_refused {k : Int} {ns : List Int} (hp : ∀ x ∈ ns, 0 ≤ x) (h : refu k ns ≠ 0) : PySh19.next_walk k ns = [refu k ns] := by
  have e1 := inR_walkOk k ns.length
  have e2 := okS_spec k.toNat ns hp
  have hl : (nat ns).length = ns.length := List.length_map _
  show (match (Sh19Neutral.does (.next k (nat ns))) with | none => [] | some a => a.v :: a.l) = _
  unfold Sh19Neutral.does refu at *
  dsimp only
  rw [hl, ← e1, ← e2]
  by_cases c : inR k ns.length = true
  · rw [if_pos c] at h ⊢
    by_cases d : okS k.toNat ns = true
    · rw [if_pos d] at h
      exact absurd rfl h
    · rw [if_neg d, if_neg (by rw [c]; decide), if_pos (by simpa using d)]
      rfl
  · rw [if_neg c, if_pos (by simpa using c)]
    rfl
theorem next_ok {k : Int} {ns : List Int} (hp : ∀ x ∈ ns, 0 ≤ x) (h : refu k ns = 0) :
    PySh19.next_walk k ns = match (Sh19.trues k.toNat ns.length).find? (Sh19.after (nat ns)) with | none => [-5] | some u => 0 :: Sh19.whole u := by
  obtain ⟨c, d⟩ := refu_zero h
  rw [inR_walkOk] at c
  rw [okS_spec k.toNat ns hp] at d
  have hl : (nat ns).length = ns.length := List.length_map _
  show (match (Sh19Neutral.does (.next k (nat ns))) with | none => [] | some a => a.v :: a.l) = _
  unfold Sh19Neutral.does
  dsimp only
  rw [hl, c, d, if_neg (by decide), if_neg (by decide)]
  cases e : (Sh19.trues k.toNat ns.length).find? (Sh19.after (nat ns)) with
  | none => rfl
  | some u =>
    dsimp only
    rw [if_pos (first_least e)]
/-- kind and n are in their ranges -/
def inC (k n : Int) (lo : Int) : Bool := decide (0 ≤ k) && decide (k ≤ 2) && (decide (lo ≤ n) && decide (n ≤ 16))
theorem count_due {k n : Int} (hn : 0 ≤ n) : PySh19.count k n = if 0 ≤ k ∧ k ≤ 2 ∧ n ≤ 16 then [(0 : Int), ((Sh19.count k.toNat n.toNat : Nat) : Int)] else [-2] := by
  show (match (some (if (Sh19.within k 0 2 && decide (n.toNat ≤ 16)) = false then Sh19.ok (-2) else ⟨0, [(Sh19.count k.toNat n.toNat : Nat)]⟩) : Option Sh19.Ans) with | none => [] | some a => a.v :: a.l) = _
  by_cases c : 0 ≤ k ∧ k ≤ 2 ∧ n ≤ 16
  · have e : (Sh19.within k 0 2 && decide (n.toNat ≤ 16)) = true := by
      unfold Sh19.within
      rw [decide_eq_true c.1, decide_eq_true c.2.1, decide_eq_true (show n.toNat ≤ 16 by omega)]
      rfl
    rw [if_pos c, e]
    rfl
  · have e : (Sh19.within k 0 2 && decide (n.toNat ≤ 16)) = false := by
      cases z : (Sh19.within k 0 2 && decide (n.toNat ≤ 16)) with
      | false => rfl
      | true =>
        unfold Sh19.within at z
        rw [Bool.and_eq_true, Bool.and_eq_true] at z
        have z1 := of_decide_eq_true z.1.1
        have z2 := of_decide_eq_true z.1.2
        have z3 := of_decide_eq_true z.2
        exact absurd ⟨z1, z2, by omega⟩ c
    rw [if_neg c, e]
    rfl
theorem rings_due {k n : Int} (hn : 0 ≤ n) : PySh19.rings k n = if 0 ≤ k ∧ k ≤ 2 ∧ 3 ≤ n ∧ n ≤ 16 then [(0 : Int), ((Sh19.rings k.toNat n.toNat : Nat) : Int)] else [-2] := by
  show (match (some (if (Sh19.within k 0 2 && (decide (3 ≤ n.toNat) && decide (n.toNat ≤ 16))) = false then Sh19.ok (-2) else ⟨0, [(Sh19.rings k.toNat n.toNat : Nat)]⟩) : Option Sh19.Ans) with | none => [] | some a => a.v :: a.l) = _
  by_cases c : 0 ≤ k ∧ k ≤ 2 ∧ 3 ≤ n ∧ n ≤ 16
  · have e : (Sh19.within k 0 2 && (decide (3 ≤ n.toNat) && decide (n.toNat ≤ 16))) = true := by
      unfold Sh19.within
      rw [decide_eq_true c.1, decide_eq_true c.2.1, decide_eq_true (show 3 ≤ n.toNat by omega), decide_eq_true (show n.toNat ≤ 16 by omega)]
      rfl
    rw [if_pos c, e]
    rfl
  · have e : (Sh19.within k 0 2 && (decide (3 ≤ n.toNat) && decide (n.toNat ≤ 16))) = false := by
      cases z : (Sh19.within k 0 2 && (decide (3 ≤ n.toNat) && decide (n.toNat ≤ 16))) with
      | false => rfl
      | true =>
        unfold Sh19.within at z
        rw [Bool.and_eq_true, Bool.and_eq_true, Bool.and_eq_true] at z
        have z1 := of_decide_eq_true z.1.1
        have z2 := of_decide_eq_true z.1.2
        have z3 := of_decide_eq_true z.2.1
        have z4 := of_decide_eq_true z.2.2
        exact absurd ⟨z1, z2, by omega, by omega⟩ c
    rw [if_neg c, e]
    rfl
theorem bridges_due {n : Int} (hn : 0 ≤ n) : PySh19.bridges n = if n ≤ 16 then [(0 : Int), ((Sh19.bridges n.toNat : Nat) : Int)] else [-2] := by
  show (match (some (if 16 < n.toNat then Sh19.ok (-2) else ⟨0, [(Sh19.bridges n.toNat : Nat)]⟩) : Option Sh19.Ans) with | none => [] | some a => a.v :: a.l) = _
  by_cases c : n ≤ 16
  · rw [if_pos c, if_neg (by omega)]
  · rw [if_neg c, if_pos (by omega)]
    rfl
theorem spread_due {n : Int} (hn : 0 ≤ n) : PySh19.spread n = if n ≤ 16 then [0, Sh19.spread n.toNat] else [-2] := by
  show (match (some (if 16 < n.toNat then Sh19.ok (-2) else ⟨0, [Sh19.spread n.toNat]⟩) : Option Sh19.Ans) with | none => [] | some a => a.v :: a.l) = _
  by_cases c : n ≤ 16
  · rw [if_pos c, if_neg (by omega)]
  · rw [if_neg c, if_pos (by omega)]
    rfl
/-- a turned step, by the rest of 4 as the program would reckon it -/
theorem turnStep_int {t s : Nat} (ht : t < 8) (hs : s < 4) : (Sh19.turnStep t s : Int) = if (t : Int) < 4 then ((s : Int) + t) % 4 else ((t : Int) - s) % 4 := by
  unfold Sh19.turnStep
  by_cases c : t < 4
  · rw [if_pos c, if_pos (by omega)]
    omega
  · rw [if_neg c, if_neg (by omega)]
    omega
theorem turn_due {a t : Int} {ns : List Int} (ha : 0 ≤ a) (ht : 0 ≤ t) : PySh19.turn a t ns =
    if ¬ (1 ≤ ns.length ∧ ns.length ≤ 4096 ∧ a < ns.length ∧ t < 8) then [-2] else if Sh19.stepsOk 0 (nat ns) = true ∧ Sh19.isTrue 0 (nat ns) = true then (if Sh19.isTrue 0 (Sh19.turned (nat ns) a.toNat t.toNat) = true then 1 else 0) :: Sh19.whole (Sh19.turned (nat ns) a.toNat t.toNat) else [-3] := by
  have hl : (nat ns).length = ns.length := List.length_map _
  show (match (some (if Sh19.turnOk (nat ns).length a.toNat t.toNat = false then Sh19.ok (-2) else if (Sh19.stepsOk 0 (nat ns) && Sh19.isTrue 0 (nat ns)) = false then Sh19.ok (-3) else ⟨if Sh19.isTrue 0 (Sh19.turned (nat ns) a.toNat t.toNat) = true then 1 else 0, Sh19.whole (Sh19.turned (nat ns) a.toNat t.toNat)⟩) : Option Sh19.Ans) with | none => [] | some a => a.v :: a.l) = _
  rw [hl]
  have z : Sh19.turnOk ns.length a.toNat t.toNat = true ↔ (1 ≤ ns.length ∧ ns.length ≤ 4096 ∧ a < ns.length ∧ t < 8) := by
    unfold Sh19.turnOk
    rw [Bool.and_eq_true, Bool.and_eq_true, Bool.and_eq_true, decide_eq_true_eq, decide_eq_true_eq, decide_eq_true_eq, decide_eq_true_eq]
    omega
  by_cases c : 1 ≤ ns.length ∧ ns.length ≤ 4096 ∧ a < ns.length ∧ t < 8
  · rw [z.2 c, if_neg (show ¬ true = false by decide), if_neg (show ¬ ¬ (1 ≤ ns.length ∧ ns.length ≤ 4096 ∧ a < ns.length ∧ t < 8) from fun y => y c)]
    by_cases d : Sh19.stepsOk 0 (nat ns) = true ∧ Sh19.isTrue 0 (nat ns) = true
    · rw [if_pos d, d.1, d.2]
      rfl
    · rw [if_neg d, if_pos]
      · rfl
      · cases y : (Sh19.stepsOk 0 (nat ns) && Sh19.isTrue 0 (nat ns)) with
        | false => rfl
        | true =>
          rw [Bool.and_eq_true] at y
          exact absurd y d
  · have y : Sh19.turnOk ns.length a.toNat t.toNat = false := by
      cases q : Sh19.turnOk ns.length a.toNat t.toNat with
      | false => rfl
      | true => exact absurd (z.1 q) c
    rw [y, if_pos rfl, if_pos c]
    rfl
/-! ### bridges by their last step -/
/-- a true walk on squares whose places but the first are right of 0 -/
def isFore (w : List Nat) : Bool := Sh19.isTrue 0 w && ((Sh19.walk 0 w).drop 1).all fun p => decide (0 < p.1)
theorem isBridge_fore (w : List Nat) : Sh19.isBridge w = (isFore w && (Sh19.walk 0 w).all fun p => decide (p.1 ≤ (Sh19.ending 0 w).1)) := rfl
theorem isFore_snoc (w : List Nat) (s : Nat) : isFore (w ++ [s]) = (isFore w && (!(Sh19.walk 0 w).contains (Sh19.go 0 (Sh19.ending 0 w) s) && decide (0 < (Sh19.go 0 (Sh19.ending 0 w) s).1))) := by
  obtain ⟨l, hl⟩ := walk_cons 0 w
  unfold isFore
  rw [isTrue_snoc, walk_snoc, hl]
  have e1 : ((((0, 0) : Sh19.Place) :: l) ++ [Sh19.go 0 (Sh19.ending 0 w) s]).drop 1 = l ++ [Sh19.go 0 (Sh19.ending 0 w) s] := rfl
  have e2 : ((((0, 0) : Sh19.Place) :: l)).drop 1 = l := rfl
  rw [e1, e2, List.all_append, List.all_cons, List.all_nil, Bool.and_true]
  generalize Sh19.isTrue 0 w = A
  generalize (!(((0, 0) : Sh19.Place) :: l).contains (Sh19.go 0 (Sh19.ending 0 w) s)) = B
  generalize l.all (fun p => decide (0 < p.1)) = C
  generalize decide (0 < (Sh19.go 0 (Sh19.ending 0 w) s).1) = D
  cases A <;> cases B <;> cases C <;> cases D <;> rfl
end NB
namespace NB
/-! ### how many ways on (no Python) -/
/-- how many true ways on there are, of n steps more -/
def cntW (k : Nat) : Nat → List Nat → Nat
  | 0, _ => 1
  | n + 1, w => ((goOn k w).map fun s => cntW k n (w ++ [s])).sum
theorem sum_flat {α β : Type} (f : α → List β) (g : β → Nat) : ∀ l : List α, ((l.flatMap f).map g).sum = (l.map fun x => ((f x).map g).sum).sum
  | [] => rfl
  | x :: r => by rw [List.flatMap_cons, List.map_append, List.sum_append, sum_flat f g r, List.map_cons, List.sum_cons]
theorem sum_ones {α : Type} : ∀ l : List α, (l.map fun _ => 1).sum = l.length
  | [] => rfl
  | x :: r => by
    rw [List.map_cons, List.sum_cons, sum_ones r, List.length_cons]
    omega
theorem cntW_trues (k : Nat) : ∀ n m, ((Sh19.trues k m).map (cntW k n)).sum = (Sh19.trues k (m + n)).length
  | 0, m => sum_ones _
  | n + 1, m => by
    have e : m + (n + 1) = m + 1 + n := by omega
    rw [e, ← cntW_trues k n (m + 1), trues_snoc, sum_flat]
    congr 1
    refine List.map_congr_left fun w _ => ?_
    rw [List.map_map]
    rfl
theorem cntW_count (k n : Nat) : cntW k n [] = Sh19.count k n := by
  have q := cntW_trues k n 0
  rw [trues_zero, Nat.zero_add, List.map_cons, List.map_nil, List.sum_cons, List.sum_nil, Nat.add_zero] at q
  exact q
/-- the steps from number l on that lead from q to none of these places -/
def opn (k l : Nat) (ps : List Sh19.Place) (q : Sh19.Place) : List Nat := (List.range' l (Sh19.ways k - l)).filter fun s => !ps.contains (Sh19.go k q s)
theorem opn_goOn (k : Nat) (w : List Nat) : opn k 0 (Sh19.walk k w) (Sh19.ending k w) = goOn k w := by
  unfold opn goOn
  rw [Nat.sub_zero, List.range_eq_range']
theorem mem_opn {k l s : Nat} {ps : List Sh19.Place} {q : Sh19.Place} : s ∈ opn k l ps q ↔ (l ≤ s ∧ s < Sh19.ways k) ∧ ¬ Sh19.go k q s ∈ ps := by
  unfold opn
  rw [List.mem_filter, List.mem_range'_1]
  constructor
  · rintro ⟨⟨h1, h2⟩, h3⟩
    refine ⟨⟨h1, by omega⟩, fun c => ?_⟩
    rw [List.contains_iff_mem.mpr c] at h3
    cases h3
  · rintro ⟨⟨h1, h2⟩, h3⟩
    refine ⟨⟨h1, by omega⟩, ?_⟩
    cases c : ps.contains (Sh19.go k q s) with
    | false => rfl
    | true => exact absurd (List.contains_iff_mem.mp c) h3
theorem opn_first {k l f : Nat} {r : List Nat} {ps : List Sh19.Place} {q : Sh19.Place} (h : opn k l ps q = f :: r) : ∀ s ∈ opn k l ps q, f ≤ s := by
  have o : (opn k l ps q).Pairwise (· < ·) := List.Pairwise.sublist List.filter_sublist List.pairwise_lt_range'
  rw [h] at o ⊢
  intro s hs
  rcases List.mem_cons.mp hs with e | e
  · rw [e]
    exact Nat.le_refl _
  · exact Nat.le_of_lt ((List.pairwise_cons.mp o).1 s e)
/-- one more of the range -/
theorem range_filter_snoc (p : Nat → Bool) (l i : Nat) : (List.range' l (i + 1)).filter p = (List.range' l i).filter p ++ (if p (l + i) = true then [l + i] else []) := by
  rw [List.range'_concat, List.filter_append, Nat.one_mul]
  cases c : p (l + i) with
  | true => rw [if_pos rfl, List.filter_cons_of_pos c, List.filter_nil]
  | false => rw [if_neg Bool.false_ne_true, List.filter_cons_of_neg (by rw [c]; exact Bool.false_ne_true), List.filter_nil]
end NB
namespace NB
/-! ### the next true walk (no Python) -/
/-- u is at, or comes after, w and then number l -/
def geq : List Nat → Nat → List Nat → Bool
  | [], l, x :: _ => decide (l ≤ x)
  | [], _, [] => true
  | a :: w, l, x :: u => decide (a < x) || (a == x && geq w l u)
  | _ :: _, _, [] => false
theorem geq_cons (a : Nat) (w : List Nat) (l x : Nat) (u : List Nat) : geq (a :: w) l (x :: u) = true ↔ a < x ∨ (a = x ∧ geq w l u = true) := by
  show (decide (a < x) || (a == x && geq w l u)) = true ↔ _
  rw [Bool.or_eq_true, Bool.and_eq_true, decide_eq_true_eq, beq_iff_eq]
theorem after_iff (a : Nat) (w : List Nat) (x : Nat) (u : List Nat) : Sh19.after (a :: w) (x :: u) = true ↔ a < x ∨ (a = x ∧ Sh19.after w u = true) := by
  show (decide (a < x) || (a == x && Sh19.after w u)) = true ↔ _
  rw [Bool.or_eq_true, Bool.and_eq_true, decide_eq_true_eq, beq_iff_eq]
theorem geq_nil0 : ∀ u : List Nat, geq [] 0 u = true
  | [] => rfl
  | _ :: _ => decide_eq_true (Nat.zero_le _)
theorem geq_mono {l f : Nat} (h : l ≤ f) : ∀ (t u : List Nat), geq t f u = true → geq t l u = true
  | [], [], _ => rfl
  | [], x :: _, q => decide_eq_true (Nat.le_trans h (of_decide_eq_true q))
  | _ :: _, [], q => nomatch q
  | a :: t, x :: u, q => by
    rw [geq_cons] at q ⊢
    rcases q with q | ⟨e, q⟩
    · exact .inl q
    · exact .inr ⟨e, geq_mono h t u q⟩
theorem geq_low {l f : Nat} : ∀ (t u : List Nat), t.length < u.length → geq t l u = true → geq t f u = true ∨ ∃ x u', u = t ++ x :: u' ∧ l ≤ x ∧ x < f
  | [], [], z, _ => absurd z (by simp)
  | [], x :: u, _, q => by
    by_cases c : f ≤ x
    · exact .inl (decide_eq_true c)
    · exact .inr ⟨x, u, rfl, of_decide_eq_true q, by omega⟩
  | _ :: _, [], _, q => nomatch q
  | a :: t, x :: u, z, q => by
    rw [geq_cons] at q
    rcases q with q | ⟨e, q⟩
    · exact .inl ((geq_cons ..).2 (.inl q))
    · rcases geq_low t u (by simpa using z) q with c | ⟨y, u', e', c⟩
      · exact .inl ((geq_cons ..).2 (.inr ⟨e, c⟩))
      · exact .inr ⟨y, u', by rw [e', e]; rfl, c⟩
theorem geq_split {a l : Nat} : ∀ (t u : List Nat), geq (t ++ [a]) l u = true → geq t (a + 1) u = true ∨ ∃ u', u = t ++ a :: u' ∧ geq [] l u' = true
  | [], [], q => nomatch q
  | [], x :: u, q => by
    have q : geq (a :: []) l (x :: u) = true := q
    rw [geq_cons] at q
    rcases q with q | ⟨e, q⟩
    · exact .inl (decide_eq_true q)
    · exact .inr ⟨u, by rw [e]; rfl, q⟩
  | _ :: _, [], q => nomatch q
  | b :: t, x :: u, q => by
    have q : geq (b :: (t ++ [a])) l (x :: u) = true := q
    rw [geq_cons] at q
    rcases q with q | ⟨e, q⟩
    · exact .inl ((geq_cons ..).2 (.inl q))
    · rcases geq_split t u q with c | ⟨u', e', c⟩
      · exact .inl ((geq_cons ..).2 (.inr ⟨e, c⟩))
      · exact .inr ⟨u', by rw [e', e]; rfl, c⟩
theorem geq_join {a l : Nat} : ∀ (t u : List Nat), t.length < u.length → geq t (a + 1) u = true → geq (t ++ [a]) l u = true
  | [], [], z, _ => absurd z (by simp)
  | [], x :: u, _, q => (geq_cons ..).2 (.inl (of_decide_eq_true q))
  | _ :: _, [], _, q => nomatch q
  | b :: t, x :: u, z, q => by
    rw [geq_cons] at q
    show geq (b :: (t ++ [a])) l (x :: u) = true
    rw [geq_cons]
    rcases q with q | ⟨e, q⟩
    · exact .inl q
    · exact .inr ⟨e, geq_join t u (by simpa using z) q⟩
/-- then number f, or w and f -/
theorem geq_snoc0 {f : Nat} : ∀ (t u : List Nat), t.length < u.length → geq (t ++ [f]) 0 u = geq t f u
  | [], [], z => absurd z (by simp)
  | [], x :: u, _ => by
    refine Bool.eq_iff_iff.mpr ?_
    show geq (f :: []) 0 (x :: u) = true ↔ decide (f ≤ x) = true
    rw [geq_cons, decide_eq_true_eq]
    constructor
    · rintro (h | ⟨h, _⟩) <;> omega
    · intro h
      by_cases c : f < x
      · exact .inl c
      · exact .inr ⟨by omega, geq_nil0 u⟩
  | _ :: _, [], z => absurd z (by simp)
  | b :: t, x :: u, z => by
    show (decide (b < x) || (b == x && geq (t ++ [f]) 0 u)) = (decide (b < x) || (b == x && geq t f u))
    rw [geq_snoc0 t u (by simpa using z)]
theorem after_split {a : Nat} {r : List Nat} : ∀ (t u : List Nat), Sh19.after (t ++ a :: r) u = true → geq t (a + 1) u = true ∨ ∃ u', u = t ++ a :: u' ∧ Sh19.after r u' = true
  | [], [], q => nomatch q
  | [], x :: u, q => by
    have q : Sh19.after (a :: r) (x :: u) = true := q
    rw [after_iff] at q
    rcases q with q | ⟨e, q⟩
    · exact .inl (decide_eq_true q)
    · exact .inr ⟨u, by rw [e]; rfl, q⟩
  | _ :: _, [], q => nomatch q
  | b :: t, x :: u, q => by
    have q : Sh19.after (b :: (t ++ a :: r)) (x :: u) = true := q
    rw [after_iff] at q
    rcases q with q | ⟨e, q⟩
    · exact .inl ((geq_cons ..).2 (.inl q))
    · rcases after_split t u q with c | ⟨u', e', c⟩
      · exact .inl ((geq_cons ..).2 (.inr ⟨e, c⟩))
      · exact .inr ⟨u', by rw [e', e]; rfl, c⟩
theorem after_join {a : Nat} {r : List Nat} : ∀ (t u : List Nat), t.length < u.length → geq t (a + 1) u = true → Sh19.after (t ++ a :: r) u = true
  | [], [], z, _ => absurd z (by simp)
  | [], x :: u, _, q => (after_iff ..).2 (.inl (of_decide_eq_true q))
  | _ :: _, [], _, q => nomatch q
  | b :: t, x :: u, z, q => by
    rw [geq_cons] at q
    show Sh19.after (b :: (t ++ a :: r)) (x :: u) = true
    rw [after_iff]
    rcases q with q | ⟨e, q⟩
    · exact .inl q
    · exact .inr ⟨e, after_join t u (by simpa using z) q⟩
/-- of one length: the same, or after it -/
theorem geq_same {l : Nat} : ∀ (t u : List Nat), t.length = u.length → (geq t l u = true ↔ u = t ∨ Sh19.after t u = true)
  | [], [], _ => ⟨fun _ => .inl rfl, fun _ => rfl⟩
  | [], _ :: _, z => absurd z (by simp)
  | _ :: _, [], z => absurd z (by simp)
  | a :: t, x :: u, z => by
    rw [geq_cons, after_iff, geq_same t u (by simpa using z)]
    constructor
    · rintro (h | ⟨rfl, rfl | h⟩)
      · exact .inr (.inl h)
      · exact .inl rfl
      · exact .inr (.inr ⟨rfl, h⟩)
    · rintro (h | h | ⟨e, h⟩)
      · injection h with h1 h2
        exact .inr ⟨h1.symm, .inl h2⟩
      · exact .inl h
      · exact .inr ⟨e, .inr h⟩
theorem after_asym : ∀ (t u : List Nat), Sh19.after t u = true → ¬ (t = u ∨ Sh19.after u t = true)
  | [], _, q => nomatch q
  | _ :: _, [], q => nomatch q
  | a :: t, x :: u, q => by
    rw [after_iff] at q ⊢
    rintro (e | c | ⟨e, c⟩)
    · injection e with e1 e2
      rcases q with q | ⟨_, q⟩
      · omega
      · exact after_asym t u q (.inl e2)
    · rcases q with q | ⟨e, q⟩ <;> omega
    · rcases q with q | ⟨_, q⟩
      · omega
      · exact after_asym t u q (.inr c)
/-! true walks and their beginnings -/
theorem true_prefix {k : Nat} : ∀ (b a : List Nat), Sh19.isTrue k (a ++ b) = true → Sh19.isTrue k a = true
  | [], a, h => by rwa [List.append_nil] at h
  | s :: r, a, h => by
    have e : a ++ s :: r = (a ++ [s]) ++ r := by rw [List.append_assoc]; rfl
    rw [e] at h
    have q := true_prefix r (a ++ [s]) h
    rw [isTrue_snoc, Bool.and_eq_true] at q
    exact q.1
theorem mem_trues {k n : Nat} {u : List Nat} : u ∈ Sh19.trues k n ↔ (u.length = n ∧ ∀ s ∈ u, s < Sh19.ways k) ∧ Sh19.isTrue k u = true := by
  unfold Sh19.trues
  rw [List.mem_filter, mem_rows]
/-- a true walk goes on by an open step -/
theorem opn_of_true {k n l x : Nat} {t u' : List Nat} (h : t ++ x :: u' ∈ Sh19.trues k n) (hl : l ≤ x) : x ∈ opn k l (Sh19.walk k t) (Sh19.ending k t) := by
  obtain ⟨⟨_, h2⟩, h3⟩ := mem_trues.mp h
  rw [mem_opn]
  refine ⟨⟨hl, h2 x (List.mem_append_right _ List.mem_cons_self)⟩, fun c => ?_⟩
  have e : t ++ x :: u' = (t ++ [x]) ++ u' := by rw [List.append_assoc]; rfl
  rw [e] at h3
  have q := true_prefix u' (t ++ [x]) h3
  rw [isTrue_snoc, List.contains_iff_mem.mpr c, Bool.not_true, Bool.and_false] at q
  cases q
/-- where the search stands: w is what was handed in -/
structure Seek (k n : Nat) (w t : List Nat) (l : Nat) : Prop where
  tr : Sh19.isTrue k t = true
  st : ∀ s ∈ t, s < Sh19.ways k
  ln : t.length ≤ n
  ll : l ≤ Sh19.ways k
  eq : ∀ u ∈ Sh19.trues k n, Sh19.after w u = geq t l u
theorem Seek.deeper {k n l f : Nat} {w t r : List Nat} (S : Seek k n w t l) (hn : t.length < n) (h : opn k l (Sh19.walk k t) (Sh19.ending k t) = f :: r) : Seek k n w (t ++ [f]) 0 := by
  have hf : f ∈ opn k l (Sh19.walk k t) (Sh19.ending k t) := by rw [h]; exact List.mem_cons_self
  obtain ⟨⟨f1, f2⟩, f3⟩ := mem_opn.mp hf
  refine ⟨?_, fun s hs => ?_, by rw [List.length_append, List.length_singleton]; omega, Nat.zero_le _, fun u hu => ?_⟩
  · rw [isTrue_snoc, S.tr, Bool.true_and]
    cases c : (Sh19.walk k t).contains (Sh19.go k (Sh19.ending k t) f) with
    | false => rfl
    | true => exact absurd (List.contains_iff_mem.mp c) f3
  · rcases List.mem_append.mp hs with e | e
    · exact S.st s e
    · rw [List.mem_singleton.mp e]
      exact f2
  · have lu : u.length = n := (mem_trues.mp hu).1.1
    rw [S.eq u hu, geq_snoc0 t u (by omega)]
    refine Bool.eq_iff_iff.mpr ⟨fun q => ?_, geq_mono f1 t u⟩
    rcases geq_low (f := f) t u (by omega) q with c | ⟨x, u', rfl, x1, x2⟩
    · exact c
    · have := opn_first h x (opn_of_true hu x1)
      omega
theorem Seek.back {k n l a : Nat} {w t : List Nat} (S : Seek k n w (t ++ [a]) l) (hn : (t ++ [a]).length < n) (h : opn k l (Sh19.walk k (t ++ [a])) (Sh19.ending k (t ++ [a])) = []) : Seek k n w t (a + 1) := by
  have ln : (t ++ [a]).length = t.length + 1 := by rw [List.length_append, List.length_singleton]
  refine ⟨true_prefix [a] t S.tr, fun s hs => S.st s (List.mem_append_left _ hs), by omega, S.st a (List.mem_append_right _ (List.mem_singleton.mpr rfl)), fun u hu => ?_⟩
  have lu : u.length = n := (mem_trues.mp hu).1.1
  rw [S.eq u hu]
  refine Bool.eq_iff_iff.mpr ⟨fun q => ?_, geq_join t u (by omega)⟩
  rcases geq_split t u q with c | ⟨u', rfl, c⟩
  · exact c
  · exfalso
    cases u' with
    | nil =>
      rw [List.length_append, List.length_cons, List.length_nil] at lu
      omega
    | cons x u'' =>
      have e : t ++ a :: x :: u'' = (t ++ [a]) ++ x :: u'' := by rw [List.append_assoc]; rfl
      rw [e] at hu
      have q := opn_of_true hu (of_decide_eq_true c)
      rw [h] at q
      exact absurd q List.not_mem_nil
theorem Seek.none {k n l : Nat} {w : List Nat} (S : Seek k n w [] l) (hn : 0 < n) (h : opn k l (Sh19.walk k []) (Sh19.ending k []) = []) : (Sh19.trues k n).find? (Sh19.after w) = none := by
  rw [List.find?_eq_none]
  intro u hu q
  rw [S.eq u hu] at q
  have lu : u.length = n := (mem_trues.mp hu).1.1
  cases u with
  | nil => exact absurd lu (by simp; omega)
  | cons x u' =>
    have z := opn_of_true (t := []) hu (of_decide_eq_true q)
    rw [h] at z
    exact absurd z List.not_mem_nil
theorem Seek.done {k n l : Nat} {w t : List Nat} (S : Seek k n w t l) (hn : t.length = n) : (Sh19.trues k n).find? (Sh19.after w) = some t := by
  have ht : t ∈ Sh19.trues k n := mem_trues.mpr ⟨⟨hn, S.st⟩, S.tr⟩
  have hw : Sh19.after w t = true := by
    rw [S.eq t ht]
    exact (geq_same t t rfl).2 (.inl rfl)
  obtain ⟨as, bs, e⟩ := List.append_of_mem ht
  have ord := trues_order k n
  rw [List.find?_eq_some_iff_append]
  refine ⟨hw, as, bs, e, fun a ha => ?_⟩
  have hm : a ∈ Sh19.trues k n := by rw [e]; exact List.mem_append_left _ ha
  rw [e] at ord
  have q := (List.pairwise_append.mp ord).2.2 a ha t List.mem_cons_self
  cases c : Sh19.after w a with
  | false => rfl
  | true =>
    rw [S.eq a hm] at c
    have la : a.length = n := (mem_trues.mp hm).1.1
    exact absurd ((geq_same t a (by omega)).1 c) (after_asym a t q)
/-! the search comes to an end -/
def cost (b : Nat) : List Nat → Nat → Nat → Nat
  | [], l, j => (b - l) * (b + 2) ^ j + 1
  | _ :: _, _, 0 => 0
  | a :: w, l, j + 1 => (b - 1 - a) * (b + 2) ^ (j + 1) + 1 + cost b w l j
theorem cost_deeper {b l f : Nat} (h1 : l ≤ f) (h2 : f < b) : ∀ (t : List Nat) (n : Nat), t.length < n → cost b (t ++ [f]) 0 n < cost b t l n
  | [], 0, z => absurd z (by simp)
  | [], j + 1, _ => by
    show (b - 1 - f) * (b + 2) ^ (j + 1) + 1 + ((b - 0) * (b + 2) ^ j + 1) < (b - l) * (b + 2) ^ (j + 1) + 1
    have e : (b + 2) ^ (j + 1) = b * (b + 2) ^ j + 2 * (b + 2) ^ j := by rw [Nat.pow_succ, Nat.mul_comm, Nat.add_mul]
    have p : 0 < (b + 2) ^ j := Nat.pow_pos (by omega)
    have m : (b - 1 - f + 1) * (b + 2) ^ (j + 1) ≤ (b - l) * (b + 2) ^ (j + 1) := Nat.mul_le_mul_right _ (by omega)
    rw [Nat.add_mul, Nat.one_mul] at m
    rw [Nat.sub_zero]
    omega
  | _ :: _, 0, z => absurd z (by simp)
  | a :: t, j + 1, z => by
    have ih := cost_deeper h1 h2 t j (by simpa using z)
    show (b - 1 - a) * (b + 2) ^ (j + 1) + 1 + cost b (t ++ [f]) 0 j < (b - 1 - a) * (b + 2) ^ (j + 1) + 1 + cost b t l j
    omega
theorem cost_back {b l a : Nat} : ∀ (t : List Nat) (n : Nat), t.length < n → cost b t (a + 1) n < cost b (t ++ [a]) l n
  | [], 0, z => absurd z (by simp)
  | [], j + 1, _ => by
    show (b - (a + 1)) * (b + 2) ^ (j + 1) + 1 < (b - 1 - a) * (b + 2) ^ (j + 1) + 1 + ((b - l) * (b + 2) ^ j + 1)
    have e : b - (a + 1) = b - 1 - a := by omega
    rw [e]
    omega
  | _ :: _, 0, z => absurd z (by simp)
  | c :: t, j + 1, z => by
    have ih := cost_back (b := b) (l := l) (a := a) t j (by simpa using z)
    show (b - 1 - c) * (b + 2) ^ (j + 1) + 1 + cost b t (a + 1) j < (b - 1 - c) * (b + 2) ^ (j + 1) + 1 + cost b (t ++ [a]) l j
    omega
/-! where the search starts -/
/-- d places from the first on differ, and then one comes again, or there is none -/
structure Dif (ps : List Sh19.Place) (d : Nat) : Prop where
  le : d ≤ ps.length
  nd : Sh19.distinct (ps.take d) = true
  nx : d = ps.length ∨ ∃ q, ps[d]? = some q ∧ q ∈ ps.take d
theorem walk_take (k : Nat) : ∀ (r t : List Nat), (Sh19.walk k (t ++ r)).take (t.length + 1) = Sh19.walk k t
  | [], t => by
    rw [List.append_nil]
    exact List.take_of_length_le (by rw [walk_len]; exact Nat.le_refl _)
  | s :: r, t => by
    have e : t ++ s :: r = (t ++ [s]) ++ r := by rw [List.append_assoc]; rfl
    have ih := walk_take k r (t ++ [s])
    rw [← e] at ih
    have q := congrArg (List.take (t.length + 1)) ih
    rw [List.take_take, List.length_append, List.length_singleton, Nat.min_eq_left (by omega), walk_snoc, List.take_append_of_le_length (by rw [walk_len]; exact Nat.le_refl _)] at q
    rw [q]
    exact List.take_of_length_le (by rw [walk_len]; exact Nat.le_refl _)
theorem Dif.pos {k d : Nat} {w : List Nat} (D : Dif (Sh19.walk k w) d) : 0 < d := by
  rcases D.nx with h | ⟨q, _, h⟩
  · rw [h, walk_len]
    omega
  · cases d with
    | zero => exact absurd h (by simp)
    | succ d => omega
theorem nodup_take {l : List Sh19.Place} {m d : Nat} (h : m ≤ d) (nd : Sh19.distinct (l.take d) = true) : Sh19.distinct (l.take m) = true := by
  rw [distinct_nodup] at nd ⊢
  have e : l.take m = (l.take d).take m := by rw [List.take_take, Nat.min_eq_left h]
  rw [e]
  exact List.Nodup.sublist (List.take_sublist _ _) nd
theorem Seek.start {k d a : Nat} {t r : List Nat} (ok : ∀ s ∈ t ++ a :: r, s < Sh19.ways k) (D : Dif (Sh19.walk k (t ++ a :: r)) d) (hm : t.length + 1 = min d (t ++ a :: r).length) : Seek k (t ++ a :: r).length (t ++ a :: r) t (a + 1) := by
  have ln : (t ++ a :: r).length = t.length + 1 + r.length := by rw [List.length_append, List.length_cons]; omega
  refine ⟨?_, fun s hs => ok s (List.mem_append_left _ hs), by omega, ok a (List.mem_append_right _ List.mem_cons_self), fun u hu => ?_⟩
  · unfold Sh19.isTrue
    rw [← walk_take k (a :: r) t]
    exact nodup_take (by omega) D.nd
  · have lu : u.length = (t ++ a :: r).length := (mem_trues.mp hu).1.1
    refine Bool.eq_iff_iff.mpr ⟨fun q => ?_, after_join t u (by omega)⟩
    rcases after_split t u q with c | ⟨u', rfl, c⟩
    · exact c
    · exfalso
      rcases D.nx with h | ⟨p, h1, h2⟩
      · rw [walk_len] at h
        have : r = [] := List.eq_nil_of_length_eq_zero (by omega)
        subst this
        cases u' <;> exact nomatch c
      · by_cases z : d = t.length + 1
        · have e : t ++ a :: u' = (t ++ [a]) ++ u' := by rw [List.append_assoc]; rfl
          have tr := (mem_trues.mp hu).2
          rw [e] at tr
          have tr := true_prefix u' (t ++ [a]) tr
          have e2 : t ++ a :: r = (t ++ [a]) ++ r := by rw [List.append_assoc]; rfl
          have wt := walk_take k r (t ++ [a])
          rw [← e2, List.length_append, List.length_singleton, take_snoc (x := p) (by rw [← z]; exact h1)] at wt
          unfold Sh19.isTrue at tr
          rw [← wt, distinct_snoc, ← z, List.contains_iff_mem.mpr h2, Bool.not_true, Bool.and_false] at tr
          cases tr
        · have : r = [] := List.eq_nil_of_length_eq_zero (by omega)
          subst this
          cases u' <;> exact nomatch c
end NB
namespace NB
open PySem PySem.Spec PyProof.Rows L2
open PySem.W (Codec)
/-! ### the text -/
def top (i : Nat) : Stmt := PySem.Challenge.pw_neverback_s03_next_walk.main.body.getD i (.Pass ⟨0, 0, 0, 0⟩)
/-! ### what the top has written -/
/-- a tuple of the written part -/
def TupK (K : PySem.W.Frag) (a : Addr) (xs : List V) : Prop := SqT K (fun _ => none) a xs
theorem TupK.sq {K : PySem.W.Frag} {a : Addr} {xs : List V} (h : TupK K a xs) (H : Hp) : SqT K H a xs := by
  rcases h with z | z
  · rcases z with z | ⟨o, z⟩ <;> cases z
  · exact .inr z
structure Txt (K : PySem.W.Frag) (mg : Str → Option Value) (M : Addr) : Prop where
  len : mg "len" = none
  gH : ∃ t, mg "HONEYCOMB" = some (.int 2 t)
  gM : mg "MOVES" = some (.ref M)
  mov : ∃ rows : List Addr, TupK K M (rows.map V.ref) ∧ rows.length = 3 ∧ ∀ k, k < 3 → ∃ (r : Addr) (cs : List Addr), rows[k]? = some r ∧ TupK K r (cs.map V.ref) ∧ cs.length = Sh19.ways k ∧
    ∀ s, s < Sh19.ways k → ∃ c, cs[s]? = some c ∧ TupK K c [.int (movAt k s).1, .int (movAt k s).2]
theorem pe_gi {X : Cx} {x : Str} {i : Int} {pos : Pos} (hg : Gl X x) (h : ∃ t, X.mg x = some (.int i t)) (hd : (x == ("__debug__" : Str)) = false := by decide) : PE X (.Name x pos) (tC (.int i)) := by
  obtain ⟨t, e⟩ := h
  exact pe_glob hg e ⟨t, rfl⟩ hd
/-- a def that can be called by its name -/
structure Cal (P : Program) (w : World) (K : PySem.W.Frag) (mg : Str → Option Value) (base : Heap) (k : Nat) (x : Str) (ps : List Str) (sp : Sp) : Prop where
  ex : ∃ (f : Addr) (fd : FuncData), FnOk P w K mg base CX0 k f fd ps sp ∧ PySem.W.keepIn K (.ref f) = true ∧ Binds K fd ps [] ∧ mg x = some (.ref f)
theorem pe_cal {X : Cx} {x : Str} {ps : List Str} {sp : Sp} {k : Nat} {e : Expr} {es : List Expr} {p pos : Pos} {t : TA} (C : Cal X.prog X.w X.K X.mg X.base k x ps sp) (hr : Room k X.A) (ha : PA X (e :: es) t) (hg : Gl X x := by rfl) (hdb : (x == ("__debug__" : Str)) = false := by decide)
    (he : starEach (e :: es) X.env = (false, eval e X.env) :: starEach es X.env := by rfl) (hpl : (backTo pos (starEach es X.env)).any (·.1) = false := by rfl) : PE X (.Call (.Name x p) (e :: es) [] pos) (tCall sp [] E0 t) := by
  obtain ⟨f, fd, F, kp, b, j⟩ := C.ex
  exact pe_call F hr hg j kp b .nil pass0 ha hdb he hpl
theorem if_t {c : Bool} {A B : Prop} (hc : c = true) (h : A) : if c = true then A else B := by
  rw [if_pos hc]
  exact h
theorem if_f {c : Bool} {A B : Prop} (hc : c = false) (h : B) : if c = true then A else B := by
  rw [hc, if_neg Bool.false_ne_true]
  exact h
theorem at_of {α : Type} {xs : List α} {k : Int} {v : α} (h0 : 0 ≤ k) (h : xs[k.toNat]? = some v) : atI xs k = some v := by
  have q := atI_nat h
  rw [Int.toNat_of_nonneg h0] at q
  exact q
theorem get_ref {l : List Addr} {i : Nat} {r : Addr} (h : l[i]? = some r) : (l.map V.ref)[i]? = some (.ref r) := by
  rw [List.getElem?_map, h]
  rfl
theorem get_int {ns : List Int} {i : Nat} {y : V} (h : (ns.map V.int)[i]? = some y) : ∃ z, ns[i]? = some z ∧ y = .int z := by
  rw [List.getElem?_map] at h
  cases e : ns[i]? with
  | none =>
    rw [e] at h
    cases h
  | some z =>
    rw [e] at h
    exact ⟨z, rfl, (Option.some.inj h).symm⟩
theorem same_new {H : Hp} {q : Addr} {o : HO} (hq : H q = none) : Same H (upd H q o) := fun b u e => by
  rw [upd_ne (ne_of_none e hq)]
  exact e
/-- what a def's own new object becomes does not touch what stood before -/
theorem same_at {H H' : Hp} {q : Addr} {o : HO} (s : Same H H') (hq : H q = none) : Same H (upd H' q o) := fun b u e => by
  rw [upd_ne (ne_of_none e hq)]
  exact s b u e
/-- the list at p holds tuples, one a place -/
structure Lies (H : Hp) (p : Addr) (ps : List (Int × Int)) : Prop where
  ex : ∃ cs : List Addr, H p = some (.lst (cs.map V.ref)) ∧ cs.length = ps.length ∧ ∀ (i : Nat) (c : Addr) (q : Int × Int), cs[i]? = some c → ps[i]? = some q → H c = some (.tup [.int q.1, .int q.2])
theorem Lies.same {H H' : Hp} {p : Addr} {ps : List (Int × Int)} (s : Same H H') (h : Lies H p ps) : Lies H' p ps := by
  obtain ⟨cs, h1, h2, h3⟩ := h.ex
  exact ⟨cs, s _ _ h1, h2, fun i c q a b => s _ _ (h3 i c q a b)⟩
theorem Lies.last {H : Hp} {p : Addr} {l : List (Int × Int)} {q : Int × Int} (h : Lies H p (l ++ [q])) : ∃ (cs : List Addr) (c : Addr), H p = some (.lst (cs.map V.ref)) ∧ atI (cs.map V.ref) (-1) = some (.ref c) ∧ H c = some (.tup [.int q.1, .int q.2]) := by
  obtain ⟨cs, hcs, hlen, hall⟩ := h.ex
  rw [List.length_append, List.length_singleton] at hlen
  have hlt : l.length < cs.length := by omega
  have hc : cs[l.length]? = some cs[l.length] := List.getElem?_eq_getElem hlt
  have hC := hall l.length cs[l.length] q hc (by rw [List.getElem?_append_right (Nat.le_refl _), Nat.sub_self]; rfl)
  refine ⟨cs, cs[l.length], hcs, ?_, hC⟩
  have e : cs = cs.take l.length ++ [cs[l.length]] := by
    have q := take_snoc hc
    rw [List.take_of_length_le (by omega)] at q
    exact q
  have e2 : cs.map V.ref = (cs.take l.length).map V.ref ++ [V.ref cs[l.length]] := by
    have q := congrArg (List.map V.ref) e
    rw [List.map_append] at q
    exact q
  rw [e2]
  exact atI_last _ _
/-- one place more -/
theorem lies_snoc {H H' : Hp} {p' c : Addr} {ps : List (Int × Int)} {q : Int × Int} {cs : List Addr} (hl : cs.length = ps.length) (hall : ∀ (i : Nat) (c : Addr) (q : Int × Int), cs[i]? = some c → ps[i]? = some q → H c = some (.tup [.int q.1, .int q.2]))
    (hp : H' p' = some (.lst (cs.map V.ref ++ [.ref c]))) (hc : H' c = some (.tup [.int q.1, .int q.2])) (st : ∀ d x y, H d = some (.tup [.int x, .int y]) → H' d = some (.tup [.int x, .int y])) : Lies H' p' (ps ++ [q]) := by
  refine ⟨cs ++ [c], ?_, ?_, ?_⟩
  · rw [hp, List.map_append]
    rfl
  · rw [List.length_append, List.length_append, hl]
    rfl
  · intro j c' q' h1 h2
    by_cases hj : j < cs.length
    · rw [List.getElem?_append_left hj] at h1
      rw [List.getElem?_append_left (by rw [← hl]; exact hj)] at h2
      exact st _ _ _ (hall j c' q' h1 h2)
    · have hj2 : j = cs.length := by
        have := (List.getElem?_eq_some_iff.mp h1).1
        rw [List.length_append, List.length_singleton] at this
        omega
      subst hj2
      rw [List.getElem?_append_right (Nat.le_refl _), Nat.sub_self] at h1
      rw [List.getElem?_append_right (by rw [hl]; exact Nat.le_refl _), hl, Nat.sub_self] at h2
      have x1 : c = c' := Option.some.inj h1
      have x2 : q = q' := Option.some.inj h2
      subst x1
      subst x2
      exact hc
theorem at0 (a b : V) : atI [a, b] 0 = some a := at_of (Int.le_refl _) rfl
theorem at1 (a b : V) : atI [a, b] 1 = some b := at_of (by decide) rfl
theorem hu65 {A : Around} {k : Nat} (hr : Room k A) : A.units + 65 < cLine := by
  have := hr.un
  omega
/-! ### a place as data -/
def pD (z : Int × Int) : PyData := .tuple [.int z.1, .int z.2]
theorem pD_lay (z : Int × Int) : (pD z).canLay0 = true := by simp [pD, PyData.canLay0, PyData.canLayAll0]
theorem pD_depth (z : Int × Int) : (pD z).depth = 1 := by simp [pD, PyData.depth, PyData.depthAll]
theorem pDs_lay : ∀ zs : List (Int × Int), PyData.canLayAll0 (zs.map pD) = true
  | [] => by simp [PyData.canLayAll0]
  | z :: zs => by simp [PyData.canLayAll0, pD_lay z, pDs_lay zs]
theorem pDs_depth : ∀ zs : List (Int × Int), PyData.depthAll (zs.map pD) ≤ 1
  | [] => by simp [PyData.depthAll]
  | z :: zs => by
    have h1 := pDs_depth zs
    have h2 := pD_depth z
    simp only [List.map_cons, PyData.depthAll]
    omega
theorem pD_shaped (z : Int × Int) : SeqAt.shaped (pD z) = true := by
  have h := pD_depth z
  show ((pD z).canLay0 && decide ((pD z).depth ≤ 64)) = true
  rw [Bool.and_eq_true]
  exact ⟨pD_lay z, decide_eq_true (by omega)⟩
theorem pDs_shaped (zs : List (Int × Int)) : SeqAt.shaped (.list (zs.map pD)) = true := by
  have h1 := pDs_depth zs
  have h2 : PyData.depth (.list (zs.map pD)) ≤ 64 := by
    simp only [PyData.depth]
    omega
  show (PyData.canLay0 (.list (zs.map pD)) && decide (PyData.depth (.list (zs.map pD)) ≤ 64)) = true
  rw [Bool.and_eq_true]
  exact ⟨by simp only [PyData.canLay0]; exact pDs_lay zs, decide_eq_true h2⟩
theorem pD_eqv (z w : Int × Int) : PyData.eqv (pD z) (pD w) = decide (z = w) := by
  obtain ⟨a, b⟩ := z
  obtain ⟨a', b'⟩ := w
  have e : PyData.eqv (pD (a, b)) (pD (a', b')) = ((a == a') && ((b == b') && true)) := by simp only [pD, PyData.eqv, PyData.eqvAll]
  rw [e]
  by_cases h1 : a = a'
  · by_cases h2 : b = b'
    · subst h1 h2
      simp
    · rw [decide_eq_false (fun z => h2 (Prod.mk.inj z).2), beq_eq_false_iff_ne.mpr h2, Bool.false_and, Bool.and_false]
  · rw [decide_eq_false (fun z => h1 (Prod.mk.inj z).1), beq_eq_false_iff_ne.mpr h1, Bool.false_and]
theorem any_eqv (q : Int × Int) : ∀ ps : List (Int × Int), ((ps.map pD).any fun z => PyData.eqv z (pD q)) = ps.contains q
  | [] => rfl
  | p :: r => by
    rw [List.map_cons, List.any_cons, any_eqv q r, pD_eqv, List.contains_cons]
    congr 1
    by_cases h : p = q
    · rw [decide_eq_true h, h, beq_self_eq_true]
    · rw [decide_eq_false h, beq_eq_false_iff_ne.mpr (fun z => h z.symm)]
theorem dp_all {K : PySem.W.Frag} {H : Hp} : ∀ (cs : List Addr) (ps : List (Int × Int)), cs.length = ps.length → (∀ (i : Nat) (c : Addr) (q : Int × Int), cs[i]? = some c → ps[i]? = some q → H c = some (.tup [.int q.1, .int q.2])) → DpAll K H (cs.map V.ref) (ps.map pD)
  | [], [], _, _ => .nil
  | [], _ :: _, h, _ => absurd h (by simp)
  | _ :: _, [], h, _ => absurd h (by simp)
  | c :: cs, q :: ps, h, a => .cons (.tup (SqT.of (a 0 c q rfl rfl)) (.cons (.int _) (.cons (.int _) .nil))) (dp_all cs ps (by simpa using h) fun i c' q' h1 h2 => a (i + 1) c' q' h1 h2)
theorem Lies.dp {K : PySem.W.Frag} {H : Hp} {p : Addr} {ps : List (Int × Int)} (h : Lies H p ps) : Dp K H (.ref p) (.list (ps.map pD)) := by
  obtain ⟨cs, h1, h2, h3⟩ := h.ex
  exact .lst (SqL.of h1) (dp_all cs ps h2 h3)
end NB
namespace NB
open PySem PySem.Spec PyProof.Rows L2
open PySem.W (Codec)
abbrev sKind : Stmt := top 7
theorem scKind : FnScope ["kind"] ["kind"] (defScope sKind) := ⟨rfl, rfl, rfl, by decide +kernel, rfl, by decide +kernel, by decide +kernel⟩
def inK (k : Int) : Bool := decide (0 ≤ k) && decide (k < 3)
def spKind (K : PySem.W.Frag) : Sp := fun vs H Q _ => ∃ (k : Int), vs = [.int k] ∧ Q (.bl (inK k)) H
section
variable {P : Program} {w : World} {K : PySem.W.Frag} {mg : Str → Option Value} {base : Heap} {M : Addr}
theorem ok_kind {f : Addr} {fd : FuncData} (F : Fun K "is_kind" "is_kind" sKind f fd) (T : Txt K mg M) : FnOk P w K mg base CX0 1 f fd ["kind"] (spKind K) := by
  refine F.ok scKind (fun vs H Q E h => ?_) (fun cdv A outer s H vs Q E hr h => ?_)
  · obtain ⟨k, rfl, _⟩ := h
    rfl
  · refine ⟨_, pss_one (ps_ret (pe_chain op_le op_lt pe_int (pv 0) (pe_callB call_len_seq (by rfl) T.len PySem.boot_len (pa_cons (pe_glob (v := V.ref M) rfl T.gM rfl) pa_nil)))), ?_⟩
    obtain ⟨k, rfl, hQ⟩ := h
    have fin : ∀ b, b = inK k → Q (.bl b) H := fun b e => by
      rw [e]
      exact hQ
    obtain ⟨rows, hM, hl, _⟩ := T.mov
    have hl3 : (((rows.map V.ref).length : Nat) : Int) = 3 := by
      rw [List.length_map, hl]
      rfl
    refine ⟨_, rfl, _, _, rfl, rfl, _, rfl, ?_⟩
    by_cases c0 : (0 : Int) ≤ k
    · refine if_t (decide_eq_true c0) ?_
      refine ⟨M, _, rfl, .inr (hM.sq H), _, _, rfl, rfl, ?_⟩
      refine fin _ ?_
      unfold inK
      rw [hl3, decide_eq_true c0, Bool.true_and]
    · refine if_f (decide_eq_false c0) ?_
      refine fin _ ?_
      unfold inK
      rw [decide_eq_false c0, Bool.false_and]
end
end NB
namespace NB
open PySem PySem.Spec PyProof.Rows L2
open PySem.W (Codec)
abbrev sAre : Stmt := top 8
theorem scAre : FnScope ["kind", "steps", "step"] ["kind", "steps"] (defScope sAre) := ⟨rfl, rfl, rfl, by decide +kernel, rfl, by decide +kernel, by decide +kernel⟩
def spAre (K : PySem.W.Frag) : Sp := fun vs H Q _ => ∃ (a : Addr) (k : Int) (ns : List Int), vs = [.int k, .ref a] ∧ SqL K H a (ns.map V.int) ∧ (0 ≤ k ∧ k < 3) ∧ Q (.bl (okS k.toNat ns)) H
section
variable {P : Program} {w : World} {K : PySem.W.Frag} {mg : Str → Option Value} {base : Heap} {M : Addr}
theorem ok_are {f : Addr} {fd : FuncData} (F : Fun K "are_steps" "are_steps" sAre f fd) (T : Txt K mg M) : FnOk P w K mg base CX0 1 f fd ["kind", "steps"] (spAre K) := by
  refine F.ok scAre (fun vs H Q E h => ?_) (fun cdv A outer s H vs Q E hr h => ?_)
  · obtain ⟨a, k, ns, rfl, _⟩ := h
    rfl
  · refine ⟨_, pss_cons (ps_for PassesOwn.never rfl (pi_list (pv 1)) (pg_name (i := 2) scAre.nd rfl (Or.inl rfl))
        (pss_one (ps_if (pt_not (pt_chain op_le op_lt pe_int (pv 2) (pe_callB call_len_seq (by rfl) T.len PySem.boot_len (pa_cons (pe_ix ix_tup (pe_glob (v := V.ref M) rfl T.gM rfl) (pv 0) (fun _ _ => rfl)) pa_nil))))
          (pss_one (ps_ret pe_bl)) pss_nil)))
      (pss_one (ps_ret pe_bl)), ?_⟩
    obtain ⟨a, k, ns, rfl, hS, ⟨k0, k3⟩, hQ⟩ := h
    obtain ⟨rows, hM, hl, hrow⟩ := T.mov
    obtain ⟨r, cs, hr', hR, hcl, _⟩ := hrow k.toNat (by omega)
    have hat : atI (rows.map V.ref) k = some (.ref r) := at_of k0 (get_ref hr')
    refine ⟨_, rfl, a, rfl, ⟨_, hS⟩, for_list (K := K) (a := a) (xs := ns.map V.int) (fun i σ H' => ∃ v : Option V, σ = [some (.int k), some (.ref a), v] ∧ H' = H ∧ okS k.toNat (ns.take i) = true)
      ⟨none, rfl, rfl, rfl⟩ (fun i σ H' _ ⟨_, _, e, _⟩ => by rw [e]; exact hS) ?_ ?_⟩
    · rintro i y σ H' hi ⟨v, rfl, rfl, ok⟩
      obtain ⟨z, hz, rfl⟩ := get_int hi
      have more : okS k.toNat (ns.take (i + 1)) = (decide (0 ≤ z) && decide (z < (Sh19.ways k.toNat : Nat))) := by
        unfold okS at ok ⊢
        rw [take_snoc hz, List.all_append, ok, Bool.true_and, List.all_cons, List.all_nil, Bool.and_true]
      have bad : (decide (0 ≤ z) && decide (z < (Sh19.ways k.toNat : Nat))) = false → okS k.toNat ns = false := fun e => by
        cases q : okS k.toNat ns with
        | false => rfl
        | true =>
          obtain ⟨q1, q2⟩ := okS_at q hz
          rw [decide_eq_true q1, decide_eq_true q2] at e
          cases e
      refine ⟨_, rfl, _, _, rfl, rfl, _, rfl, ?_⟩
      by_cases c0 : (0 : Int) ≤ z
      · refine if_t (decide_eq_true c0) ?_
        refine ⟨_, rfl, M, _, k, _, rfl, rfl, hM.sq _, hat, r, _, rfl, .inr (hR.sq _), _, _, rfl, rfl, _, rfl, ?_⟩
        have hl2 : (((cs.map V.ref).length : Nat) : Int) = (Sh19.ways k.toNat : Nat) := by
          rw [List.length_map, hcl]
        by_cases c1 : z < (((cs.map V.ref).length : Nat) : Int)
        · refine if_f (by rw [decide_eq_true c1]; rfl) ?_
          rw [hl2] at c1
          exact ⟨_, rfl, rfl, by rw [more, decide_eq_true c0, decide_eq_true c1]; rfl⟩
        · refine if_t (by rw [decide_eq_false c1]; rfl) ?_
          rw [hl2] at c1
          have e := bad (by rw [decide_eq_false c1, Bool.and_false])
          rw [e] at hQ
          exact hQ
      · refine if_f (decide_eq_false c0) ?_
        refine ⟨_, rfl, iteT ?_⟩
        have e := bad (by rw [decide_eq_false c0, Bool.false_and])
        rw [e] at hQ
        exact hQ
    · rintro σ H' ⟨v, rfl, rfl, ok⟩
      rw [List.length_map, List.take_length] at ok
      rw [ok] at hQ
      exact hQ
end
end NB
namespace NB
open PySem PySem.Spec PyProof.Rows L2
open PySem.W (Codec)
abbrev sRef : Stmt := top 9
theorem scRef : FnScope ["kind", "steps"] ["kind", "steps"] (defScope sRef) := ⟨rfl, rfl, rfl, by decide +kernel, rfl, by decide +kernel, by decide +kernel⟩
def spRef (K : PySem.W.Frag) : Sp := fun vs H Q _ => ∃ (a : Addr) (k : Int) (ns : List Int), vs = [.int k, .ref a] ∧ SqL K H a (ns.map V.int) ∧ Q (.int (refu k ns)) H
section
variable {P : Program} {w : World} {K : PySem.W.Frag} {mg : Str → Option Value} {base : Heap} {M : Addr}
theorem ok_ref {f : Addr} {fd : FuncData} (F : Fun K "refusal" "refusal" sRef f fd) (T : Txt K mg M) (gR : ∃ t, mg "OUT_OF_RANGE" = some (.int (-2) t)) (gS : ∃ t, mg "WRONG_STEPS" = some (.int (-3) t)) (gX : ∃ t, mg "MOST_STEPS" = some (.int 4096 t))
    (CI : Cal P w K mg base 1 "is_kind" ["kind"] (spKind K)) (CA : Cal P w K mg base 1 "are_steps" ["kind", "steps"] (spAre K)) : FnOk P w K mg base CX0 2 f fd ["kind", "steps"] (spRef K) := by
  refine F.ok scRef (fun vs H Q E h => ?_) (fun cdv A outer s H vs Q E hr h => ?_)
  · obtain ⟨a, k, ns, rfl, _⟩ := h
    rfl
  · refine ⟨_, pss_cons (ps_if (PW.pt (pw_or (pt_not (pt_val (pe_cal CI hr (pa_cons (pv 0) pa_nil)))) (pw_or1 (pt_cmpR op_gt (pe_callB call_len_seq (by rfl) T.len PySem.boot_len (pa_cons (pv 1) pa_nil)) (pe_gi rfl gX) (nomark _))))) (pss_one (ps_ret (pe_gi rfl gR))) pss_nil)
      (pss_cons (ps_if (pt_not (pt_val (pe_cal CA hr (pa_cons (pv 0) (pa_cons (pv 1) pa_nil))))) (pss_one (ps_ret (pe_gi rfl gS))) pss_nil)
      (pss_one (ps_ret pe_int))), ?_⟩
    obtain ⟨a, k, ns, rfl, hS, hQ⟩ := h
    unfold refu at hQ
    have two : inR k ns.length = false → Q (.int (-2)) H := fun c => by
      rw [c, if_neg Bool.false_ne_true] at hQ
      exact hQ
    refine ⟨_, rfl, k, rfl, _, rfl, ?_⟩
    cases ci : inK k with
    | false =>
      refine iteT ?_
      refine two ?_
      show (inK k && decide (ns.length ≤ 4096)) = false
      rw [ci, Bool.false_and]
    | true =>
      refine iteF ?_
      refine ⟨_, rfl, a, _, rfl, .inl hS, _, _, rfl, rfl, _, rfl, ?_⟩
      have e4 : (((ns.map V.int).length : Nat) : Int) = (ns.length : Nat) := by rw [List.length_map]
      by_cases c4 : (((ns.map V.int).length : Nat) : Int) > 4096
      · refine if_t (decide_eq_true c4) ?_
        refine two ?_
        rw [e4] at c4
        show (inK k && decide (ns.length ≤ 4096)) = false
        rw [decide_eq_false (show ¬ ns.length ≤ 4096 by omega), Bool.and_false]
      · refine if_f (decide_eq_false c4) ?_
        rw [e4] at c4
        have c : inR k ns.length = true := by
          show (inK k && decide (ns.length ≤ 4096)) = true
          rw [ci, decide_eq_true (show ns.length ≤ 4096 by omega)]
          rfl
        rw [c, if_pos rfl] at hQ
        obtain ⟨k0, k3, _⟩ := inR_bd c
        refine ⟨_, rfl, _, rfl, a, k, ns, rfl, hS, ⟨k0, k3⟩, _, rfl, ?_⟩
        cases d : okS k.toNat ns with
        | false =>
          rw [d, if_neg Bool.false_ne_true] at hQ
          exact hQ
        | true =>
          rw [d, if_pos rfl] at hQ
          exact hQ
end
end NB
namespace NB
open PySem PySem.Spec PyProof.Rows L2
open PySem.W (Codec)
abbrev sAft : Stmt := top 10
theorem scAft : FnScope ["kind", "place", "step", "x", "y", "move"] ["kind", "place", "step"] (defScope sAft) := ⟨rfl, rfl, rfl, by decide +kernel, rfl, by decide +kernel, by decide +kernel⟩
def spAft (K : PySem.W.Frag) : Sp := fun vs H Q _ => ∃ (p : Addr) (k s x y : Int), vs = [.int k, .ref p, .int s] ∧ SqT K H p [.int x, .int y] ∧ (0 ≤ k ∧ k < 3) ∧ (0 ≤ s ∧ s < (Sh19.ways k.toNat : Nat)) ∧
  ∀ q, H q = none → Q (.ref q) (upd H q (.tup [.int (Sh19.go k.toNat (x, y) s.toNat).1, .int (Sh19.go k.toNat (x, y) s.toNat).2]))
section
variable {P : Program} {w : World} {K : PySem.W.Frag} {mg : Str → Option Value} {base : Heap} {M : Addr}
theorem ok_aft {f : Addr} {fd : FuncData} (F : Fun K "place_after" "place_after" sAft f fd) (T : Txt K mg M) : FnOk P w K mg base CX0 1 f fd ["kind", "place", "step"] (spAft K) := by
  refine F.ok scAft (fun vs H Q E h => ?_) (fun cdv A outer s H vs Q E hr h => ?_)
  · obtain ⟨p, k, t, x, y, rfl, _⟩ := h
    rfl
  · refine ⟨_, pss_cons (ps_set (i := 3) scAft.nd rfl (Or.inl rfl) (pe_ix ix_tup (pv 1) pe_int (fun _ _ => rfl)))
      (pss_cons (ps_set (i := 4) scAft.nd rfl (Or.inl rfl) (pe_ix ix_tup (pv 1) pe_int (fun _ _ => rfl)))
      (pss_cons (ps_set (i := 5) scAft.nd rfl (Or.inl rfl) (pe_ix ix_tup (pe_ix ix_tup (pe_glob (v := V.ref M) rfl T.gM rfl) (pv 0) (fun _ _ => rfl)) (pv 2) (fun _ _ => rfl)))
      (pss_cons (ps_if (PW.pt (pw_and (pt_cmpR op_eq (pv 0) (pe_gi rfl T.gH) (nomark _)) (pw_and1 (pt_cmpR op_eq (pe_op op_mod (pe_op op_add (pv 3) (pv 4)) pe_int) pe_int (nomark _)))))
          (pss_one (ps_ret (pe_tup (pa_cons (pe_op op_add (pv 3) (pe_ix ix_tup (pv 5) pe_int (fun _ _ => rfl))) (pa_cons (pe_op op_sub (pv 4) (pe_ix ix_tup (pv 5) pe_int (fun _ _ => rfl))) pa_nil))))) pss_nil)
      (pss_one (ps_ret (pe_tup (pa_cons (pe_op op_add (pv 3) (pe_ix ix_tup (pv 5) pe_int (fun _ _ => rfl))) (pa_cons (pe_op op_add (pv 4) (pe_ix ix_tup (pv 5) pe_int (fun _ _ => rfl))) pa_nil)))))))), ?_⟩
    obtain ⟨p, k, t, x, y, rfl, hP, ⟨k0, k3⟩, ⟨t0, t3⟩, hQ⟩ := h
    obtain ⟨rows, hM, hl, hrow⟩ := T.mov
    obtain ⟨r, cs, hr', hR, hcl, hcs⟩ := hrow k.toNat (by omega)
    obtain ⟨c, hc, hC⟩ := hcs t.toNat (by omega)
    have hatr : atI (rows.map V.ref) k = some (.ref r) := at_of k0 (get_ref hr')
    have hatc : atI (cs.map V.ref) t = some (.ref c) := at_of t0 (get_ref hc)
    have e := stepTo_go (k := k.toNat) (s := t.toNat) (by omega) (by omega) (x, y)
    rw [← e] at hQ
    refine ⟨_, rfl, p, _, 0, _, rfl, rfl, hP, at0 _ _, ?_⟩
    refine ⟨_, rfl, p, _, 1, _, rfl, rfl, hP, at1 _ _, ?_⟩
    refine ⟨_, rfl, M, _, k, _, rfl, rfl, hM.sq _, hatr, _, rfl, r, _, t, _, rfl, rfl, hR.sq _, hatc, ?_⟩
    refine ⟨_, rfl, rfl, _, rfl, ?_⟩
    by_cases c2 : k = 2
    · refine if_t (decide_eq_true (by rw [c2])) ?_
      refine ⟨_, rfl, _, rfl, _, _, rfl, rfl, _, _, rfl, rfl, (by show (0 : Int) < 2; decide), rfl, _, rfl, ?_⟩
      by_cases c3 : (x + y) % 2 = 1
      · refine if_t (decide_eq_true (congrArg V.int c3)) ?_
        refine ⟨_, rfl, _, rfl, c, _, 0, _, rfl, rfl, hC.sq _, at0 _ _, _, _, rfl, rfl, _, rfl, _, rfl, c, _, 1, _, rfl, rfl, hC.sq _, at1 _ _, _, _, rfl, rfl, (by show 2 ≤ sizeLine; decide), fun q hq => ?_⟩
        have z := hQ q hq
        rw [stepTo_pos rfl ⟨by omega, c3⟩] at z
        exact z
      · refine if_f (decide_eq_false (fun z => c3 (V.int.inj z))) ?_
        refine ⟨_, rfl, _, rfl, c, _, 0, _, rfl, rfl, hC.sq _, at0 _ _, _, _, rfl, rfl, _, rfl, _, rfl, c, _, 1, _, rfl, rfl, hC.sq _, at1 _ _, _, _, rfl, rfl, (by show 2 ≤ sizeLine; decide), fun q hq => ?_⟩
        have z := hQ q hq
        rw [stepTo_neg rfl (fun z => c3 z.2)] at z
        exact z
    · refine if_f (decide_eq_false (fun z => c2 (V.int.inj z))) ?_
      refine iteF ?_
      refine ⟨_, rfl, _, rfl, c, _, 0, _, rfl, rfl, hC.sq _, at0 _ _, _, _, rfl, rfl, _, rfl, _, rfl, c, _, 1, _, rfl, rfl, hC.sq _, at1 _ _, _, _, rfl, rfl, (by show 2 ≤ sizeLine; decide), fun q hq => ?_⟩
      have z := hQ q hq
      rw [stepTo_neg rfl (fun z => c2 (by omega))] at z
      exact z
end
end NB
namespace NB
open PySem PySem.Spec PyProof.Rows L2
open PySem.W (Codec)
abbrev sPla : Stmt := top 11
theorem scPla : FnScope ["kind", "steps", "place", "places", "step"] ["kind", "steps"] (defScope sPla) := ⟨rfl, rfl, rfl, by decide +kernel, rfl, by decide +kernel, by decide +kernel⟩
def spPla (K : PySem.W.Frag) : Sp := fun vs H Q _ => ∃ (a : Addr) (k : Int) (ns : List Int), vs = [.int k, .ref a] ∧ SqL K H a (ns.map V.int) ∧ (0 ≤ k ∧ k < 3) ∧ okS k.toNat ns = true ∧ ns.length ≤ 4096 ∧
  ∀ H' p, Same H H' → H p = none → Lies H' p (Sh19.walk k.toNat (nat ns)) → Q (.ref p) H'
section
variable {P : Program} {w : World} {K : PySem.W.Frag} {mg : Str → Option Value} {base : Heap} {M : Addr}
theorem ok_pla {f : Addr} {fd : FuncData} (F : Fun K "places_of" "places_of" sPla f fd) (CA : Cal P w K mg base 1 "place_after" ["kind", "place", "step"] (spAft K)) : FnOk P w K mg base CX0 2 f fd ["kind", "steps"] (spPla K) := by
  refine F.ok scPla (fun vs H Q E h => ?_) (fun cdv A outer s H vs Q E hr h => ?_)
  · obtain ⟨a, k, ns, rfl, _⟩ := h
    rfl
  · refine ⟨_, pss_cons (ps_set (i := 2) scPla.nd rfl (Or.inl rfl) (pe_tup (pa_cons pe_int (pa_cons pe_int pa_nil))))
      (pss_cons (ps_set (i := 3) scPla.nd rfl (Or.inl rfl) (pe_lst (pa_cons (pv 2) pa_nil)))
      (pss_cons (ps_for PassesOwn.never rfl (pi_list (pv 1)) (pg_name (i := 4) scPla.nd rfl (Or.inl rfl))
        (pss_cons (ps_set (i := 2) scPla.nd rfl (Or.inl rfl) (pe_cal CA hr (pa_cons (pv 0) (pa_cons (pv 2) (pa_cons (pv 4) pa_nil)))))
        (pss_one (ps_expr (pe_bm PySem.F.plainAttrs_list PySem.F.slot_list_append PySem.F.type_list_append mt_append (pv 3) (pa_cons (pv 2) pa_nil))))))
      (pss_one (ps_ret (pv 3))))), ?_⟩
    obtain ⟨a, k, ns, rfl, hS, ⟨k0, k3⟩, ok, hn, hQ⟩ := h
    refine ⟨(by show 2 ≤ sizeLine; decide), fun c0 hc0 => ?_⟩
    refine ⟨_, rfl, (by show 1 ≤ sizeLine; decide), fun p hp => ?_⟩
    have np : p ≠ c0 := fun e => by
      rw [e, upd_same] at hp
      cases hp
    have hp0 : H p = none := by
      rw [upd_ne np] at hp
      exact hp
    have s0 : Same H (upd (upd H c0 (.tup [.int 0, .int 0])) p (.lst [.ref c0])) := (same_new hc0).trans (same_new hp)
    refine ⟨_, rfl, a, rfl, ⟨_, s0.seq hS⟩, for_list (K := K) (a := a) (xs := ns.map V.int)
      (fun i σ H' => ∃ (v : Option V) (c : Addr), σ = [some (.int k), some (.ref a), some (.ref c), some (.ref p), v] ∧ Same H H' ∧ Lies H' p (Sh19.walk k.toNat (nat (ns.take i))) ∧
        H' c = some (.tup [.int (Sh19.ending k.toNat (nat (ns.take i))).1, .int (Sh19.ending k.toNat (nat (ns.take i))).2]))
      ⟨none, c0, rfl, s0, ⟨[c0], upd_same, rfl, fun i c q h1 h2 => ?_⟩, ?_⟩ (fun i σ H' _ ⟨_, _, _, s5, _⟩ => s5.seq hS) ?_ ?_⟩
    · match i, h1 with
      | 0, h1 =>
        have e1 : c0 = c := Option.some.inj h1
        have e2 : ((0, 0) : Int × Int) = q := Option.some.inj h2
        subst e1
        subst e2
        rw [upd_ne np.symm]
        exact upd_same
    · rw [upd_ne np.symm]
      exact upd_same
    · rintro i y σ H' hi ⟨v, c, rfl, s5, L5, hc⟩
      obtain ⟨z, hz, rfl⟩ := get_int hi
      obtain ⟨z0, z3⟩ := okS_at ok hz
      obtain ⟨cs, hcs, hlen, hall⟩ := L5.ex
      have hil : i < ns.length := (List.getElem?_eq_some_iff.mp hz).1
      refine ⟨_, rfl, _, rfl, _, rfl, c, k, z, _, _, rfl, SqT.of hc, ⟨k0, k3⟩, ⟨z0, z3⟩, fun q hq => ?_⟩
      have npq : p ≠ q := ne_of_none hcs hq
      have hcs2 : upd H' q (.tup [.int (Sh19.go k.toNat (Sh19.ending k.toNat (nat (ns.take i))) z.toNat).1, .int (Sh19.go k.toNat (Sh19.ending k.toNat (nat (ns.take i))) z.toNat).2]) p = some (.lst (cs.map V.ref)) := by
        rw [upd_ne npq]
        exact hcs
      have hwl : cs.length = i + 1 := by
        rw [hlen, walk_len]
        unfold nat
        rw [List.length_map, List.length_take]
        omega
      refine ⟨_, rfl, .inl ⟨rfl, _, SqL.of hcs2⟩, _, rfl, p, _, _, rfl, rfl, hcs2, ?_, ?_⟩
      · rw [List.length_map, hwl]
        exact Nat.lt_of_le_of_lt (show i + 1 ≤ 4096 by omega) (by decide)
      · have e1 : nat (ns.take (i + 1)) = nat (ns.take i) ++ [z.toNat] := nat_snoc hz
        refine ⟨some (.int z), q, rfl, ?_, ⟨cs ++ [q], ?_, ?_, ?_⟩, ?_⟩
        · intro b o e
          have hbp : b ≠ p := ne_of_none e hp0
          rw [upd_ne hbp]
          exact same_new hq b o (s5 b o e)
        · rw [upd_same, List.map_append]
          rfl
        · rw [e1, walk_snoc, List.length_append, List.length_append, hlen]
          rfl
        · intro j c' q' h1 h2
          have hne : ∀ d, upd H' q (.tup [.int (Sh19.go k.toNat (Sh19.ending k.toNat (nat (ns.take i))) z.toNat).1, .int (Sh19.go k.toNat (Sh19.ending k.toNat (nat (ns.take i))) z.toNat).2]) d = some (.tup [.int q'.1, .int q'.2]) →
              upd (upd H' q (.tup [.int (Sh19.go k.toNat (Sh19.ending k.toNat (nat (ns.take i))) z.toNat).1, .int (Sh19.go k.toNat (Sh19.ending k.toNat (nat (ns.take i))) z.toNat).2])) p (.lst (cs.map V.ref ++ [.ref q])) d = some (.tup [.int q'.1, .int q'.2]) := fun d hd => by
            rw [upd_ne (ne_of hd hcs2 (fun z => nomatch z))]
            exact hd
          refine hne c' ?_
          rw [e1, walk_snoc] at h2
          by_cases hj : j < cs.length
          · rw [List.getElem?_append_left hj] at h1
            rw [List.getElem?_append_left (by rw [← hlen]; exact hj)] at h2
            have hd := hall j c' q' h1 h2
            exact same_new hq c' _ hd
          · have hj2 : j = cs.length := by
              have := (List.getElem?_eq_some_iff.mp h1).1
              rw [List.length_append, List.length_singleton] at this
              omega
            subst hj2
            rw [List.getElem?_append_right (Nat.le_refl _), Nat.sub_self] at h1
            rw [List.getElem?_append_right (by rw [hlen]; exact Nat.le_refl _), hlen, Nat.sub_self] at h2
            have x1 : q = c' := Option.some.inj h1
            have x2 : Sh19.go k.toNat (Sh19.ending k.toNat (nat (ns.take i))) z.toNat = q' := Option.some.inj h2
            subst x1
            subst x2
            exact upd_same
        · rw [e1, ending_snoc, upd_ne npq.symm]
          exact upd_same
    · rintro σ H' ⟨v, c, rfl, s5, L5, hc⟩
      rw [List.length_map, List.take_length] at L5
      exact ⟨_, rfl, hQ H' p s5 hp0 L5⟩
end
end NB
namespace NB
open PySem PySem.Spec PyProof.Rows L2
open PySem.W (Codec)
abbrev sMany : Stmt := top 12
theorem scMany : FnScope ["places", "seen", "place"] ["places"] (defScope sMany) := ⟨rfl, rfl, rfl, by decide +kernel, rfl, by decide +kernel, by decide +kernel⟩
/-- a place as a key; the dict of places -/
def keyP (q : Sh19.Place) : List Key := [.inl q.1, .inl q.2]
def dictP (l : List Sh19.Place) : List (List Key × V) := l.map fun q => (keyP q, V.bl true)
theorem keyP_inj {p q : Sh19.Place} (h : keyP p = keyP q) : p = q := by
  obtain ⟨a, b⟩ := p
  obtain ⟨c, d⟩ := q
  injection h with h1 h2
  injection h2 with h2 _
  have e1 : a = c := Sum.inl.inj h1
  have e2 : b = d := Sum.inl.inj h2
  rw [e1, e2]
theorem dictP_in (q : Sh19.Place) : ∀ l : List Sh19.Place, (valV (dictP l) (keyP q)).isSome = l.contains q
  | [] => rfl
  | p :: r => by
    rw [List.contains_cons]
    by_cases e : p = q
    · have z : valV (dictP (p :: r)) (keyP q) = some (V.bl true) := valV_pos (p := (keyP p, V.bl true)) (congrArg keyP e)
      rw [z, e, beq_self_eq_true, Bool.true_or]
      rfl
    · have z : valV (dictP (p :: r)) (keyP q) = valV (dictP r) (keyP q) := valV_neg (p := (keyP p, V.bl true)) fun y => e (keyP_inj y)
      rw [z, dictP_in q r, beq_eq_false_iff_ne.mpr (fun y => e y.symm), Bool.false_or]
def spMany (K : PySem.W.Frag) : Sp := fun vs H Q _ => ∃ (p : Addr) (ps : List Sh19.Place), vs = [.ref p] ∧ Lies H p ps ∧ ps.length ≤ 5000 ∧ ∀ (d : Nat) (H' : Hp), Dif ps d → Same H H' → Q (.int (d : Nat)) H'
section
variable {P : Program} {w : World} {K : PySem.W.Frag} {mg : Str → Option Value} {base : Heap} {M : Addr}
theorem ok_many {f : Addr} {fd : FuncData} (F : Fun K "how_many_differ" "how_many_differ" sMany f fd) (ml : mg "len" = none) : FnOk P w K mg base CX0 1 f fd ["places"] (spMany K) := by
  refine F.ok scMany (fun vs H Q E h => ?_) (fun cdv A outer s H vs Q E hr h => ?_)
  · obtain ⟨p, ps, rfl, _⟩ := h
    rfl
  · refine ⟨_, pss_cons (ps_set (i := 1) scMany.nd rfl (Or.inl rfl) pe_dnewT)
      (pss_cons (ps_for PassesOwn.never rfl (pi_list (pv 0)) (pg_name (i := 2) scMany.nd rfl (Or.inl rfl))
        (pss_cons (ps_if (pt_cmp (pc_din (hu_of hr) (pv 2) (pv 1)) rfl) (pss_one ps_break) pss_nil)
        (pss_one (ps_dput (hu_of hr) (pv 1) (pv 2) pe_bl rfl))))
      (pss_one (ps_ret (pe_callB call_len_dT (by rfl) ml PySem.boot_len (pa_cons (pv 1) pa_nil))))), ?_⟩
    obtain ⟨p, ps, rfl, hL, hn, hQ⟩ := h
    obtain ⟨cs, hcs, hlen, hall⟩ := hL.ex
    refine fun d hd => ?_
    have npd : p ≠ d := ne_of_none hcs hd
    have end_ : ∀ (i : Nat) (σ : L2.St) (H' : Hp), σ[1]? = some (some (.ref d)) → Same H H' → H' d = some (.dT (dictP (ps.take i))) → i ≤ ps.length → Dif ps i →
        tRet (tCB rLenT (tCons (tVar 1) tNil)) { nx := fun _ H' => Q .non H', rt := Q } σ H' := fun i σ H' hs s5 h5 hi D => by
      refine ⟨_, hs, d, _, rfl, h5, ?_⟩
      have e : (dictP (ps.take i)).length = i := by
        unfold dictP
        rw [List.length_map, List.length_take]
        omega
      rw [e]
      exact hQ i H' D s5
    refine ⟨_, rfl, p, rfl, ⟨_, SqL.of (same_new hd _ _ hcs)⟩, for_list (K := K) (a := p) (xs := cs.map V.ref) (fun i σ H' => ∃ v : Option V, σ = [some (.ref p), some (.ref d), v] ∧ Same H H' ∧ H' d = some (.dT (dictP (ps.take i))) ∧ Sh19.distinct (ps.take i) = true)
      ⟨none, rfl, same_new hd, upd_same, rfl⟩ (fun i σ H' _ ⟨_, _, s5, _⟩ => SqL.of (s5 _ _ hcs)) ?_ ?_⟩
    · rintro i y σ H' hi ⟨v, rfl, s5, h5, nd⟩
      rw [List.getElem?_map] at hi
      cases ec : cs[i]? with
      | none =>
        rw [ec] at hi
        cases hi
      | some c =>
        rw [ec] at hi
        have ey : V.ref c = y := Option.some.inj hi
        subst ey
        have hil : i < cs.length := (List.getElem?_eq_some_iff.mp ec).1
        have hip : i < ps.length := by omega
        have ep : ps[i]? = some ps[i] := List.getElem?_eq_getElem hip
        have hc := s5 _ _ (hall i c ps[i] ec ep)
        refine ⟨_, rfl, _, rfl, d, _, rfl, DGet.t (k := keyP ps[i]) h5 hc, _, rfl, ?_⟩
        rw [dictP_in]
        cases e : (ps.take i).contains ps[i] with
        | true => exact iteT (end_ i _ H' rfl s5 h5 (by omega) ⟨by omega, nd, .inr ⟨_, ep, List.contains_iff_mem.mp e⟩⟩)
        | false =>
          have en : valV (dictP (ps.take i)) (keyP ps[i]) = none := by
            cases z : valV (dictP (ps.take i)) (keyP ps[i]) with
            | none => rfl
            | some _ =>
              have q := dictP_in ps[i] (ps.take i)
              rw [z, e] at q
              cases q
          refine iteF ?_
          refine ⟨_, rfl, _, rfl, d, _, rfl, DPut.t (k := keyP ps[i]) h5 hc ?_, ⟨_, rfl, same_at s5 hd, ?_, ?_⟩⟩
          · unfold dictP
            rw [List.length_map, List.length_take]
            exact Nat.lt_of_le_of_lt (show min i ps.length ≤ 5000 by omega) (by decide)
          · rw [upd_same, putK_new _ en, take_snoc ep]
            unfold dictP
            rw [List.map_append]
            rfl
          · rw [take_snoc ep, distinct_snoc, nd, e]
            rfl
    · rintro σ H' ⟨v, rfl, s5, h5, nd⟩
      rw [List.length_map, hlen] at h5 nd
      exact end_ ps.length _ H' rfl s5 h5 (Nat.le_refl _) ⟨Nat.le_refl _, nd, .inl rfl⟩
end
end NB
namespace NB
open PySem PySem.Spec PyProof.Rows L2
open PySem.W (Codec)
abbrev sOpn : Stmt := top 13
theorem scOpn : FnScope ["kind", "places", "least", "last", "step"] ["kind", "places", "least"] (defScope sOpn) := ⟨rfl, rfl, rfl, by decide +kernel, rfl, by decide +kernel, by decide +kernel⟩
def nInts (l : List Nat) : List V := l.map fun s : Nat => V.int (s : Int)
def spOpn (K : PySem.W.Frag) : Sp := fun vs H Q _ => ∃ (p : Addr) (k : Int) (n : Nat) (l : List Sh19.Place) (q : Sh19.Place), vs = [.int k, .ref p, .int n] ∧ Lies H p (l ++ [q]) ∧ (0 ≤ k ∧ k < 3) ∧ n ≤ Sh19.ways k.toNat ∧
  ∀ H' D, Same H H' → H D = none → H' D = some (.lst (nInts (opn k.toNat n (l ++ [q]) q))) → Q (.ref D) H'
theorem ways_le (k : Nat) : Sh19.ways k ≤ 6 := by
  unfold Sh19.ways
  split
  · omega
  · split <;> omega
section
variable {P : Program} {w : World} {K : PySem.W.Frag} {mg : Str → Option Value} {base : Heap} {M : Addr}
theorem ok_opn {f : Addr} {fd : FuncData} (F : Fun K "open_steps" "open_steps" sOpn f fd) (T : Txt K mg M) (mr : mg "range" = none)
    (CA : Cal P w K mg base 1 "place_after" ["kind", "place", "step"] (spAft K)) : FnOk P w K mg base CX0 2 f fd ["kind", "places", "least"] (spOpn K) := by
  refine F.ok scOpn (fun vs H Q E h => ?_) (fun cdv A outer s H vs Q E hr h => ?_)
  · obtain ⟨p, k, n, l, q, rfl, _⟩ := h
    rfl
  · refine ⟨_, pss_cons (ps_set (i := 3) scOpn.nd rfl (Or.inr rfl) (pe_ix ix_list (pv 1) (pe_un un_neg pe_int) (fun _ _ => rfl)))
      (pss_one (ps_ret (pe_lc (own := [("step", 4)]) (g := gName 4) rfl scOpn.nd
        (pi_range2 rfl mr (pa_cons (pv 2) (pa_cons (pe_callB call_len_seq (by rfl) T.len PySem.boot_len (pa_cons (pe_ix ix_tup (pe_glob (v := V.ref M) rfl T.gM rfl) (pv 0) (fun _ _ => rfl)) pa_nil)) pa_nil)))
        (blkOk_by (own := [("step", 4)]) (N := ["kind", "places", "least", "last", "step"]) (sc := defScope sOpn) (by decide +kernel))
        (fun _ _ _ _ _ => pg_name (i := 4) scOpn.nd rfl (Or.inl rfl))
        (fun _ _ _ _ _ => pts_one (pt_cmpR (r := rNotInD K) (op_notInD (hu65 hr)) (pe_cal CA hr (pa_cons (pv 0) (pa_cons (pv 3) (pa_cons (pv 4) pa_nil)))) (pv 1) rfl))
        (fun _ _ _ _ _ => pv 4)))), ?_⟩
    obtain ⟨p, k, n, l, q, rfl, hL, ⟨k0, k3⟩, hn, hQ⟩ := h
    obtain ⟨cs, c, hcs, hat, hc⟩ := hL.last
    obtain ⟨rows, hM, hl, hrow⟩ := T.mov
    obtain ⟨r, ms, hr', hR, hcl, _⟩ := hrow k.toNat (by omega)
    have hatr : atI (rows.map V.ref) k = some (.ref r) := L2.at_of (by omega) (get_ref hr')
    have hw := ways_le k.toNat
    refine ⟨_, rfl, 1, rfl, p, _, -1, _, rfl, rfl, SqL.of hcs, hat, ?_⟩
    have hl2 : (((ms.map V.ref).length : Nat) : Int) = (Sh19.ways k.toNat : Nat) := by
      rw [List.length_map, hcl]
    refine ⟨_, rfl, _, rfl, M, _, k, _, rfl, rfl, hM.sq _, hatr, r, _, rfl, .inr (hR.sq _), n, _, rfl, ⟨by omega, by omega, by omega, by omega⟩, fun D hD => ?_⟩
    rw [hl2]
    have en : ((Sh19.ways k.toNat : Nat) : Int) - (n : Nat) = ((Sh19.ways k.toNat - n : Nat) : Int) := by omega
    refine lc_range (lo := (n : Int)) (n := (((Sh19.ways k.toNat : Nat) : Int) - (n : Nat)).toNat) (fun i H' => Same H H' ∧ H' D = some (.lst (nInts ((List.range' n i).filter fun s => !(l ++ [q]).contains (Sh19.go k.toNat q s))))) ⟨same_new hD, upd_same⟩ ?_ ?_
    · rintro i H' hi ⟨s5, hd⟩
      refine ⟨rfl, ?_⟩
      refine ⟨_, rfl, _, rfl, _, rfl, c, k, _, _, _, rfl, SqT.of (s5 _ _ hc), ⟨k0, k3⟩, ⟨by omega, by omega⟩, fun t ht => ?_⟩
      have nt : D ≠ t := ne_of_none hd ht
      have ez : ((n : Int) + (i : Nat)).toNat = n + i := by omega
      rw [ez]
      refine ⟨_, rfl, pD (Sh19.go k.toNat q (n + i)), (l ++ [q]).map pD, .tup (SqT.of upd_same) (.cons (.int _) (.cons (.int _) .nil)), (hL.same (s5.trans (same_new ht))).dp, pD_shaped _, pDs_shaped _, _, rfl, ?_⟩
      rw [any_eqv]
      have e5 := range_filter_snoc (fun s => !(l ++ [q]).contains (Sh19.go k.toNat q s)) n i
      cases d : (l ++ [q]).contains (Sh19.go k.toNat q (n + i)) with
      | true =>
        refine iteF ⟨s5.trans (same_new ht), ?_⟩
        rw [e5, d, upd_ne nt]
        rw [Bool.not_true, if_neg Bool.false_ne_true, List.append_nil]
        exact hd
      | false =>
        refine iteT ⟨_, rfl, _, by rw [upd_ne nt]; exact hd, ?_, ?_, ?_⟩
        · refine Nat.lt_of_le_of_lt (m := 6) ?_ (by decide)
          unfold nInts
          rw [List.length_map]
          refine Nat.le_trans (List.length_filter_le ..) ?_
          rw [List.length_range']
          omega
        · exact same_at (s5.trans (same_new ht)) hD
        · rw [e5, d, upd_same]
          rw [Bool.not_false, if_pos rfl]
          unfold nInts
          rw [List.map_append]
          have e6 : ((n : Int) + (i : Nat)) = ((n + i : Nat) : Int) := by omega
          rw [e6]
          rfl
    · rintro H' ⟨s5, hd⟩
      refine hQ H' D s5 hD ?_
      rw [hd]
      unfold opn
      rw [en]
      rfl
end
end NB
namespace NB
open PySem PySem.Spec PyProof.Rows L2
open PySem.W (Codec)
abbrev sFirst : Stmt := top 14
theorem scFirst : FnScope ["kind", "n", "start", "least", "walk", "places", "found"] ["kind", "n", "start", "least"] (defScope sFirst) := ⟨rfl, rfl, rfl, by decide +kernel, rfl, by decide +kernel, by decide +kernel⟩
/-- what a search gives back -/
def Gives (H : Hp) (Q : VK) (r : Option (List Nat)) : Prop :=
  (r = none → ∀ H', Same H H' → Q .non H') ∧ ∀ u, r = some u → ∀ H' p, Same H H' → H' p = some (.lst (nInts u)) → Q (.ref p) H'
def spFirst (K : PySem.W.Frag) : Sp := fun vs H Q _ => ∃ (a : Addr) (k : Int) (n l : Nat) (t w : List Nat), vs = [.int k, .int n, .ref a, .int l] ∧ SqL K H a (nInts t) ∧ (0 ≤ k ∧ k < 3) ∧ n ≤ 100 ∧ Seek k.toNat n w t l ∧
  Gives H Q ((Sh19.trues k.toNat n).find? (Sh19.after w))
def toI (t : List Nat) : List Int := t.map fun s : Nat => (s : Int)
theorem nInts_toI (t : List Nat) : nInts t = (toI t).map V.int := by
  unfold nInts toI
  rw [List.map_map]
  rfl
theorem nat_toI : ∀ t : List Nat, nat (toI t) = t
  | [] => rfl
  | x :: r => by
    have ih := nat_toI r
    show ((x : Nat) : Int).toNat :: nat (toI r) = x :: r
    rw [ih, Int.toNat_natCast]
theorem okS_toI {k : Nat} {t : List Nat} (h : ∀ s ∈ t, s < Sh19.ways k) : okS k (toI t) = true := by
  unfold okS toI
  rw [List.all_map]
  refine List.all_eq_true.mpr fun s hs => ?_
  have q := h s hs
  show (decide (0 ≤ ((s : Nat) : Int)) && decide (((s : Nat) : Int) < (Sh19.ways k : Nat))) = true
  rw [decide_eq_true (by omega), decide_eq_true (by omega)]
  rfl
/-! a list of ints as data -/
def iD (t : List Nat) : PyData := .list (t.map fun s : Nat => .int (s : Int))
theorem iDs_lay : ∀ t : List Nat, PyData.canLayAll0 (t.map fun s : Nat => .int (s : Int)) = true
  | [] => by simp [PyData.canLayAll0]
  | z :: zs => by simp [PyData.canLayAll0, PyData.canLay0, iDs_lay zs]
theorem iDs_depth : ∀ t : List Nat, PyData.depthAll (t.map fun s : Nat => .int (s : Int)) = 0
  | [] => by simp [PyData.depthAll]
  | z :: zs => by simp [PyData.depthAll, PyData.depth, iDs_depth zs]
theorem iD_shaped (t : List Nat) : SeqAt.shaped (iD t) = true := by
  have h1 := iDs_depth t
  have h2 : PyData.depth (iD t) ≤ 64 := by
    unfold iD
    simp only [PyData.depth]
    omega
  show (PyData.canLay0 (iD t) && decide (PyData.depth (iD t) ≤ 64)) = true
  rw [Bool.and_eq_true]
  exact ⟨by unfold iD; simp only [PyData.canLay0]; exact iDs_lay t, decide_eq_true h2⟩
theorem iD_eqv : ∀ t : List Nat, PyData.eqv (iD t) (iD []) = t.isEmpty
  | [] => by simp [iD, PyData.eqv, PyData.eqvAll]
  | _ :: _ => by simp [iD, PyData.eqv, PyData.eqvAll]
theorem iD_all {K : PySem.W.Frag} {H : Hp} : ∀ t : List Nat, DpAll K H (nInts t) (t.map fun s : Nat => .int (s : Int))
  | [] => .nil
  | _ :: r => .cons (.int _) (iD_all r)
theorem iD_dp {K : PySem.W.Frag} {H : Hp} {a : Addr} {t : List Nat} (h : H a = some (.lst (nInts t))) : Dp K H (.ref a) (iD t) := .lst (SqL.of h) (iD_all t)
theorem lies_pop {H H' : Hp} {p : Addr} {l : List (Int × Int)} {q : Int × Int} {cs : List Addr} (hl : cs.length = (l ++ [q]).length) (hall : ∀ (i : Nat) (c : Addr) (q' : Int × Int), cs[i]? = some c → (l ++ [q])[i]? = some q' → H c = some (.tup [.int q'.1, .int q'.2]))
    (hp : H' p = some (.lst (cs.map V.ref).dropLast)) (st : ∀ d x y, H d = some (.tup [.int x, .int y]) → H' d = some (.tup [.int x, .int y])) : Lies H' p l := by
  refine ⟨cs.dropLast, ?_, ?_, fun i c q' h1 h2 => st _ _ _ (hall i c q' ?_ ?_)⟩
  · rw [hp, List.map_dropLast]
  · rw [List.length_dropLast, hl, List.length_append, List.length_singleton]
    omega
  · have hi := (List.getElem?_eq_some_iff.mp h1).1
    rw [List.length_dropLast] at hi
    rw [List.getElem?_dropLast, if_pos hi] at h1
    exact h1
  · rw [List.getElem?_append_left (List.getElem?_eq_some_iff.mp h2).1]
    exact h2
section
variable {P : Program} {w : World} {K : PySem.W.Frag} {mg : Str → Option Value} {base : Heap} {M : Addr}
theorem ok_first {f : Addr} {fd : FuncData} (F : Fun K "first_true" "first_true" sFirst f fd) (ml : mg "len" = none) (mt : mg "list" = none) (CP : Cal P w K mg base 2 "places_of" ["kind", "steps"] (spPla K))
    (CO : Cal P w K mg base 2 "open_steps" ["kind", "places", "least"] (spOpn K)) (CA : Cal P w K mg base 1 "place_after" ["kind", "place", "step"] (spAft K)) : FnOk P w K mg base CX0 3 f fd ["kind", "n", "start", "least"] (spFirst K) := by
  refine F.ok scFirst (fun vs H Q E h => ?_) (fun cdv A outer s H vs Q E hr h => ?_)
  · obtain ⟨a, k, n, l, t, u, rfl, _⟩ := h
    rfl
  · refine ⟨_, pss_cons (ps_set (i := 4) scFirst.nd rfl (Or.inl rfl) (pe_callTy call_list_of (by rfl) mt (by decide +kernel) (pa_cons (pv 2) pa_nil)))
      (pss_cons (ps_set (i := 5) scFirst.nd rfl (Or.inl rfl) (pe_cal CP hr (pa_cons (pv 0) (pa_cons (pv 4) pa_nil))))
      (pss_cons (ps_while PassesOwn.never (pt_cmpR op_lt (pe_callB call_len_seq (by rfl) ml PySem.boot_len (pa_cons (pv 4) pa_nil)) (pv 1) (nomark _))
        (pss_cons (ps_set (i := 6) scFirst.nd rfl (Or.inl rfl) (pe_cal CO hr (pa_cons (pv 0) (pa_cons (pv 5) (pa_cons (pv 3) pa_nil)))))
        (pss_one (ps_if (pt_cmpR (op_neD hr.units) (pv 6) (pe_lst pa_nil) (nomark _))
          (pss_cons (ps_expr (pe_bm PySem.F.plainAttrs_list PySem.F.slot_list_append PySem.F.type_list_append mt_append (pv 4) (pa_cons (pe_ix ix_list (pv 6) pe_int (fun _ _ => rfl)) pa_nil)))
          (pss_cons (ps_expr (pe_bm PySem.F.plainAttrs_list PySem.F.slot_list_append PySem.F.type_list_append mt_append (pv 5) (pa_cons (pe_cal CA (hr.mono (by decide)) (pa_cons (pv 0) (pa_cons (pe_ix ix_list (pv 5) (pe_un un_neg pe_int) (fun _ _ => rfl)) (pa_cons (pe_ix ix_list (pv 6) pe_int (fun _ _ => rfl)) pa_nil)))) pa_nil)))
          (pss_one (ps_set (i := 3) scFirst.nd rfl (Or.inl rfl) pe_int))))
          (pss_one (ps_if (pt_cmpR (op_neD hr.units) (pv 4) (pe_lst pa_nil) (nomark _))
            (pss_cons (ps_expr (pe_bm0 PySem.F.plainAttrs_list PySem.F.slot_list_pop PySem.F.type_list_pop mt_pop (pv 5)))
            (pss_one (ps_set (i := 3) scFirst.nd rfl (Or.inl rfl) (pe_op op_add (pe_bm0 PySem.F.plainAttrs_list PySem.F.slot_list_pop PySem.F.type_list_pop mt_pop (pv 4)) pe_int))))
            (pss_one (ps_ret pe_non))))))))
      (pss_one (ps_ret (pv 4))))), ?_⟩
    obtain ⟨a, k, n, l0, t0, u, rfl, hS, ⟨k0, k3⟩, hn, S0, hG1, hG2⟩ := h
    have hw6 := ways_le k.toNat
    refine ⟨_, rfl, a, _, rfl, .inl hS, fun wa hwa => ?_⟩
    refine ⟨_, rfl, _, rfl, wa, k, toI t0, rfl, ?_, ⟨k0, k3⟩, okS_toI S0.st, ?_, fun H1 pa s1 npa L1 => ?_⟩
    · rw [← nInts_toI]
      exact SqL.of upd_same
    · unfold toI
      rw [List.length_map]
      have := S0.ln
      omega
    rw [nat_toI] at L1
    have hwa1 : H1 wa = some (.lst (nInts t0)) := s1 _ _ upd_same
    have npw : wa ≠ pa := fun e => by
      rw [← e, upd_same] at npa
      cases npa
    have hpa0 : H pa = none := by
      rw [upd_ne npw.symm] at npa
      exact npa
    have s01 : Same H H1 := (same_new hwa).trans s1
    refine ⟨fun m σ H' => ∃ (t : List Nat) (l : Nat) (v : Option V), m = cost (Sh19.ways k.toNat) t l n ∧ σ = [some (.int k), some (.int (n : Nat)), some (.ref a), some (.int (l : Nat)), some (.ref wa), some (.ref pa), v] ∧ Same H H' ∧ H' wa = some (.lst (nInts t)) ∧ Lies H' pa (Sh19.walk k.toNat t) ∧ Seek k.toNat n u t l,
      ⟨_, t0, l0, none, rfl, rfl, s01, hwa1, L1, S0⟩, ?_⟩
    rintro m σ H' ⟨t, l, v, rfl, rfl, s5, h5, L5, S⟩
    have hlt : (nInts t).length = t.length := List.length_map _
    refine ⟨_, rfl, wa, _, rfl, .inl (SqL.of h5), _, rfl, _, _, rfl, rfl, _, rfl, ?_⟩
    rw [hlt]
    by_cases c : ((t.length : Nat) : Int) < (n : Nat)
    · refine if_t (decide_eq_true c) ?_
      have ctn : t.length < n := by omega
      refine ⟨fun σ' H'' => ∃ m', m' < cost (Sh19.ways k.toNat) t l n ∧ ∃ (t' : List Nat) (l' : Nat) (v : Option V), m' = cost (Sh19.ways k.toNat) t' l' n ∧ σ' = [some (.int k), some (.int (n : Nat)), some (.ref a), some (.int (l' : Nat)), some (.ref wa), some (.ref pa), v] ∧ Same H H'' ∧ H'' wa = some (.lst (nInts t')) ∧ Lies H'' pa (Sh19.walk k.toNat t') ∧ Seek k.toNat n u t' l',
        fun σ' H'' z => z, ?_⟩
      obtain ⟨pl, hpl⟩ := walk_last k.toNat t
      refine ⟨_, rfl, _, rfl, _, rfl, pa, k, l, pl, _, rfl, by rw [← hpl]; exact L5, ⟨k0, k3⟩, S.ll, fun H2 D s2 nD hD => ?_⟩
      rw [← hpl] at hD
      have h6 : H2 wa = some (.lst (nInts t)) := s2 _ _ h5
      have L6 := L5.same s2
      have s6 : Same H H2 := s5.trans s2
      refine ⟨_, rfl, (by show 0 ≤ sizeLine; decide), fun b1 hb1 => ?_⟩
      have s7 : Same H2 (upd H2 b1 (.lst [])) := same_new hb1
      have e0 : upd H2 b1 (.lst []) b1 = some (.lst (nInts [])) := upd_same
      refine ⟨_, _, iD_dp (s7 _ _ hD), iD_dp e0, iD_shaped _, iD_shaped _, _, rfl, ?_⟩
      rw [iD_eqv]
      have h7 := s7 _ _ h6
      have hD7 := s7 _ _ hD
      have L7 := L6.same s7
      have s07 : Same H (upd H2 b1 (.lst [])) := s6.trans s7
      generalize upd H2 b1 (.lst []) = H3 at h7 hD7 L7 s07
      obtain ⟨cs, hcs, hlen, hall⟩ := L7.ex
      have nwp : wa ≠ pa := npw
      cases ef : opn k.toNat l (Sh19.walk k.toNat t) (Sh19.ending k.toNat t) with
      | cons f r =>
        rw [ef] at hD7
        have hf : f ∈ opn k.toNat l (Sh19.walk k.toNat t) (Sh19.ending k.toNat t) := by rw [ef]; exact List.mem_cons_self
        obtain ⟨⟨f1, f2⟩, f3⟩ := mem_opn.mp hf
        have hat : atI (nInts (f :: r)) 0 = some (.int (f : Nat)) := L2.at_of (j := 0) rfl rfl
        refine iteT ?_
        refine ⟨_, rfl, .inl ⟨rfl, _, SqL.of h7⟩, _, rfl, D, _, 0, _, rfl, rfl, SqL.of hD7, hat, wa, _, _, rfl, rfl, h7, ?_, ?_⟩
        · rw [hlt]
          exact Nat.lt_of_le_of_lt (show t.length ≤ 100 by omega) (by decide)
        have wD : wa ≠ D := ne_of_none h5 nD
        have st4 : ∀ d x y, H3 d = some (.tup [.int x, .int y]) → upd H3 wa (.lst (nInts t ++ [.int (f : Nat)])) d = some (.tup [.int x, .int y]) := fun d x y e => by
          rw [upd_ne (ne_of e h7 (fun z => nomatch z))]
          exact e
        have s4 : Same H (upd H3 wa (.lst (nInts t ++ [.int (f : Nat)]))) := same_at s07 hwa
        have hw4 : upd H3 wa (.lst (nInts t ++ [.int (f : Nat)])) wa = some (.lst (nInts (t ++ [f]))) := by
          rw [upd_same]
          unfold nInts
          rw [List.map_append]
          rfl
        have hp4 : upd H3 wa (.lst (nInts t ++ [.int (f : Nat)])) pa = some (.lst (cs.map V.ref)) := by
          rw [upd_ne nwp.symm]
          exact hcs
        have hD4 : upd H3 wa (.lst (nInts t ++ [.int (f : Nat)])) D = some (.lst (nInts (f :: r))) := by
          rw [upd_ne wD.symm]
          exact hD7
        generalize upd H3 wa (.lst (nInts t ++ [.int (f : Nat)])) = H4 at st4 s4 hw4 hp4 hD4
        have L4 : Lies H4 pa (pl ++ [Sh19.ending k.toNat t]) := by
          rw [← hpl]
          exact ⟨cs, hp4, hlen, fun i c q a b => st4 _ _ _ (hall i c q a b)⟩
        obtain ⟨cs2, c2, hcs2, hat2, hc2⟩ := L4.last
        refine ⟨_, rfl, .inl ⟨rfl, _, SqL.of hp4⟩, _, rfl, _, rfl, 1, rfl, pa, _, -1, _, rfl, rfl, SqL.of hcs2, hat2, _, rfl, D, _, 0, _, rfl, rfl, SqL.of hD4, hat, c2, k, f, _, _, rfl, SqT.of hc2, ⟨k0, k3⟩, ⟨by omega, by omega⟩, fun q hq => ?_⟩
        have ez : ((f : Nat) : Int).toNat = f := by omega
        rw [ez]
        have npq : pa ≠ q := ne_of_none hp4 hq
        have nwq : wa ≠ q := ne_of_none hw4 hq
        have hp5 : upd H4 q (.tup [.int (Sh19.go k.toNat (Sh19.ending k.toNat t) f).1, .int (Sh19.go k.toNat (Sh19.ending k.toNat t) f).2]) pa = some (.lst (cs.map V.ref)) := by
          rw [upd_ne npq]
          exact hp4
        refine ⟨pa, _, _, rfl, rfl, hp5, ?_, ?_⟩
        · rw [List.length_map, hlen, walk_len]
          exact Nat.lt_of_le_of_lt (show t.length + 1 ≤ 101 by omega) (by decide)
        refine ⟨_, cost_deeper f1 f2 t n ctn, t ++ [f], 0, some (.ref D), rfl, rfl, same_at (s4.trans (same_new hq)) hpa0, ?_, ?_, S.deeper ctn ef⟩
        · rw [upd_ne nwp, upd_ne nwq]
          exact hw4
        · rw [walk_snoc]
          refine lies_snoc (H := H4) hlen (fun i c q a b => st4 _ _ _ (hall i c q a b)) upd_same ?_ (fun d x y e => ?_)
          · rw [upd_ne npq.symm]
            exact upd_same
          · rw [upd_ne (ne_of e hp4 (fun z => nomatch z)), upd_ne (ne_of_none e hq)]
            exact e
      | nil =>
        refine iteF ?_
        refine ⟨_, rfl, (by show 0 ≤ sizeLine; decide), fun b2 hb2 => ?_⟩
        have s8 : Same H3 (upd H3 b2 (.lst [])) := same_new hb2
        have e8 : upd H3 b2 (.lst []) b2 = some (.lst (nInts [])) := upd_same
        refine ⟨_, _, iD_dp (s8 _ _ h7), iD_dp e8, iD_shaped _, iD_shaped _, _, rfl, ?_⟩
        rw [iD_eqv]
        have h9 := s8 _ _ h7
        have s09 : Same H (upd H3 b2 (.lst [])) := s07.trans s8
        have hp9 := s8 _ _ hcs
        have st9 : ∀ d x y, H3 d = some (.tup [.int x, .int y]) → upd H3 b2 (.lst []) d = some (.tup [.int x, .int y]) := fun d x y e => s8 _ _ e
        generalize upd H3 b2 (.lst []) = H4 at h9 s09 hp9 st9
        rcases List.eq_nil_or_concat t with e | ⟨t1, a1, e⟩
        · subst e
          refine iteF ?_
          exact hG1 (S.none ctn ef) H4 s09
        · rw [List.concat_eq_append] at e
          subst e
          have emp : (!(t1 ++ [a1]).isEmpty) = true := by
            rw [List.isEmpty_eq_false_iff.mpr (by simp)]
            rfl
          refine if_t emp ?_
          have hl1 : (t1 ++ [a1]).length = t1.length + 1 := by rw [List.length_append, List.length_singleton]
          have hcl : cs.length = t1.length + 2 := by rw [hlen, walk_len, hl1]
          have hlastc : (cs.map V.ref)[(cs.map V.ref).length - 1]? = some (.ref cs[t1.length + 1]) := by
            have ix : (cs.map V.ref).length - 1 = t1.length + 1 := by
              rw [List.length_map]
              omega
            rw [ix]
            exact get_ref (List.getElem?_eq_getElem (by omega))
          refine ⟨_, rfl, .inl ⟨rfl, _, SqL.of hp9⟩, pa, _, _, rfl, rfl, hp9, hlastc, ?_⟩
          have hw9 : upd H4 pa (.lst (cs.map V.ref).dropLast) wa = some (.lst (nInts (t1 ++ [a1]))) := by
            rw [upd_ne nwp]
            exact h9
          have en : nInts (t1 ++ [a1]) = nInts t1 ++ [.int (a1 : Nat)] := by
            unfold nInts
            rw [List.map_append]
            rfl
          have hlastw : (nInts (t1 ++ [a1]))[(nInts (t1 ++ [a1])).length - 1]? = some (.int (a1 : Nat)) := by
            rw [en, List.length_append, List.length_singleton, Nat.add_sub_cancel, List.getElem?_append_right (Nat.le_refl _), Nat.sub_self]
            rfl
          refine ⟨_, rfl, .inl ⟨rfl, _, SqL.of hw9⟩, wa, _, _, rfl, rfl, hw9, hlastw, _, _, rfl, rfl, ?_⟩
          refine ⟨_, cost_back t1 n (by omega), t1, a1 + 1, some (.ref D), rfl, rfl, same_at (same_at s09 hpa0) hwa, ?_, ?_, S.back ctn ef⟩
          · rw [upd_same, en, List.dropLast_concat]
          · rw [walk_snoc] at hlen hall
            refine lies_pop (H := H4) hlen (fun i c q a b => st9 _ _ _ (hall i c q a b)) ?_ (fun d x y e => ?_)
            · rw [upd_ne nwp.symm]
              exact upd_same
            · rw [upd_ne (ne_of e h9 (fun z => nomatch z)), upd_ne (ne_of e hp9 (fun z => nomatch z))]
              exact e
    · refine if_f (decide_eq_false c) ?_
      have ctn : t.length = n := by
        have := S.ln
        omega
      exact ⟨_, rfl, hG2 t (S.done ctn) H' wa s5 h5⟩
end
end NB
namespace NB
open PySem PySem.Spec PyProof.Rows L2
open PySem.W (Codec)
abbrev sAfter : Stmt := top 15
theorem scAfter : FnScope ["kind", "steps", "n", "at"] ["kind", "steps"] (defScope sAfter) := ⟨rfl, rfl, rfl, by decide +kernel, rfl, by decide +kernel, by decide +kernel⟩
def spAfter (K : PySem.W.Frag) : Sp := fun vs H Q _ => ∃ (a : Addr) (k : Int) (ns : List Int), vs = [.int k, .ref a] ∧ SqL K H a (ns.map V.int) ∧ (0 ≤ k ∧ k < 3) ∧ okS k.toNat ns = true ∧ ns.length ≤ 100 ∧
  Gives H Q ((Sh19.trues k.toNat ns.length).find? (Sh19.after (nat ns)))
theorem toI_nat : ∀ {ns : List Int}, (∀ x ∈ ns, 0 ≤ x) → toI (nat ns) = ns
  | [], _ => rfl
  | x :: r, h => by
    have ih := toI_nat (ns := r) fun y hy => h y (List.mem_cons_of_mem _ hy)
    show ((x.toNat : Nat) : Int) :: toI (nat r) = x :: r
    rw [ih, Int.toNat_of_nonneg (h x List.mem_cons_self)]
theorem cut_take {xs : List V} {m : Nat} (h : m ≤ xs.length) : cutV xs none (some (m : Int)) = xs.take m := by
  unfold cutV
  rw [HT.sIx_none, HT.sIx_nat, List.drop_zero, Nat.sub_zero, Nat.min_eq_left h]
theorem Gives.mono {H H1 : Hp} {Q : VK} {r : Option (List Nat)} (s : Same H H1) (g : Gives H Q r) : Gives H1 Q r := ⟨fun e H' s' => g.1 e H' (s.trans s'), fun u e H' p s' h => g.2 u e H' p (s.trans s') h⟩
section
variable {P : Program} {w : World} {K : PySem.W.Frag} {mg : Str → Option Value} {base : Heap} {M : Addr}
theorem ok_after {f : Addr} {fd : FuncData} (F : Fun K "walk_after" "walk_after" sAfter f fd) (ml : mg "len" = none) (mm : mg "min" = none) (CM : Cal P w K mg base 1 "how_many_differ" ["places"] (spMany K)) (CP : Cal P w K mg base 2 "places_of" ["kind", "steps"] (spPla K))
    (CF : Cal P w K mg base 3 "first_true" ["kind", "n", "start", "least"] (spFirst K)) : FnOk P w K mg base CX0 4 f fd ["kind", "steps"] (spAfter K) := by
  refine F.ok scAfter (fun vs H Q E h => ?_) (fun cdv A outer s H vs Q E hr h => ?_)
  · obtain ⟨a, k, ns, rfl, _⟩ := h
    rfl
  · refine ⟨_, pss_cons (ps_set (i := 2) scAfter.nd rfl (Or.inl rfl) (pe_callB call_len_seq (by rfl) ml PySem.boot_len (pa_cons (pv 1) pa_nil)))
      (pss_cons (ps_set (i := 3) scAfter.nd rfl (Or.inl rfl) (pe_op op_sub (pe_callB (call_min2 rfl) (by rfl) mm (by decide +kernel) (pa_cons (pe_cal CM (hr.mono (by decide)) (pa_cons (pe_cal CP (hr.mono (by decide)) (pa_cons (pv 0) (pa_cons (pv 1) pa_nil))) pa_nil)) (pa_cons (pv 2) pa_nil))) pe_int))
      (pss_cons (ps_if (pt_cmpR op_lt (pv 3) pe_int (nomark _)) (pss_one (ps_ret pe_non)) pss_nil)
      (pss_one (ps_ret (pe_cal CF hr (pa_cons (pv 0) (pa_cons (pv 2) (pa_cons (pe_slice sl_list (pv 1) po_none (po_some (pv 3))) (pa_cons (pe_op op_add (pe_ix ix_list (pv 1) (pv 3) (fun _ _ => rfl)) pe_int) pa_nil))))))))), ?_⟩
    obtain ⟨a, k, ns, rfl, hS, ⟨k0, k3⟩, ok, hn, hG⟩ := h
    have hp : ∀ x ∈ ns, 0 ≤ x := fun x hx => by
      obtain ⟨i, hi, e⟩ := List.getElem_of_mem hx
      exact (okS_at ok (i := i) (by rw [List.getElem?_eq_getElem hi, e])).1
    have hst : ∀ x ∈ nat ns, x < Sh19.ways k.toNat := fun x hx => by
      unfold nat at hx
      obtain ⟨z, hz, rfl⟩ := List.mem_map.mp hx
      obtain ⟨i, hi, e⟩ := List.getElem_of_mem hz
      have q := okS_at ok (i := i) (z := z) (by rw [List.getElem?_eq_getElem hi, e])
      omega
    have hl : (nat ns).length = ns.length := List.length_map _
    have hml : (ns.map V.int).length = ns.length := List.length_map _
    refine ⟨_, rfl, a, _, rfl, .inl hS, ?_⟩
    refine ⟨_, rfl, _, rfl, a, k, ns, rfl, hS, ⟨k0, k3⟩, ok, by omega, fun H1 p s1 np L1 => ?_⟩
    refine ⟨p, _, rfl, L1, by rw [walk_len, hl]; omega, fun d H2 D s2 => ?_⟩
    have s02 : Same H H2 := s1.trans s2
    rw [hml]
    refine ⟨_, rfl, _, _, rfl, _, _, rfl, rfl, ?_⟩
    have em : (if ((ns.length : Nat) : Int) < (d : Nat) then ((ns.length : Nat) : Int) else (d : Nat)) = ((min d ns.length : Nat) : Int) := by
      by_cases c : ((ns.length : Nat) : Int) < (d : Nat)
      · rw [if_pos c]
        omega
      · rw [if_neg c]
        omega
    rw [em]
    refine ⟨_, rfl, _, _, rfl, rfl, _, rfl, ?_⟩
    have dp := D.pos
    cases en : ns.length with
    | zero =>
      have e0 : ns = [] := List.eq_nil_of_length_eq_zero en
      subst e0
      refine if_t (decide_eq_true (by omega)) ?_
      exact hG.1 rfl H2 s02
    | succ n =>
      have hm0 : 0 < min d ns.length := by omega
      have hml2 : min d ns.length ≤ ns.length := Nat.min_le_right _ _
      rw [← en]
      obtain ⟨m, em2⟩ : ∃ m, min d ns.length = m + 1 := ⟨min d ns.length - 1, by omega⟩
      rw [em2]
      have ea : ((m + 1 : Nat) : Int) - 1 = (m : Nat) := by omega
      have hmn : m < ns.length := by omega
      refine if_f (decide_eq_false (by omega)) ?_
      refine ⟨_, rfl, _, rfl, _, rfl, _, rfl, _, rfl, a, _, rfl, s02.seq hS, fun q hq => ?_⟩
      have ex : ns[m]? = some ns[m] := List.getElem?_eq_getElem hmn
      have hat : atI (ns.map V.int) (((m + 1 : Nat) : Int) - 1) = some (.int ns[m]) := by
        rw [ea]
        refine L2.at_of rfl ?_
        rw [List.getElem?_map, ex]
        rfl
      refine ⟨_, rfl, _, rfl, a, _, _, _, rfl, rfl, (s02.trans (same_new hq)).seq hS, hat, _, _, rfl, rfl, ?_⟩
      have hz := okS_at ok ex
      have esp : nat ns = (nat ns).take m ++ (ns[m].toNat :: (nat ns).drop (m + 1)) := by
        have e1 : (nat ns)[m]? = some ns[m].toNat := by
          unfold nat
          rw [List.getElem?_map, ex]
          rfl
        have e2 := List.getElem?_eq_some_iff.mp e1
        obtain ⟨e3, e4⟩ := e2
        rw [← e4, List.getElem_cons_drop, List.take_append_drop]
      have etl : ((nat ns).take m).length = m := by
        rw [List.length_take, hl]
        omega
      have S : Seek k.toNat ns.length (nat ns) ((nat ns).take m) (ns[m].toNat + 1) := by
        have q := Seek.start (k := k.toNat) (d := d) (a := ns[m].toNat) (t := (nat ns).take m) (r := (nat ns).drop (m + 1)) (by rw [← esp]; exact hst) (by rw [← esp]; exact D) (by rw [← esp, etl, hl]; omega)
        rw [← esp, hl] at q
        exact q
      refine ⟨q, k, ns.length, ns[m].toNat + 1, (nat ns).take m, nat ns, ?_, ?_, ⟨k0, k3⟩, hn, S, hG.mono (s02.trans (same_new hq))⟩
      · have e5 : ns[m] + 1 = ((ns[m].toNat + 1 : Nat) : Int) := by omega
        show [V.int k, V.int (ns.length : Nat), V.ref q, V.int (ns[m] + 1)] = _
        rw [e5]
      · refine SqL.of ?_
        rw [upd_same, ea, cut_take (by rw [hml]; omega), nInts_toI]
        have e6 : toI ((nat ns).take m) = ns.take m := by
          have q := toI_nat (ns := ns.take m) fun x hx => hp x (List.mem_of_mem_take hx)
          unfold nat at q ⊢
          rw [← List.map_take]
          exact q
        rw [e6, List.map_take]
end
end NB
namespace NB
open PySem PySem.Spec PyProof.Rows L2
open PySem.W (Codec)
abbrev sNext : Stmt := top 16
theorem scNext : FnScope ["kind", "steps", "refused", "walk"] ["kind", "steps"] (defScope sNext) := ⟨rfl, rfl, rfl, by decide +kernel, rfl, by decide +kernel, by decide +kernel⟩
def spNext (K : PySem.W.Frag) : Sp := fun vs H Q _ => ∃ (a : Addr) (k : Int) (ns : List Int), vs = [.int k, .ref a] ∧ SqL K H a (ns.map V.int) ∧ (∀ x ∈ ns, 0 ≤ x) ∧ ns.length ≤ 8 ∧
  ∀ (H' : Hp) (p : Addr), H' p = some (.lst ((PySh19.next_walk k ns).map V.int)) → Q (.ref p) H'
section
variable {P : Program} {w : World} {K : PySem.W.Frag} {mg : Str → Option Value} {base : Heap} {M : Addr}
theorem ok_next {f : Addr} {fd : FuncData} (F : Fun K "next_walk" "next_walk" sNext f fd) (gN : ∃ t, mg "NONE_AFTER" = some (.int (-5) t)) (CR : Cal P w K mg base 2 "refusal" ["kind", "steps"] (spRef K)) (CA : Cal P w K mg base 4 "walk_after" ["kind", "steps"] (spAfter K)) :
    FnOk P w K mg base CX0 5 f fd ["kind", "steps"] (spNext K) := by
  refine F.ok scNext (fun vs H Q E h => ?_) (fun cdv A outer s H vs Q E hr h => ?_)
  · obtain ⟨a, k, ns, rfl, _⟩ := h
    rfl
  · refine ⟨_, pss_cons (ps_set (i := 2) scNext.nd rfl (Or.inl rfl) (pe_cal CR (hr.mono (by decide)) (pa_cons (pv 0) (pa_cons (pv 1) pa_nil))))
      (pss_cons (ps_if (pt_cmpR op_ne (pv 2) pe_int (nomark _)) (pss_one (ps_ret (pe_lst (pa_cons (pv 2) pa_nil)))) pss_nil)
      (pss_cons (ps_set (i := 3) scNext.nd rfl (Or.inl rfl) (pe_cal CA hr (pa_cons (pv 0) (pa_cons (pv 1) pa_nil))))
      (pss_cons (ps_if (pt_cmpR op_isN (pv 3) pe_non (nomark _)) (pss_one (ps_ret (pe_lst (pa_cons (pe_gi rfl gN) pa_nil)))) pss_nil)
      (pss_one (ps_ret (pe_op op_cat (pe_lst (pa_cons pe_int pa_nil)) (pv 3))))))), ?_⟩
    obtain ⟨a, k, ns, rfl, hS, hp, hn, hQ⟩ := h
    refine ⟨_, rfl, _, rfl, a, k, ns, rfl, hS, ?_⟩
    refine ⟨_, rfl, rfl, _, rfl, ?_⟩
    by_cases c : refu k ns = 0
    · refine if_f (by rw [c]; rfl) ?_
      obtain ⟨ci, co⟩ := refu_zero c
      obtain ⟨k0, k3, kn⟩ := inR_bd ci
      have due := next_ok hp c
      refine ⟨_, rfl, _, rfl, a, k, ns, rfl, hS, ⟨k0, k3⟩, co, by omega, fun e H1 s1 => ?_, fun u e H1 p s1 h1 => ?_⟩
      · rw [e] at due
        refine ⟨_, rfl, rfl, _, rfl, ?_⟩
        refine if_t (decide_eq_true rfl) ?_
        refine ⟨(by show 1 ≤ sizeLine; decide), fun q hq => hQ _ q ?_⟩
        rw [due]
        exact upd_same
      · rw [e] at due
        have hlu : u.length = ns.length := by
          obtain ⟨h2, _⟩ := List.find?_eq_some_iff_append.mp e
          exact (mem_trues.mp (List.mem_of_find?_eq_some e)).1.1
        refine ⟨_, rfl, rfl, _, rfl, ?_⟩
        refine if_f (decide_eq_false (fun z => nomatch z)) ?_
        refine ⟨(by show 1 ≤ sizeLine; decide), fun b hb => ?_⟩
        refine ⟨_, rfl, b, p, _, _, rfl, rfl, upd_same, by rw [upd_ne (ne_of_none h1 hb)]; exact h1, ?_, fun q hq => hQ _ q ?_⟩
        · unfold nInts
          rw [List.length_map, List.length_singleton, hlu]
          exact Nat.le_trans (show 1 + ns.length ≤ 9 by omega) (by decide)
        · rw [due, upd_same]
          show some (HO.lst ([V.int 0] ++ nInts u)) = some (HO.lst (V.int 0 :: (Sh19.whole u).map V.int))
          unfold nInts Sh19.whole
          rw [List.map_map]
          rfl
    · refine if_t (by rw [decide_eq_false (fun z => c (V.int.inj z))]; rfl) ?_
      refine ⟨_, rfl, (by show 1 ≤ sizeLine; decide), fun q hq => ?_⟩
      refine hQ _ q ?_
      rw [next_refused hp c]
      exact upd_same
end
end NB
namespace NB
open PySem PySem.Spec PyProof.Rows L2
open PySem.W (Codec)
theorem all_mk {P : Program} {w : World} {K : PySem.W.Frag} {h : Heap} {mg : Str → Option Value} {fa M : Addr} {f1 f2 f3 f4 f5 f6 f7 f8 f9 f10 : Addr} (X : K.In h) (G : h.Ns mainGlobals mg) (hfa : mg "next_walk" = some (.ref fa))
    {od1 an1 od2 an2 od3 an3 od4 an4 od5 an5 od6 an6 od7 an7 od8 an8 od9 an9 od10 an10 : Option Addr} {sl1 sl2 sl3 sl4 sl5 sl6 sl7 sl8 sl9 sl10 : Array (Option Value)} {oc1 kV1 dc1 pm1 cd1 ct1 oc2 kV2 dc2 pm2 cd2 ct2 oc3 kV3 dc3 pm3 cd3 ct3 oc4 kV4 dc4 pm4 cd4 ct4 oc5 kV5 dc5 pm5 cd5 ct5 oc6 kV6 dc6 pm6 cd6 ct6 oc7 kV7 dc7 pm7 cd7 ct7 oc8 kV8 dc8 pm8 cd8 ct8 oc9 kV9 dc9 pm9 cd9 ct9 oc10 kV10 dc10 pm10 cd10 ct10 : Value}
    {t_OUT_OF_RANGE t_WRONG_STEPS t_NONE_AFTER t_MOST_STEPS t_HONEYCOMB : Tok} {u0 u1 u2 : Addr} {dM d0 d1 d2 : Option Addr} {sM s0 s1 s2 : Array (Option Value)} {nM n0 n1 n2 : Nat}
    {e00 e01 e02 e03 e10 e11 e12 e13 e14 e15 e20 e21 e22 : Addr} {g00 g01 g02 g03 g10 g11 g12 g13 g14 g15 g20 g21 g22 : Option Addr} {h00 h01 h02 h03 h10 h11 h12 h13 h14 h15 h20 h21 h22 : Array (Option Value)} {m00 m01 m02 m03 m10 m11 m12 m13 m14 m15 m20 m21 m22 : Nat} {x00 y00 x01 y01 x02 y02 x03 y03 x10 y10 x11 y11 x12 y12 x13 y13 x14 y14 x15 y15 x20 y20 x21 y21 x22 y22 : Tok}
    (a1 : PySem.W.nsIn K mainGlobals "is_kind" = some (some (.ref f1))) (l1 : K.lookup f1 = some ⟨oc1, od1, .func (PySem.W.fnOf "is_kind" "is_kind" (defArgs sKind) (defBody sKind) (defScope sKind) .none kV1 dc1 pm1 an1 cd1 ct1), sl1⟩) (c1 : PySem.W.codeIn K cd1 "is_kind" = true) (k1 : PySem.W.keepIn K (.ref f1) = true)
    (a2 : PySem.W.nsIn K mainGlobals "are_steps" = some (some (.ref f2))) (l2 : K.lookup f2 = some ⟨oc2, od2, .func (PySem.W.fnOf "are_steps" "are_steps" (defArgs sAre) (defBody sAre) (defScope sAre) .none kV2 dc2 pm2 an2 cd2 ct2), sl2⟩) (c2 : PySem.W.codeIn K cd2 "are_steps" = true) (k2 : PySem.W.keepIn K (.ref f2) = true)
    (a3 : PySem.W.nsIn K mainGlobals "refusal" = some (some (.ref f3))) (l3 : K.lookup f3 = some ⟨oc3, od3, .func (PySem.W.fnOf "refusal" "refusal" (defArgs sRef) (defBody sRef) (defScope sRef) .none kV3 dc3 pm3 an3 cd3 ct3), sl3⟩) (c3 : PySem.W.codeIn K cd3 "refusal" = true) (k3 : PySem.W.keepIn K (.ref f3) = true)
    (a4 : PySem.W.nsIn K mainGlobals "place_after" = some (some (.ref f4))) (l4 : K.lookup f4 = some ⟨oc4, od4, .func (PySem.W.fnOf "place_after" "place_after" (defArgs sAft) (defBody sAft) (defScope sAft) .none kV4 dc4 pm4 an4 cd4 ct4), sl4⟩) (c4 : PySem.W.codeIn K cd4 "place_after" = true) (k4 : PySem.W.keepIn K (.ref f4) = true)
    (a5 : PySem.W.nsIn K mainGlobals "places_of" = some (some (.ref f5))) (l5 : K.lookup f5 = some ⟨oc5, od5, .func (PySem.W.fnOf "places_of" "places_of" (defArgs sPla) (defBody sPla) (defScope sPla) .none kV5 dc5 pm5 an5 cd5 ct5), sl5⟩) (c5 : PySem.W.codeIn K cd5 "places_of" = true) (k5 : PySem.W.keepIn K (.ref f5) = true)
    (a6 : PySem.W.nsIn K mainGlobals "how_many_differ" = some (some (.ref f6))) (l6 : K.lookup f6 = some ⟨oc6, od6, .func (PySem.W.fnOf "how_many_differ" "how_many_differ" (defArgs sMany) (defBody sMany) (defScope sMany) .none kV6 dc6 pm6 an6 cd6 ct6), sl6⟩) (c6 : PySem.W.codeIn K cd6 "how_many_differ" = true) (k6 : PySem.W.keepIn K (.ref f6) = true)
    (a7 : PySem.W.nsIn K mainGlobals "open_steps" = some (some (.ref f7))) (l7 : K.lookup f7 = some ⟨oc7, od7, .func (PySem.W.fnOf "open_steps" "open_steps" (defArgs sOpn) (defBody sOpn) (defScope sOpn) .none kV7 dc7 pm7 an7 cd7 ct7), sl7⟩) (c7 : PySem.W.codeIn K cd7 "open_steps" = true) (k7 : PySem.W.keepIn K (.ref f7) = true)
    (a8 : PySem.W.nsIn K mainGlobals "first_true" = some (some (.ref f8))) (l8 : K.lookup f8 = some ⟨oc8, od8, .func (PySem.W.fnOf "first_true" "first_true" (defArgs sFirst) (defBody sFirst) (defScope sFirst) .none kV8 dc8 pm8 an8 cd8 ct8), sl8⟩) (c8 : PySem.W.codeIn K cd8 "first_true" = true) (k8 : PySem.W.keepIn K (.ref f8) = true)
    (a9 : PySem.W.nsIn K mainGlobals "walk_after" = some (some (.ref f9))) (l9 : K.lookup f9 = some ⟨oc9, od9, .func (PySem.W.fnOf "walk_after" "walk_after" (defArgs sAfter) (defBody sAfter) (defScope sAfter) .none kV9 dc9 pm9 an9 cd9 ct9), sl9⟩) (c9 : PySem.W.codeIn K cd9 "walk_after" = true) (k9 : PySem.W.keepIn K (.ref f9) = true)
    (a10 : PySem.W.nsIn K mainGlobals "next_walk" = some (some (.ref f10))) (l10 : K.lookup f10 = some ⟨oc10, od10, .func (PySem.W.fnOf "next_walk" "next_walk" (defArgs sNext) (defBody sNext) (defScope sNext) .none kV10 dc10 pm10 an10 cd10 ct10), sl10⟩) (c10 : PySem.W.codeIn K cd10 "next_walk" = true) (k10 : PySem.W.keepIn K (.ref f10) = true)
    (v_OUT_OF_RANGE : PySem.W.nsIn K mainGlobals "OUT_OF_RANGE" = some (some (.int (-2) t_OUT_OF_RANGE)))
    (v_WRONG_STEPS : PySem.W.nsIn K mainGlobals "WRONG_STEPS" = some (some (.int (-3) t_WRONG_STEPS)))
    (v_NONE_AFTER : PySem.W.nsIn K mainGlobals "NONE_AFTER" = some (some (.int (-5) t_NONE_AFTER)))
    (v_MOST_STEPS : PySem.W.nsIn K mainGlobals "MOST_STEPS" = some (some (.int 4096 t_MOST_STEPS)))
    (v_HONEYCOMB : PySem.W.nsIn K mainGlobals "HONEYCOMB" = some (some (.int 2 t_HONEYCOMB)))
    (vm : PySem.W.nsIn K mainGlobals "MOVES" = some (some (.ref M))) (vM : K.lookup M = some ⟨.type "tuple", dM, .seq #[.ref u0, .ref u1, .ref u2] nM, sM⟩)
    (r0 : K.lookup u0 = some ⟨.type "tuple", d0, .seq #[.ref e00, .ref e01, .ref e02, .ref e03] n0, s0⟩)
    (r1 : K.lookup u1 = some ⟨.type "tuple", d1, .seq #[.ref e10, .ref e11, .ref e12, .ref e13, .ref e14, .ref e15] n1, s1⟩)
    (r2 : K.lookup u2 = some ⟨.type "tuple", d2, .seq #[.ref e20, .ref e21, .ref e22] n2, s2⟩)
    (w00 : K.lookup e00 = some ⟨.type "tuple", g00, .seq #[.int 1 x00, .int 0 y00] m00, h00⟩)
    (w01 : K.lookup e01 = some ⟨.type "tuple", g01, .seq #[.int 0 x01, .int 1 y01] m01, h01⟩)
    (w02 : K.lookup e02 = some ⟨.type "tuple", g02, .seq #[.int (-1) x02, .int 0 y02] m02, h02⟩)
    (w03 : K.lookup e03 = some ⟨.type "tuple", g03, .seq #[.int 0 x03, .int (-1) y03] m03, h03⟩)
    (w10 : K.lookup e10 = some ⟨.type "tuple", g10, .seq #[.int 1 x10, .int 0 y10] m10, h10⟩)
    (w11 : K.lookup e11 = some ⟨.type "tuple", g11, .seq #[.int 0 x11, .int 1 y11] m11, h11⟩)
    (w12 : K.lookup e12 = some ⟨.type "tuple", g12, .seq #[.int (-1) x12, .int 1 y12] m12, h12⟩)
    (w13 : K.lookup e13 = some ⟨.type "tuple", g13, .seq #[.int (-1) x13, .int 0 y13] m13, h13⟩)
    (w14 : K.lookup e14 = some ⟨.type "tuple", g14, .seq #[.int 0 x14, .int (-1) y14] m14, h14⟩)
    (w15 : K.lookup e15 = some ⟨.type "tuple", g15, .seq #[.int 1 x15, .int (-1) y15] m15, h15⟩)
    (w20 : K.lookup e20 = some ⟨.type "tuple", g20, .seq #[.int 1 x20, .int 0 y20] m20, h20⟩)
    (w21 : K.lookup e21 = some ⟨.type "tuple", g21, .seq #[.int (-1) x21, .int 0 y21] m21, h21⟩)
    (w22 : K.lookup e22 = some ⟨.type "tuple", g22, .seq #[.int 0 x22, .int 1 y22] m22, h22⟩)
    (z_len : PySem.W.nsIn K mainGlobals "len" = some none)
    (z_range : PySem.W.nsIn K mainGlobals "range" = some none)
    (z_min : PySem.W.nsIn K mainGlobals "min" = some none)
    (z_list : PySem.W.nsIn K mainGlobals "list" = some none) :
    ∃ fd : FuncData, (∀ (s : Shared) (us : List Value), us.length = (["kind", "steps"] : List Str).length → BindsTo s fd ⟨us, []⟩ ((["kind", "steps"] : List Str).zip us)) ∧ ∀ base : Heap, K.In base → base.Ns mainGlobals mg → FnOk P w K mg base L2.CX0 5 fa fd ["kind", "steps"] (spNext K) := by
  have e := hfa.symm.trans (PySem.W.mg_of X G a10)
  cases e
  have tm : ∃ rows : List Addr, TupK K M (rows.map V.ref) ∧ rows.length = 3 ∧ ∀ k, k < 3 → ∃ (r : Addr) (cs : List Addr), rows[k]? = some r ∧ TupK K r (cs.map V.ref) ∧ cs.length = Sh19.ways k ∧
      ∀ s, s < Sh19.ways k → ∃ c, cs[s]? = some c ∧ TupK K c [.int (movAt k s).1, .int (movAt k s).2] := by
    refine ⟨[u0, u1, u2], (.inr ⟨_, _, _, vM, rfl, rfl, (by show 3 ≤ sizeLine; decide), .cons rfl (.cons rfl (.cons rfl .nil))⟩), rfl, fun k hk => ?_⟩
    match k, hk with
    | 0, _ =>
      refine ⟨u0, [e00, e01, e02, e03], rfl, (.inr ⟨_, _, _, r0, rfl, rfl, (by show 4 ≤ sizeLine; decide), .cons rfl (.cons rfl (.cons rfl (.cons rfl (.nil))))⟩), rfl, fun s hs => ?_⟩
      match s, hs with
      | 0, _ => exact ⟨e00, rfl, .inr ⟨_, _, _, w00, rfl, rfl, (by show 2 ≤ sizeLine; decide), .cons ⟨_, rfl⟩ (.cons ⟨_, rfl⟩ .nil)⟩⟩
      | 1, _ => exact ⟨e01, rfl, .inr ⟨_, _, _, w01, rfl, rfl, (by show 2 ≤ sizeLine; decide), .cons ⟨_, rfl⟩ (.cons ⟨_, rfl⟩ .nil)⟩⟩
      | 2, _ => exact ⟨e02, rfl, .inr ⟨_, _, _, w02, rfl, rfl, (by show 2 ≤ sizeLine; decide), .cons ⟨_, rfl⟩ (.cons ⟨_, rfl⟩ .nil)⟩⟩
      | 3, _ => exact ⟨e03, rfl, .inr ⟨_, _, _, w03, rfl, rfl, (by show 2 ≤ sizeLine; decide), .cons ⟨_, rfl⟩ (.cons ⟨_, rfl⟩ .nil)⟩⟩
      | s + 4, hs => exact absurd hs (by rw [ways0]; omega)
    | 1, _ =>
      refine ⟨u1, [e10, e11, e12, e13, e14, e15], rfl, (.inr ⟨_, _, _, r1, rfl, rfl, (by show 6 ≤ sizeLine; decide), .cons rfl (.cons rfl (.cons rfl (.cons rfl (.cons rfl (.cons rfl (.nil))))))⟩), rfl, fun s hs => ?_⟩
      match s, hs with
      | 0, _ => exact ⟨e10, rfl, .inr ⟨_, _, _, w10, rfl, rfl, (by show 2 ≤ sizeLine; decide), .cons ⟨_, rfl⟩ (.cons ⟨_, rfl⟩ .nil)⟩⟩
      | 1, _ => exact ⟨e11, rfl, .inr ⟨_, _, _, w11, rfl, rfl, (by show 2 ≤ sizeLine; decide), .cons ⟨_, rfl⟩ (.cons ⟨_, rfl⟩ .nil)⟩⟩
      | 2, _ => exact ⟨e12, rfl, .inr ⟨_, _, _, w12, rfl, rfl, (by show 2 ≤ sizeLine; decide), .cons ⟨_, rfl⟩ (.cons ⟨_, rfl⟩ .nil)⟩⟩
      | 3, _ => exact ⟨e13, rfl, .inr ⟨_, _, _, w13, rfl, rfl, (by show 2 ≤ sizeLine; decide), .cons ⟨_, rfl⟩ (.cons ⟨_, rfl⟩ .nil)⟩⟩
      | 4, _ => exact ⟨e14, rfl, .inr ⟨_, _, _, w14, rfl, rfl, (by show 2 ≤ sizeLine; decide), .cons ⟨_, rfl⟩ (.cons ⟨_, rfl⟩ .nil)⟩⟩
      | 5, _ => exact ⟨e15, rfl, .inr ⟨_, _, _, w15, rfl, rfl, (by show 2 ≤ sizeLine; decide), .cons ⟨_, rfl⟩ (.cons ⟨_, rfl⟩ .nil)⟩⟩
      | s + 6, hs => exact absurd hs (by rw [ways1]; omega)
    | 2, _ =>
      refine ⟨u2, [e20, e21, e22], rfl, (.inr ⟨_, _, _, r2, rfl, rfl, (by show 3 ≤ sizeLine; decide), .cons rfl (.cons rfl (.cons rfl (.nil)))⟩), rfl, fun s hs => ?_⟩
      match s, hs with
      | 0, _ => exact ⟨e20, rfl, .inr ⟨_, _, _, w20, rfl, rfl, (by show 2 ≤ sizeLine; decide), .cons ⟨_, rfl⟩ (.cons ⟨_, rfl⟩ .nil)⟩⟩
      | 1, _ => exact ⟨e21, rfl, .inr ⟨_, _, _, w21, rfl, rfl, (by show 2 ≤ sizeLine; decide), .cons ⟨_, rfl⟩ (.cons ⟨_, rfl⟩ .nil)⟩⟩
      | 2, _ => exact ⟨e22, rfl, .inr ⟨_, _, _, w22, rfl, rfl, (by show 2 ≤ sizeLine; decide), .cons ⟨_, rfl⟩ (.cons ⟨_, rfl⟩ .nil)⟩⟩
      | s + 3, hs => exact absurd hs (by rw [ways2]; omega)
    | k + 3, hk => exact absurd hk (by omega)
  have m_len := PySem.W.mg_none_of X G z_len
  have m_range := PySem.W.mg_none_of X G z_range
  have m_min := PySem.W.mg_none_of X G z_min
  have m_list := PySem.W.mg_none_of X G z_list
  have g_OUT_OF_RANGE : ∃ t, mg "OUT_OF_RANGE" = some (.int (-2) t) := ⟨_, PySem.W.mg_of X G v_OUT_OF_RANGE⟩
  have g_WRONG_STEPS : ∃ t, mg "WRONG_STEPS" = some (.int (-3) t) := ⟨_, PySem.W.mg_of X G v_WRONG_STEPS⟩
  have g_NONE_AFTER : ∃ t, mg "NONE_AFTER" = some (.int (-5) t) := ⟨_, PySem.W.mg_of X G v_NONE_AFTER⟩
  have g_MOST_STEPS : ∃ t, mg "MOST_STEPS" = some (.int 4096 t) := ⟨_, PySem.W.mg_of X G v_MOST_STEPS⟩
  have g_HONEYCOMB : ∃ t, mg "HONEYCOMB" = some (.int 2 t) := ⟨_, PySem.W.mg_of X G v_HONEYCOMB⟩
  have T : Txt K mg M := ⟨m_len, g_HONEYCOMB, PySem.W.mg_of X G vm, tm⟩
  have F1 := fun_mk (st := sKind) l1 c1 k1
  have b1 := F1.binds (ps := ["kind"]) fun _ _ _ _ _ _ us hl => match us, hl with | [_], _ => rfl
  have j1 := PySem.W.mg_of X G a1
  have F2 := fun_mk (st := sAre) l2 c2 k2
  have b2 := F2.binds (ps := ["kind", "steps"]) fun _ _ _ _ _ _ us hl => match us, hl with | [_, _], _ => rfl
  have j2 := PySem.W.mg_of X G a2
  have F3 := fun_mk (st := sRef) l3 c3 k3
  have b3 := F3.binds (ps := ["kind", "steps"]) fun _ _ _ _ _ _ us hl => match us, hl with | [_, _], _ => rfl
  have j3 := PySem.W.mg_of X G a3
  have F4 := fun_mk (st := sAft) l4 c4 k4
  have b4 := F4.binds (ps := ["kind", "place", "step"]) fun _ _ _ _ _ _ us hl => match us, hl with | [_, _, _], _ => rfl
  have j4 := PySem.W.mg_of X G a4
  have F5 := fun_mk (st := sPla) l5 c5 k5
  have b5 := F5.binds (ps := ["kind", "steps"]) fun _ _ _ _ _ _ us hl => match us, hl with | [_, _], _ => rfl
  have j5 := PySem.W.mg_of X G a5
  have F6 := fun_mk (st := sMany) l6 c6 k6
  have b6 := F6.binds (ps := ["places"]) fun _ _ _ _ _ _ us hl => match us, hl with | [_], _ => rfl
  have j6 := PySem.W.mg_of X G a6
  have F7 := fun_mk (st := sOpn) l7 c7 k7
  have b7 := F7.binds (ps := ["kind", "places", "least"]) fun _ _ _ _ _ _ us hl => match us, hl with | [_, _, _], _ => rfl
  have j7 := PySem.W.mg_of X G a7
  have F8 := fun_mk (st := sFirst) l8 c8 k8
  have b8 := F8.binds (ps := ["kind", "n", "start", "least"]) fun _ _ _ _ _ _ us hl => match us, hl with | [_, _, _, _], _ => rfl
  have j8 := PySem.W.mg_of X G a8
  have F9 := fun_mk (st := sAfter) l9 c9 k9
  have b9 := F9.binds (ps := ["kind", "steps"]) fun _ _ _ _ _ _ us hl => match us, hl with | [_, _], _ => rfl
  have j9 := PySem.W.mg_of X G a9
  have F10 := fun_mk (st := sNext) l10 c10 k10
  have b10 := F10.binds (ps := ["kind", "steps"]) fun _ _ _ _ _ _ us hl => match us, hl with | [_, _], _ => rfl
  have j10 := PySem.W.mg_of X G a10
  have C_is_kind : ∀ B : Heap, Cal P w K mg B 1 "is_kind" ["kind"] (spKind K) := fun B => ⟨_, _, ok_kind F1 T, F1.kp, b1, j1⟩
  have C_are_steps : ∀ B : Heap, Cal P w K mg B 1 "are_steps" ["kind", "steps"] (spAre K) := fun B => ⟨_, _, ok_are F2 T, F2.kp, b2, j2⟩
  have C_refusal : ∀ B : Heap, Cal P w K mg B 2 "refusal" ["kind", "steps"] (spRef K) := fun B => ⟨_, _, ok_ref F3 T g_OUT_OF_RANGE g_WRONG_STEPS g_MOST_STEPS (C_is_kind B) (C_are_steps B), F3.kp, b3, j3⟩
  have C_place_after : ∀ B : Heap, Cal P w K mg B 1 "place_after" ["kind", "place", "step"] (spAft K) := fun B => ⟨_, _, ok_aft F4 T, F4.kp, b4, j4⟩
  have C_places_of : ∀ B : Heap, Cal P w K mg B 2 "places_of" ["kind", "steps"] (spPla K) := fun B => ⟨_, _, ok_pla F5 (C_place_after B), F5.kp, b5, j5⟩
  have C_how_many_differ : ∀ B : Heap, Cal P w K mg B 1 "how_many_differ" ["places"] (spMany K) := fun B => ⟨_, _, ok_many F6 m_len, F6.kp, b6, j6⟩
  have C_open_steps : ∀ B : Heap, Cal P w K mg B 2 "open_steps" ["kind", "places", "least"] (spOpn K) := fun B => ⟨_, _, ok_opn F7 T m_range (C_place_after B), F7.kp, b7, j7⟩
  have C_first_true : ∀ B : Heap, Cal P w K mg B 3 "first_true" ["kind", "n", "start", "least"] (spFirst K) := fun B => ⟨_, _, ok_first F8 m_len m_list (C_places_of B) (C_open_steps B) (C_place_after B), F8.kp, b8, j8⟩
  have C_walk_after : ∀ B : Heap, Cal P w K mg B 4 "walk_after" ["kind", "steps"] (spAfter K) := fun B => ⟨_, _, ok_after F9 m_len m_min (C_how_many_differ B) (C_places_of B) (C_first_true B), F9.kp, b9, j9⟩
  refine ⟨PySem.W.fnOf "next_walk" "next_walk" (defArgs sNext) (defBody sNext) (defScope sNext) .none kV10 dc10 pm10 an10 cd10 ct10, fun s us hu => match us, hu with | [_, _], _ => .of_eq rfl, fun base KB _ => ?_⟩
  exact ok_next F10 g_NONE_AFTER (C_refusal base) (C_walk_after base)
end NB
open PySem PySem.W PyProof.Rows
set_option maxRecDepth 100000 in
set_option maxHeartbeats 8000000 in
theorem PySem.Challenge.cw_neverback_s03_next_walk_holds : PySem.Challenge.rw_neverback_s03_next_walk.Holds := by
  w_on; k_headS; (case hw => exact ⟨[.int 0, .list []], by decide +kernel, by decide +kernel⟩)
  k_fillS
  refine L2.walk_specK (r := PySem.Challenge.rw_neverback_s03_next_walk) (k := 5) (CX := L2.CX0) (ps := ["kind", "steps"]) (sp := NB.spNext) (by decide +kernel) rfl rfl ⟨rfl, by decide, by decide⟩ (fun w h Y => PySem.W.kIn_of Y) ?F ?S (fun _ _ _ _ z => z)
  case F =>
    intro w mg fa h Y KX G hmg
    refine' NB.all_mk KX G hmg ?a1 ?l1 ?c1 ?k1 ?a2 ?l2 ?c2 ?k2 ?a3 ?l3 ?c3 ?k3 ?a4 ?l4 ?c4 ?k4 ?a5 ?l5 ?c5 ?k5 ?a6 ?l6 ?c6 ?k6 ?a7 ?l7 ?c7 ?k7 ?a8 ?l8 ?c8 ?k8 ?a9 ?l9 ?c9 ?k9 ?a10 ?l10 ?c10 ?k10 ?v_OUT_OF_RANGE ?v_WRONG_STEPS ?v_NONE_AFTER ?v_MOST_STEPS ?v_HONEYCOMB ?vm ?vM ?r0 ?r1 ?r2 ?w00 ?w01 ?w02 ?w03 ?w10 ?w11 ?w12 ?w13 ?w14 ?w15 ?w20 ?w21 ?w22 ?z_len ?z_range ?z_min ?z_list
    (case a1 => k_is)
    (case l1 => k_is)
    (case c1 => k_is)
    (case k1 => k_is)
    (case a2 => k_is)
    (case l2 => k_is)
    (case c2 => k_is)
    (case k2 => k_is)
    (case a3 => k_is)
    (case l3 => k_is)
    (case c3 => k_is)
    (case k3 => k_is)
    (case a4 => k_is)
    (case l4 => k_is)
    (case c4 => k_is)
    (case k4 => k_is)
    (case a5 => k_is)
    (case l5 => k_is)
    (case c5 => k_is)
    (case k5 => k_is)
    (case a6 => k_is)
    (case l6 => k_is)
    (case c6 => k_is)
    (case k6 => k_is)
    (case a7 => k_is)
    (case l7 => k_is)
    (case c7 => k_is)
    (case k7 => k_is)
    (case a8 => k_is)
    (case l8 => k_is)
    (case c8 => k_is)
    (case k8 => k_is)
    (case a9 => k_is)
    (case l9 => k_is)
    (case c9 => k_is)
    (case k9 => k_is)
    (case a10 => k_is)
    (case l10 => k_is)
    (case c10 => k_is)
    (case k10 => k_is)
    (case v_OUT_OF_RANGE => k_is)
    (case v_WRONG_STEPS => k_is)
    (case v_NONE_AFTER => k_is)
    (case v_MOST_STEPS => k_is)
    (case v_HONEYCOMB => k_is)
    (case vm => k_is)
    (case vM => k_is)
    (case r0 => k_is)
    (case r1 => k_is)
    (case r2 => k_is)
    (case w00 => k_is)
    (case w01 => k_is)
    (case w02 => k_is)
    (case w03 => k_is)
    (case w10 => k_is)
    (case w11 => k_is)
    (case w12 => k_is)
    (case w13 => k_is)
    (case w14 => k_is)
    (case w15 => k_is)
    (case w20 => k_is)
    (case w21 => k_is)
    (case w22 => k_is)
    (case z_len => k_is)
    (case z_range => k_is)
    (case z_min => k_is)
    (case z_list => k_is)
  case S =>
    intro K H xs a hO hwi hask hx
    cases hx with
    | cons h1 h2 =>
      cases h2 with
      | cons h2 h3 =>
        cases h3
        cases h1
        cases h2 with
        | lst hs ha =>
          have e := L2.ints_dw a.2.1 _ ha
          subst e
          have q : (Codec.inInt 0 2147483647 a.1 && ((Codec.inLen 0 8 a.2.1 && a.2.1.all (Codec.inInt 0 255)) && true)) = true := hwi
          rw [Bool.and_eq_true, Bool.and_eq_true, Bool.and_eq_true] at q
          refine ⟨_, a.1, a.2.1, rfl, hs, fun x hx => ?_, (Codec.inNat_iff.mp q.2.1.1).2, fun H' p hp => .lst (L2.SqL.of hp) (L2.dw_ints _)⟩
          have q2 := List.all_eq_true.mp q.2.1.2 x hx
          unfold Codec.inInt at q2
          rw [Bool.and_eq_true] at q2
          exact of_decide_eq_true q2.1
#print axioms PySem.Challenge.cw_neverback_s03_next_walk_holds
