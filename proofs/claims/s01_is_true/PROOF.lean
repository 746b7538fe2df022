import PyProof.Rows.All
import Wide.All
import OpenK.AllK
import Wide.FinOn
import Open.SpecLaws
import KE.OsGo
import HandS.ForSpec
import HandS.TupSets
import PySem.Challenge.RW_neverback_s01_is_true
set_option Elab.async false
set_option maxRecDepth 100000
set_option maxHeartbeats 2000000
namespace NS
open PySem PySem.Spec PyProof.Rows L2
/-! ## Sets of tuples of ints, up to 255 of them. The library's own (HandS.TupSets) stops below 64: a table of 512 slots is wanted here -/
/-! ### the round of a mask -/
structure Full (m : Nat) : Prop where
  all : ∀ j, j ≤ m → ∃ b, b ≤ m ∧ lcgN m b = j
  back : lcgN m (m + 1) = 0
  odd : m % 2 = 1
  few : m ≤ 511
theorem Full.per {m : Nat} (F : Full m) : ∀ n, lcgN m (m + 1 + n) = lcgN m n
  | 0 => F.back
  | n + 1 => congrArg (fun x => (x * 5 + 1) % (m + 1)) (F.per n)
theorem Full.hit {m : Nat} (F : Full m) {i j : Nat} (hi : i ≤ m) (hj : j ≤ m) : ∃ n, n ≤ m ∧ lcgI m i n = j := by
  obtain ⟨a, a1, a2⟩ := F.all i hi
  obtain ⟨b, b1, b2⟩ := F.all j hj
  by_cases c : a ≤ b
  · exact ⟨b - a, by omega, by rw [← a2, lcgN_add, show a + (b - a) = b by omega, b2]⟩
  · exact ⟨m + 1 + b - a, by omega, by rw [← a2, lcgN_add, show a + (m + 1 + b - a) = m + 1 + b by omega, F.per, b2]⟩
def roll (m : Nat) : Nat → Nat → List Nat
  | 0, _ => []
  | f + 1, x => x :: roll m f ((x * 5 + 1) % (m + 1))
theorem roll_in (m : Nat) : ∀ (f a j : Nat), j ∈ roll m f (lcgN m a) → ∃ b, b < f ∧ lcgN m (a + b) = j
  | 0, _, _, h => absurd h (by simp [roll])
  | f + 1, a, j, h => by
    rcases List.mem_cons.mp (show j ∈ lcgN m a :: roll m f (lcgN m (a + 1)) from h) with e | h
    · exact ⟨0, Nat.succ_pos _, e.symm⟩
    · obtain ⟨b, b1, b2⟩ := roll_in m f (a + 1) j h
      exact ⟨b + 1, by omega, by rw [← b2, show a + (b + 1) = a + 1 + b by omega]⟩
theorem Full.of {m : Nat} (h : ((List.range (m + 1)).all fun j => (roll m (m + 1) 0).contains j) = true) (hb : lcgN m (m + 1) = 0) (ho : m % 2 = 1) (hf : m ≤ 511) : Full m := by
  refine ⟨fun j hj => ?_, hb, ho, hf⟩
  have q := List.all_eq_true.mp h j (List.mem_range.mpr (by omega))
  obtain ⟨b, b1, b2⟩ := roll_in m (m + 1) 0 j (show j ∈ roll m (m + 1) 0 by simpa using q)
  exact ⟨b, by omega, by rw [← b2, Nat.zero_add]⟩
theorem full7 : Full 7 := .of (by decide +kernel) (by decide +kernel) rfl (by decide)
theorem full31 : Full 31 := .of (by decide +kernel) (by decide +kernel) rfl (by decide)
theorem full127 : Full 127 := .of (by decide +kernel) (by decide +kernel) rfl (by decide)
theorem full511 : Full 511 := .of (by decide +kernel) (by decide +kernel) rfl (by decide)
/-! ### the way of a hash: its probes, one after another -/
abbrev pr (m : Nat) (h : Int) (c : Nat) : SetTable.Probe := nth m (runAt m (SetTable.bits h % (m + 1)) (SetTable.bits h)) c
theorem pr_add (m : Nat) (h : Int) (c q : Nat) : nth m (pr m h c) q = pr m h (c + q) := (nth_add m c _ q).symm
theorem pr_free (m : Nat) (h : Int) : ∀ c, (pr m h c).dummy = none
  | 0 => rfl
  | c + 1 => by
    have ih := pr_free m h c
    show (nth m (runAt m (SetTable.bits h % (m + 1)) (SetTable.bits h)) (c + 1)).dummy = none
    rw [nth_succ]
    unfold adv
    split <;> exact ih
theorem way_bd (m : Nat) (h : Int) (c : Nat) : way m h c ≤ m := by
  have b0 : SetTable.bits h % (m + 1) ≤ m := Nat.le_of_lt_succ (Nat.mod_lt _ (Nat.succ_pos m))
  have b1 := runEnd_bd b0
  have b2 := nth_in (m := m) c (runAt m (SetTable.bits h % (m + 1)) (SetTable.bits h)) (by show SetTable.bits h % (m + 1) + (SetTable.runEnd m (SetTable.bits h % (m + 1)) - SetTable.bits h % (m + 1)) ≤ m; omega)
  exact Nat.le_trans (Nat.le_add_right _ _) b2
theorem off_le (m : Nat) : ∀ (n i b : Nat), i ≤ m → off m i b n ≤ 10 * n
  | 0, _, _, _ => Nat.le_refl _
  | n + 1, i, b, hi => by
    have b1 := runEnd_bd hi
    have ih := off_le m n (SetTable.leap m i b).1 (SetTable.leap m i b).2 (leap_le m i b)
    show SetTable.runEnd m i - i + 1 + off m (SetTable.leap m i b).1 (SetTable.leap m i b).2 n ≤ 10 * (n + 1)
    omega
/-- the first slot of the way of which something is true -/
theorem Full.least {m : Nat} (F : Full m) (h : Int) (p : Nat → Prop) {j : Nat} (hj : j ≤ m) (hp : p j) :
    ∃ K n, n ≤ m + 12 ∧ K ≤ off m (SetTable.bits h % (m + 1)) (SetTable.bits h) n ∧ p (way m h K) ∧ ∀ c, c < K → ¬ p (way m h c) := by
  obtain ⟨n, n1, n2⟩ := F.hit (runI_le m (SetTable.bits h) 12) hj
  have e : way m h (off m (SetTable.bits h % (m + 1)) (SetTable.bits h) (12 + n)) = j := by
    show (nth m (runAt m (SetTable.bits h % (m + 1)) (SetTable.bits h)) (off m (SetTable.bits h % (m + 1)) (SetTable.bits h) (12 + n))).j = j
    rw [nth_off, itL_run, ← n2, ← runI_tail (bits_lt h)]
    rfl
  obtain ⟨K, k1, k2, k3⟩ := st_least (p := fun c => p (way m h c)) _ (by rw [e]; exact hp)
  exact ⟨K, 12 + n, by omega, k1, k2, k3⟩
/-! ### a table from whose hashes every slot is found again -/
structure Tab (t : SetTable) (hs : List Int) : Prop where
  ris : Ris t.place.toList
  dm : t.dummies = #[]
  sz : t.place.size = hs.length
  full : Full t.mask
  reach : ∀ (i : Nat) (h : Int) (j : Nat), hs[i]? = some h → t.place.toList[i]? = some j → ∃ c, way t.mask h c = j ∧ ∀ d, d < c → way t.mask h d ∈ t.place.toList
theorem Tab.gap {t : SetTable} {hs : List Int} (T : Tab t hs) (hl : hs.length ≤ t.mask) (h : Int) :
    ∃ K, K < 10 * SetTable.turns t.mask ∧ way t.mask h K ∉ t.place.toList ∧ ∀ c, c < K → way t.mask h c ∈ t.place.toList := by
  have z : t.place.toList.length = hs.length := T.sz
  obtain ⟨j, j1, j2⟩ := st_missing t.place.toList (t.mask + 1) (by omega)
  obtain ⟨K, n, n1, k1, k2, k3⟩ := T.full.least h (fun x => x ∉ t.place.toList) (Nat.le_of_lt_succ j1) j2
  have b := off_le t.mask n (SetTable.bits h % (t.mask + 1)) (SetTable.bits h) (Nat.le_of_lt_succ (Nat.mod_lt _ (Nat.succ_pos _)))
  exact ⟨K, by unfold SetTable.turns; omega, k2, fun c hc => Classical.not_not.mp (k3 c hc)⟩
/-- what bears the hash lies on its way ahead of the gap -/
theorem Tab.ahead {t : SetTable} {hs : List Int} (T : Tab t hs) {h : Int} {K i j : Nat} (hK : way t.mask h K ∉ t.place.toList) (hi : hs[i]? = some h) (hj : t.place.toList[i]? = some j) :
    ∃ c, c < K ∧ way t.mask h c = j := by
  obtain ⟨c, c1, c2⟩ := T.reach i h j hi hj
  refine ⟨c, ?_, c1⟩
  rcases Nat.lt_or_ge c K with z | z
  · exact z
  · rcases Nat.lt_or_ge K c with y | y
    · exact absurd (c2 K y) hK
    · rw [Nat.le_antisymm y z] at c1
      rw [c1] at hK
      exact (hK (List.mem_of_getElem? hj)).elim
/-- one probe from the c-th step on: the next that bears the hash, or the gap -/
theorem Tab.probe {t : SetTable} {hs : List Int} (T : Tab t hs) {h : Int} {K : Nat} (hf : K < 10 * SetTable.turns t.mask) (hK : way t.mask h K ∉ t.place.toList) (hb : ∀ c, c < K → way t.mask h c ∈ t.place.toList)
    (ha : Nat → Int) (hh : ∀ (i : Nat) (x : Int), hs[i]? = some x → ha i = x) {c : Nat} (hc : c ≤ K) :
    (∃ q i, c ≤ q ∧ q < K ∧ t.place.toList[i]? = some (way t.mask h q) ∧ (∀ d i' : Nat, c ≤ d → d < q → t.place.toList[i']? = some (way t.mask h d) → hs[i']? ≠ some h) ∧
      t.probe ha h (pr t.mask h c) = some (.candidate (way t.mask h q) i (pr t.mask h (q + 1)))) ∨
    ((∀ d i' : Nat, c ≤ d → d < K → t.place.toList[i']? = some (way t.mask h d) → hs[i']? ≠ some h) ∧ t.probe ha h (pr t.mask h c) = some (.empty (way t.mask h K) none)) := by
  have e : ∀ q, (nth t.mask (pr t.mask h c) q).j = way t.mask h (c + q) := fun q => congrArg SetTable.Probe.j (pr_add t.mask h c q)
  have ek : c + (K - c) = K := by omega
  have no : ∀ {i' : Nat}, ha i' ≠ h → hs[i']? ≠ some h := fun {i'} n z => n (hh i' h z)
  rcases go_spec t T.ris T.dm ha h (10 * SetTable.turns t.mask) (K - c) (pr t.mask h c) (pr_free t.mask h c) (by omega) (fun q hq => by rw [e]; exact hb _ (by omega)) (by rw [e, ek]; exact hK) with ⟨q, i, q1, q2, _, q4, q5⟩ | ⟨q1, q2⟩
  · refine .inl ⟨c + q, i, Nat.le_add_right _ _, by omega, by rw [← e]; exact q2, fun d i' d1 d2 d3 => no (q4 (d - c) i' (by omega) (by rw [e, show c + (d - c) = d by omega]; exact d3)), ?_⟩
    rw [e, pr_add, ← Nat.add_assoc] at q5
    exact q5
  · refine .inr ⟨fun d i' d1 d2 d3 => no (q1 (d - c) i' (by omega) (by rw [e, show c + (d - c) = d by omega]; exact d3)), ?_⟩
    rw [e, ek] at q2
    exact q2
/-- one more in the gap -/
theorem Tab.put {t : SetTable} {hs : List Int} (T : Tab t hs) {h : Int} {K : Nat} (hK : way t.mask h K ∉ t.place.toList) (hb : ∀ c, c < K → way t.mask h c ∈ t.place.toList) {p : Nat} (hp : p = SetTable.below t.place (way t.mask h K)) :
    p ≤ hs.length ∧ Tab (t.put (way t.mask h K)).1 (hs.take p ++ h :: hs.drop p) ∧ (t.put (way t.mask h K)).1.fill = hs.length + 1 := by
  have c1 := (below_cut T.ris (way t.mask h K)).1
  rw [← hp] at c1
  have z0 : t.place.toList.length = hs.length := T.sz
  have ph : p ≤ hs.length := by rw [← T.sz]; exact c1
  have pl : p ≤ t.place.toList.length := by rw [z0]; exact ph
  have lay : (t.put (way t.mask h K)).1.place.toList = t.place.toList.take p ++ way t.mask h K :: t.place.toList.drop p := by rw [put_place, ← hp]
  have grow : ∀ {x : Nat}, x ∈ t.place.toList → x ∈ (t.put (way t.mask h K)).1.place.toList := fun hx => by rw [lay]; exact mem_ins.2 (.inr hx)
  have zs : (t.put (way t.mask h K)).1.place.size = hs.length + 1 := by
    have q := congrArg List.length lay
    rw [len_ins _ pl, z0] at q
    exact q
  refine ⟨ph, ⟨ris_insert T.ris fun z => hK (List.mem_of_getElem? (by rw [Array.getElem?_toList]; exact z)), put_dm T.dm _, by rw [len_ins _ ph]; exact zs, T.full, fun i x j h1 h2 => ?_⟩, ?_⟩
  · rw [lay, tins_get _ pl] at h2
    rw [tins_get hs ph] at h1
    have old : ∀ i', hs[i']? = some x → t.place.toList[i']? = some j → ∃ c, way t.mask x c = j ∧ ∀ d, d < c → way t.mask x d ∈ (t.put (way t.mask h K)).1.place.toList := fun i' g1 g2 => by
      obtain ⟨c, r1, r2⟩ := T.reach i' x j g1 g2
      exact ⟨c, r1, fun d hd => grow (r2 d hd)⟩
    by_cases c : i < p
    · rw [if_pos c] at h1 h2
      exact old i h1 h2
    · rw [if_neg c] at h1 h2
      by_cases d : i = p
      · rw [if_pos d] at h1 h2
        cases h1
        cases h2
        exact ⟨K, rfl, fun y hy => grow (hb y hy)⟩
      · rw [if_neg d] at h1 h2
        exact old (i - 1) h1 h2
  · show (t.put (way t.mask h K)).1.place.size + (t.put (way t.mask h K)).1.dummies.size = hs.length + 1
    rw [zs, put_dm T.dm]
    rfl
/-! ### all laid anew -/
theorem own_step {m : Nat} (F : Full m) {past : List Int} {seat : Array (Option Nat)} (W : Own m past seat) (hl : past.length ≤ m) (h : Int) :
    ∃ j, SetTable.layClean.free m seat (SetTable.turns m) (SetTable.bits h % (m + 1)) (SetTable.bits h) = some j ∧ Own m (past ++ [h]) (seat.setIfInBounds j (some past.length)) := by
  obtain ⟨ps, ps1, ps2⟩ := W.ps
  obtain ⟨j0, a1, a2⟩ := st_missing ps (m + 1) (by omega)
  have a3 : oAt seat j0 = none := Classical.byContradiction fun z => a2 (ps2 j0 (Nat.le_of_lt_succ a1) z)
  obtain ⟨K, n, n1, k1, k2, k3⟩ := F.least h (fun x => oAt seat x = none) (Nat.le_of_lt_succ a1) a3
  have fr := free_spec m seat (SetTable.turns m) n _ _ K (by unfold SetTable.turns; omega) k1 (fun c hc => by
    have q := k3 c hc
    cases z : oAt seat (way m h c) with
    | none => exact absurd z q
    | some _ => rfl) (by show (oAt seat (way m h K)).isNone = true; rw [k2]; rfl)
  have jm := way_bd m h K
  have self := oAt_set_self (some past.length) (show way m h K < seat.size by rw [W.sz]; omega)
  have still : ∀ {i : Nat}, oAt seat i ≠ none → oAt (seat.setIfInBounds (way m h K) (some past.length)) i = oAt seat i := fun {i} hi => oAt_set_ne _ fun z => hi (by rw [z]; exact k2)
  have mono : ∀ {i : Nat}, oAt seat i ≠ none → oAt (seat.setIfInBounds (way m h K) (some past.length)) i ≠ none := fun hi => by rw [still hi]; exact hi
  refine ⟨way m h K, fr, ⟨by rw [Array.size_setIfInBounds]; exact W.sz, fun j x hj e => ?_, fun x hx => ?_, ⟨way m h K :: ps, by rw [List.length_cons, List.length_append, ps1]; rfl, fun j hj e => ?_⟩⟩⟩
  · by_cases c : j = way m h K
    · subst c
      rw [self] at e
      cases e
      exact ⟨h, K, by rw [List.getElem?_append_right (Nat.le_refl _), Nat.sub_self]; rfl, rfl, fun d hd => mono (k3 d hd)⟩
    · rw [oAt_set_ne _ c] at e
      obtain ⟨x', K', b1, b2, b3⟩ := W.at_ j x hj e
      exact ⟨x', K', by rw [List.getElem?_append_left (List.getElem?_eq_some_iff.mp b1).1]; exact b1, b2, fun d hd => mono (b3 d hd)⟩
  · rw [List.length_append, List.length_singleton] at hx
    by_cases c : x = past.length
    · exact ⟨way m h K, jm, by rw [c]; exact self⟩
    · obtain ⟨j, b1, b2⟩ := W.all x (by omega)
      exact ⟨j, b1, by rw [still (by rw [b2]; exact fun z => nomatch z)]; exact b2⟩
  · by_cases c : j = way m h K
    · rw [c]
      exact List.mem_cons_self
    · rw [oAt_set_ne _ c] at e
      exact List.mem_cons_of_mem _ (ps2 j hj e)
theorem own_all {m : Nat} (F : Full m) : ∀ (rest past : List Int) (seat : Array (Option Nat)), Own m past seat → past.length + rest.length ≤ m →
    ∃ o', rest.foldl (stepF m) (some (seat, past.length)) = some (o', past.length + rest.length) ∧ Own m (past ++ rest) o'
  | [], past, seat, W, _ => ⟨seat, rfl, by rw [List.append_nil]; exact W⟩
  | x :: r, past, seat, W, hl => by
    have hl' : past.length + (r.length + 1) ≤ m := hl
    obtain ⟨j, e, W1⟩ := own_step F W (by omega) x
    have z : (past ++ [x]).length = past.length + 1 := List.length_append
    obtain ⟨o', f, W2⟩ := own_all F r (past ++ [x]) _ W1 (by omega)
    refine ⟨o', ?_, by rw [List.append_cons]; exact W2⟩
    rw [z] at f
    rw [List.foldl_cons, stepF_some e, f]
    show some (o', past.length + 1 + r.length) = some (o', past.length + (r.length + 1))
    rw [show past.length + 1 + r.length = past.length + (r.length + 1) by omega]
theorem relaid_tab (t : SetTable) {hs : Array Int} {wanted M : Nat} (hw : SetTable.sizeAbove wanted - 1 = M) (F : Full M) (hn : hs.size ≤ M) :
    ∃ t' order, t.relaid hs wanted = some (t', order) ∧ order.toList.Perm (List.range hs.size) ∧ Tab t' (order.toList.map fun i => hs.getD i 0) ∧ t'.mask = M ∧ t'.led = t.led ∧ t'.plain = t.plain := by
  obtain ⟨seat, f, W⟩ := own_all F hs.toList [] _ (Own.init M) (by show 0 + hs.toList.length ≤ M; rw [Array.length_toList]; omega)
  rw [List.nil_append] at W
  have lc : SetTable.layClean M hs = some seat := by
    rw [layClean_eq]
    exact congrArg (Option.map (·.1)) f
  have re : t.relaid hs wanted = some (tabOf t M seat, ((liveOf M seat).map (·.2)).toArray) := by
    rw [relaid_eq, hw, lc]
    rfl
  have up := ris_live (fun j => seat.getD j none) (List.range (M + 1)) List.pairwise_lt_range
  have r1 : Ris ((liveOf M seat).map (·.1)) := up.1
  have cov : ∀ x, x < hs.size → x ∈ (liveOf M seat).map (·.2) := fun x hx => by
    obtain ⟨j, b1, b2⟩ := W.all x (by rw [Array.length_toList]; exact hx)
    exact List.mem_map.mpr ⟨(j, x), (mem_live W.sz).2 ⟨b1, b2⟩, rfl⟩
  have cnt : (liveOf M seat).length = hs.size := by
    obtain ⟨ps, p1, p2⟩ := W.ps
    have le1 := nat_nodup_len ((liveOf M seat).map (·.1)) ps (List.Pairwise.imp (fun {a b} (z : a < b) => Nat.ne_of_lt z) (show List.Pairwise (· < ·) ((liveOf M seat).map (·.1)) from r1)) fun x hx => by
      obtain ⟨⟨y, k⟩, b1, b2⟩ := List.mem_map.mp hx
      cases b2
      obtain ⟨d1, d2⟩ := (mem_live W.sz).1 b1
      exact p2 _ d1 (by rw [d2]; exact fun z => nomatch z)
    have le2 := nat_nodup_len (List.range hs.size) ((liveOf M seat).map (·.2)) List.nodup_range fun x hx => cov x (List.mem_range.mp hx)
    rw [List.length_map, p1] at le1
    have zz : hs.size = hs.toList.length := rfl
    rw [List.length_range, List.length_map] at le2
    omega
  refine ⟨_, _, re, perm_range hs.size _ (by show ((liveOf M seat).map (·.2)).length = hs.size; rw [List.length_map]; exact cnt) cov, ⟨r1, rfl, ?_, F, fun i x j h1 h2 => ?_⟩, rfl, rfl, rfl⟩
  · show ((liveOf M seat).map (·.1)).length = (((liveOf M seat).map (·.2)).map fun i => hs.getD i 0).length
    rw [List.length_map, List.length_map, List.length_map]
  · have g1 : (((liveOf M seat).map (·.2)).map fun i => hs.getD i 0)[i]? = some x := h1
    have g2 : ((liveOf M seat).map (·.1))[i]? = some j := h2
    rw [List.getElem?_map, List.getElem?_map] at g1
    rw [List.getElem?_map] at g2
    cases hq : (liveOf M seat)[i]? with
    | none => rw [hq] at g2; cases g2
    | some q =>
      rw [hq] at g1 g2
      have e1 : hs.getD q.2 0 = x := Option.some.inj g1
      have e2 : q.1 = j := Option.some.inj g2
      obtain ⟨b1, b2⟩ := (mem_live (j := q.1) (k := q.2) W.sz).1 (List.mem_of_getElem? hq)
      obtain ⟨x0, K, d1, d2, d3⟩ := W.at_ q.1 q.2 b1 b2
      have e0 : x0 = x := by
        rw [← e1, Array.getD_eq_getD_getElem?, ← Array.getElem?_toList, d1]
        rfl
      subst e0
      refine ⟨K, d2.trans e2, fun d hd => ?_⟩
      show way M x0 d ∈ (liveOf M seat).map (·.1)
      cases z : oAt seat (way M x0 d) with
      | none => exact absurd z (d3 d hd)
      | some y => exact List.mem_map.mpr ⟨(way M x0 d, y), (mem_live W.sz).2 ⟨way_bd M x0 d, z⟩, rfl⟩
end NS
namespace NS
open PySem PySem.Spec PyProof.Rows L2
section
variable {P : Program} {w : World} {A : Around} {E : Value → Shared → Prop} {s : Shared}
/-- the set at a holds the rows L: an address and its ints each, no ints twice -/
structure SetW (P : Program) (w : World) (h : Heap) (a : Addr) (L : List (Addr × List Int)) (es : Array (Int × Value)) (ep : Nat) (t : SetTable) : Prop where
  at_ : ∃ o, h.get? a = some o ∧ o.ExactSet ∧ o.data = .set es ep t
  rows : es.toList = rowsOf P w L
  tab : Tab t (L.map fun q => thash P w q.2)
  one : (L.map (·.2)).Nodup
  tups : ∀ q ∈ L, IsT P w h q.2 q.1
  plain : t.plain = true
  room : L.length * 5 < t.mask * 3 ∧ L.length < 256
  led : (w.params.followText "set-order" = true) ∨ (t.led = true)
  msk : t.mask = 7 ∨ t.mask = 31 ∨ t.mask = 127 ∨ t.mask = 511
theorem rows_size {es : Array (Int × Value)} {L : List (Addr × List Int)} (e : es.toList = rowsOf P w L) : es.size = L.length := by
  have q := congrArg List.length e
  unfold rowsOf at q
  rw [List.length_map] at q
  exact q
theorem fits_of {t : SetTable} {n : Nat} (hd : t.dummies = #[]) (hz : t.place.size = n) (hm : n ≤ t.mask) : t.fits n = true := by
  unfold SetTable.fits SetTable.fill
  rw [hd, hz]
  simp [hm]
variable {a : Addr} {L : List (Addr × List Int)} {es : Array (Int × Value)} {ep : Nat} {t : SetTable} {h : Heap}
theorem SetW.fits (R : SetW P w h a L es ep t) : t.fits es.size = true := by
  have z := R.tab.sz
  have r := R.room.1
  rw [List.length_map] at z
  rw [rows_size R.rows]
  exact fits_of R.tab.dm z (by omega)
theorem SetW.entry (R : SetW P w h a L es ep t) {i : Nat} {q : Addr × List Int} (e : L[i]? = some q) : es[i]? = some (thash P w q.2, Value.ref q.1) := by
  have z : es.toList[i]? = some (thash P w q.2, Value.ref q.1) := by
    rw [R.rows]
    unfold rowsOf
    rw [List.getElem?_map, e]
    rfl
  rw [Array.getElem?_toList] at z
  exact z
theorem SetW.way_ok (R : SetW P w h a L es ep t) : ¬ t.gaveWay = true := by
  unfold SetTable.gaveWay
  rw [R.tab.full.odd]
  decide
/-- the search from the c-th step of the way on -/
theorem seek (R : SetW P w s.heap a L es ep t) {x : Addr} {k : List Int} (hx : IsT P w s.heap k x) (hu : A.units < cLine) {K : Nat} (hf : K < 10 * SetTable.turns t.mask)
    (hK : way t.mask (thash P w k) K ∉ t.place.toList) (hb : ∀ c, c < K → way t.mask (thash P w k) c ∈ t.place.toList) {Q : SetFound → Shared → Prop}
    (yes : k ∈ L.map (·.2) → Q (.there none) s) (no : k ∉ L.map (·.2) → Q (.free (way t.mask (thash P w k) K) false) s) :
    ∀ (f c : Nat) (st : Option SetTable.Probe), st.getD (t.probeStart (thash P w k)) = pr t.mask (thash P w k) c → c ≤ K → K - c < f →
      (∀ (i : Nat) (q : Addr × List Int), L[i]? = some q → q.2 = k → ∃ d, c ≤ d ∧ d < K ∧ t.place.toList[i]? = some (way t.mask (thash P w k) d)) →
      wpAny (model P w) A (setSearchFrom a (.ref x) (thash P w k) true f st) Q E s
  | 0, _, _, _, _, hf0, _ => absurd hf0 (Nat.not_lt_zero _)
  | f + 1, c, st, hst, hc, hfu, left => by
    have hashes : ∀ (i : Nat) (z : Int), (L.map fun q => thash P w q.2)[i]? = some z → (fun i => (es[i]?.map (·.1)).getD 0) i = z := fun i z e => by
      rw [List.getElem?_map] at e
      obtain ⟨q, q1, q2⟩ := Option.map_eq_some_iff.mp e
      show (es[i]?.map (·.1)).getD 0 = z
      rw [R.entry q1]
      exact q2
    have mine : ∀ {i : Nat} {q : Addr × List Int}, L[i]? = some q → q.2 = k → (L.map fun q => thash P w q.2)[i]? = some (thash P w k) := fun e1 e2 => by
      rw [List.getElem?_map, e1, ← e2]
      rfl
    obtain ⟨ob, g1, g2, g3⟩ := R.at_
    rw [setSearchFrom_succ]
    refine wpAny_bind (wpAny_setState_of g1 g3 R.fits ?_)
    dsimp only
    refine wp_if_neg R.way_ok ?_
    try refine wpAny_bind (wpAny_pure ?_)
    rw [hst]
    rcases R.tab.probe hf hK hb _ hashes hc with ⟨q, i, c1, c2, c3, c4, c5⟩ | ⟨c1, c2⟩
    · rw [c5]
      dsimp only
      have hi : i < L.length := by
        have y1 := (List.getElem?_eq_some_iff.mp c3).1
        have y2 := R.tab.sz
        rw [List.length_map] at y2
        rw [Array.length_toList] at y1
        omega
      obtain ⟨r, hr⟩ : ∃ r, L[i]? = some r := ⟨_, List.getElem?_eq_getElem hi⟩
      have hm : r ∈ L := List.mem_of_getElem? hr
      have go : wpAny (model P w) A (searchRest a (.ref x) (thash P w k) true f es t (way t.mask (thash P w k) q) i (pr t.mask (thash P w k) (q + 1))) Q E s := by
        unfold searchRest
        rw [R.entry hr]
        dsimp only
        refine wpAny_bind (wpAny_holding (wpAny_eqBool_tuple hu (R.tups r hm) hx ?_))
        refine wpAny_bind (wpAny_setState_of g1 g3 R.fits ?_)
        dsimp only
        by_cases same : r.2 = k
        · refine wp_if_pos (by simp [same]) ?_
          exact wpAny_pure (yes (List.mem_map.mpr ⟨r, hm, same⟩))
        · refine wp_if_neg (by simp [same]) ?_
          try refine wpAny_bind (wpAny_pure ?_)
          rw [sameMem]
          dsimp only
          have live : t.slot (way t.mask (thash P w k) q) = .live i := slot_live R.tab.ris c3
          simp only [if_true, live, R.entry hr]
          refine wpAny_bind (wpAny_isSame_ref_self (wpAny_bind (wpAny_pure ?_)))
          simp only [if_true]
          refine wp_if_neg (by simp [same]) ?_
          refine seek R hx hu hf hK hb yes no f (q + 1) _ rfl (by omega) (by omega) fun i' r' e1 e2 => ?_
          obtain ⟨d, d1, d2, d3⟩ := left i' r' e1 e2
          refine ⟨d, ?_, d2, d3⟩
          rcases Nat.lt_or_ge d q with y | y
          · exact absurd (mine e1 e2) (c4 d i' d1 y d3)
          · rcases Nat.lt_or_ge q d with v | v
            · exact v
            · exfalso
              rw [Nat.le_antisymm v y] at d3
              have ei := slot_live R.tab.ris d3
              rw [live] at ei
              injection ei with ei
              rw [← ei, hr] at e1
              cases e1
              exact same e2
      by_cases hl : t.led = true
      · refine wp_if_neg (by simp [hl]) ?_
        try refine wpAny_bind (wpAny_pure ?_)
        exact go
      · refine wp_if_pos (by simp [hl]) ?_
        refine wpAny_bind (seen_tup hx (fun y hy => ?_) ?_)
        · obtain ⟨u, u1, u2⟩ := List.mem_map.mp hy
          have u3 : u ∈ es.toList := by
            have y3 : u ∈ es ∧ u.1 = thash P w k := by simpa using u1
            simpa using y3.1
          rw [R.rows] at u3
          obtain ⟨v, v1, v2⟩ := List.mem_map.mp u3
          exact ⟨v.2, v.1, by rw [← u2, ← v2], R.tups v v1⟩
        · refine wp_if_neg (by decide) ?_
          try refine wpAny_bind (wpAny_pure ?_)
          exact go
    · rw [c2]
      dsimp only
      refine wpAny_pure (no fun mem => ?_)
      obtain ⟨r, r1, r2⟩ := List.mem_map.mp mem
      obtain ⟨i, i1, i2⟩ := List.getElem_of_mem r1
      have e1 : L[i]? = some r := by rw [List.getElem?_eq_getElem i1, i2]
      obtain ⟨d, d1, d2, d3⟩ := left i r e1 r2
      exact c1 d i d1 d2 d3 (mine e1 r2)
theorem seek_all (R : SetW P w s.heap a L es ep t) {x : Addr} {k : List Int} (hx : IsT P w s.heap k x) (hu : A.units < cLine) {Q : SetFound → Shared → Prop}
    (yes : k ∈ L.map (·.2) → Q (.there none) s)
    (no : ∀ K, k ∉ L.map (·.2) → way t.mask (thash P w k) K ∉ t.place.toList → (∀ c, c < K → way t.mask (thash P w k) c ∈ t.place.toList) → Q (.free (way t.mask (thash P w k) K) false) s) :
    wpAny (model P w) A (setSearch a (.ref x) (thash P w k) true) Q E s := by
  have r := R.room.1
  obtain ⟨K, k1, k2, k3⟩ := R.tab.gap (by rw [List.length_map]; omega) (thash P w k)
  have few := R.tab.full.few
  have small : K < 100000 := by
    unfold SetTable.turns at k1
    omega
  refine seek R hx hu k1 k2 k3 yes (fun z => no K z k2 k3) 100000 0 none rfl (Nat.zero_le _) (by omega) fun i q e1 e2 => ?_
  have y1 : i < t.place.toList.length := by
    have y2 := R.tab.sz
    rw [List.length_map] at y2
    have y3 := (List.getElem?_eq_some_iff.mp e1).1
    rw [Array.length_toList]
    omega
  have y4 := List.getElem?_eq_getElem y1
  obtain ⟨c, c1, c2⟩ := R.tab.ahead k2 (show (L.map fun q => thash P w q.2)[i]? = some (thash P w k) by rw [List.getElem?_map, e1, ← e2]; rfl) y4
  exact ⟨c, Nat.zero_le _, c1, by rw [y4, c2]⟩
/-- the table laid anew -/
theorem relay {o : Obj} (g1 : s.heap.get? a = some o) (g2 : o.ExactSet) (g3 : o.data = .set es ep t) (er : es.toList = rowsOf P w L) (hz : t.place.size = L.length) (hd : t.dummies = #[]) (hm : L.length ≤ t.mask)
    (nd : (L.map (·.2)).Nodup) (tu : ∀ q ∈ L, IsT P w s.heap q.2 q.1) (pl : t.plain = true) (ld : w.params.followText "set-order" = true ∨ t.led = true) (fw : L.length < 256) {wanted M : Nat}
    (hw : SetTable.sizeAbove wanted - 1 = M) (F : Full M) (mM : M = 7 ∨ M = 31 ∨ M = 127 ∨ M = 511) (ro : L.length * 5 < M * 3) {Q : Unit → Shared → Prop}
    (hQ : ∀ h' L' es' ep' t', Heap.SameBut a s.heap h' → SetW P w h' a L' es' ep' t' → L'.Perm L → Q () { s with heap := h' }) : wpAny (model P w) A (setRelay a wanted) Q E s := by
  have ez := rows_size er
  have fw2 := F.few
  obtain ⟨t', order, o1, o2, o3, o4, o5, o6⟩ := relaid_tab t (hs := es.map (·.1)) (wanted := wanted) hw F (by rw [Array.size_map, ez]; omega)
  rw [Array.size_map, ez] at o2
  obtain ⟨L', p1, p2, p3⟩ := order_rows L es order er o2
  rw [← p3] at o3
  have ez2 : (order.filterMap (es[·]?)).size = es.size := by rw [rows_size p1, p2.length_eq, ez]
  rw [setRelay_eq]
  refine wpAny_bind (wpAny_setState_of g1 g3 (by rw [ez]; exact fits_of hd hz hm) ?_)
  dsimp only
  refine wp_if_neg (by rw [sizeLine_eq]; omega) ?_
  try refine wpAny_bind (wpAny_pure ?_)
  rw [o1]
  dsimp only
  refine wpAny_bind ?_
  refine wp_if_neg (by rw [ez2]; simp) ?_
  try refine wpAny_bind (wpAny_pure ?_)
  refine wpAny_pure ?_
  dsimp only
  refine wpAny_storeSet_of g1 g3 ?_ (by rw [ez2, ez, sizeLine_eq]; omega)
  have but : Heap.SameBut a s.heap (s.heap.update a (Obj.putSet (order.filterMap (es[·]?)) t')) := Heap.SameBut.update ..
  refine hQ _ L' _ _ t' but ⟨⟨_, store_at g1 g3, ⟨g2.1, g2.2.1, g2.2.2⟩, rfl⟩, p1, o3, (p2.map (·.2)).nodup_iff.mpr nd, fun q hq => isT_same (tu q (p2.mem_iff.mp hq)) g1 g3 but, o6.trans pl, ?_, by rw [o5]; exact ld, by rw [o4]; exact mM⟩ p2
  rw [p2.length_eq, o4]
  exact ⟨ro, fw⟩
theorem size1 : SetTable.sizeAbove (SetTable.grown 5) = 32 := by decide +kernel
theorem size2 : SetTable.sizeAbove (SetTable.grown 19) = 128 := by decide +kernel
theorem size3 : SetTable.sizeAbove (SetTable.grown 77) = 512 := by decide +kernel
/-- where a table is too full with one more -/
theorem next_mask {m n : Nat} (hm : m = 7 ∨ m = 31 ∨ m = 127 ∨ m = 511) (h1 : n * 5 < m * 3) (h2 : m * 3 ≤ (n + 1) * 5) (h3 : n + 1 < 256) :
    ∃ M, SetTable.sizeAbove (SetTable.grown (n + 1)) - 1 = M ∧ (M = 7 ∨ M = 31 ∨ M = 127 ∨ M = 511) ∧ Full M ∧ (n + 1) * 5 < M * 3 := by
  rcases hm with e | e | e | e
  · have z : n = 4 := by omega
    exact ⟨31, by rw [z, size1], .inr (.inl rfl), full31, by omega⟩
  · have z : n = 18 := by omega
    exact ⟨127, by rw [z, size2], .inr (.inr (.inl rfl)), full127, by omega⟩
  · have z : n = 76 := by omega
    exact ⟨511, by rw [z, size3], .inr (.inr (.inr rfl)), full511, by omega⟩
  · omega
end
end NS
namespace NS
open PySem PySem.Spec PyProof.Rows L2
section
variable {P : Program} {w : World} {A : Around} {E : Value → Shared → Prop} {s : Shared}
variable {a : Addr} {L : List (Addr × List Int)} {es : Array (Int × Value)} {ep : Nat} {t : SetTable} {h : Heap}
/-- one more tuple -/
theorem add_w (R : SetW P w s.heap a L es ep t) {x : Addr} {k : List Int} (hx : IsT P w s.heap k x) (hu : A.units < cLine) (fw : L.length + 1 < 256) {Q : Bool → Shared → Prop}
    (hQ : ∀ b h' L' es' ep' t', Heap.SameBut a s.heap h' → SetW P w h' a L' es' ep' t' → (k ∈ L.map (·.2) → L' = L) → (k ∉ L.map (·.2) → L'.Perm ((x, k) :: L)) → Q b { s with heap := h' }) :
    wpAny (model P w) A (setAddHashed a (.ref x) (thash P w k)) Q E s := by
  obtain ⟨ob, g1, g2, g3⟩ := R.at_
  have ez := rows_size R.rows
  have ro := R.room.1
  unfold setAddHashed
  refine wpAny_holding ?_
  show wpAny _ _ (setAddHashedIn a (.ref x) (thash P w k) (99999 + 1)) _ _ _
  rw [setAddHashedIn_succ]
  refine wpAny_bind (wpAny_setState_of g1 g3 R.fits ?_)
  dsimp only
  refine wp_if_neg (by simp [byScan, Value.scannable]) ?_
  try refine wpAny_bind (wpAny_pure ?_)
  refine wpAny_bind (seek_all R hx hu (fun mem => ?_) fun K mem hK hb => ?_)
  · dsimp only
    exact wpAny_pure (hQ false s.heap L es ep t (Heap.SameBut.refl a s.heap) R (fun _ => rfl) fun z => absurd mem z)
  · dsimp only
    refine wpAny_bind (wpAny_setState_of g1 g3 R.fits ?_)
    dsimp only
    obtain ⟨q1, q2, q3⟩ := R.tab.put hK hb rfl
    have q4 : (t.put (way t.mask (thash P w k) K)).1.plain = true := R.plain
    have q5 : w.params.followText "set-order" = true ∨ (t.put (way t.mask (thash P w k) K)).1.led = true := R.led
    have q6 : (t.put (way t.mask (thash P w k) K)).1.mask = t.mask := rfl
    have q7 : (t.put (way t.mask (thash P w k) K)).2 = SetTable.below t.place (way t.mask (thash P w k) K) := rfl
    rw [List.length_map] at q1 q3
    have inr : (SetTable.insertAt es (SetTable.below t.place (way t.mask (thash P w k) K)) (thash P w k, Value.ref x)).toList = rowsOf P w (L.take (SetTable.below t.place (way t.mask (thash P w k) K)) ++ (x, k) :: L.drop (SetTable.below t.place (way t.mask (thash P w k) K))) := by
      rw [SetTable.toList_insertAt, rows_put, R.rows]
    generalize t.put (way t.mask (thash P w k) K) = pt at q2 q3 q4 q5 q6 q7 ⊢
    obtain ⟨t1, p⟩ := pt
    dsimp only at q2 q3 q4 q5 q6 q7 ⊢
    rw [← q7] at q1 q2 inr
    clear q7
    have pm := put_perm L p (x, k)
    have hh : (L.take p ++ (x, k) :: L.drop p).map (fun q => thash P w q.2) = (L.map fun q => thash P w q.2).take p ++ thash P w k :: (L.map fun q => thash P w q.2).drop p := by
      rw [List.map_append, List.map_cons, List.map_take, List.map_drop]
    rw [← hh] at q2
    first
      | (refine wpAny_bind ?_; refine wp_if_pos q4 ?_; refine hashBy_tup hx ?_)
      | refine wp_if_pos q4 (wpAny_bind (hashBy_tup hx ?_))
    simp only [if_true]
    generalize SetTable.insertAt es p (thash P w k, Value.ref x) = es1 at inr ⊢
    generalize L.take p ++ (x, k) :: L.drop p = L1 at pm q2 inr
    have l1 : L1.length = L.length + 1 := pm.length_eq
    have ez1 : es1.size = L.length + 1 := by rw [rows_size inr, l1]
    have nd1 : (L1.map (·.2)).Nodup := (pm.map (·.2)).nodup_iff.mpr (List.nodup_cons.mpr ⟨mem, R.one⟩)
    have pz : t1.place.size = L1.length := by
      have z := q2.sz
      rw [List.length_map] at z
      exact z
    refine wpAny_bind (wpAny_storeSet_of g1 g3 ?_ (by rw [ez1, sizeLine_eq]; omega))
    have but : Heap.SameBut a s.heap (s.heap.update a (Obj.putSet es1 t1)) := Heap.SameBut.update ..
    have ho1 := store_at (es' := es1) (t' := t1) g1 g3
    generalize s.heap.update a (Obj.putSet es1 t1) = h1 at but ho1 ⊢
    have tu1 : ∀ q ∈ L1, IsT P w h1 q.2 q.1 := fun q hq => by
      rcases List.mem_cons.mp (pm.mem_iff.mp hq) with e | hq
      · rw [e]
        exact isT_same hx g1 g3 but
      · exact isT_same (R.tups q hq) g1 g3 but
    by_cases full : t1.tooFull = true
    · first
        | (refine wpAny_bind ?_; refine wp_if_pos (by simp [full]) ?_)
        | (refine wp_if_pos (by simp [full]) ?_; refine wpAny_bind ?_)
      have f2 : t.mask * 3 ≤ (L.length + 1) * 5 := by
        have z := full
        unfold SetTable.tooFull at z
        rw [decide_eq_true_eq, q3, q6] at z
        exact z
      obtain ⟨M, m1, m2, m3, m4⟩ := next_mask R.msk ro f2 fw
      rw [ez]
      refine relay (s := { s with heap := h1 }) ho1 ⟨g2.1, g2.2.1, g2.2.2⟩ rfl inr pz q2.dm ?_ nd1 tu1 q4 q5 (by rw [l1]; exact fw) m1 m3 m2 (by rw [l1]; exact m4) fun h2 L2 es2 ep2 t2 sb2 R2 pm2 => ?_
      · rw [l1, q6]
        rcases R.msk with e | e | e | e <;> omega
      · exact wpAny_pure (hQ true h2 L2 es2 ep2 t2 (but.trans sb2) R2 (fun z => absurd z mem) fun _ => pm2.trans pm)
    · first
        | refine wp_if_neg (by simp [full]) ?_
        | (refine wpAny_bind ?_; refine wp_if_neg (by simp [full]) ?_; refine wpAny_pure ?_)
      refine wpAny_pure (hQ true h1 L1 es1 (ep + 1) t1 but ⟨⟨_, ho1, ⟨g2.1, g2.2.1, g2.2.2⟩, rfl⟩, inr, q2, nd1, tu1, q4, ?_, q5, by rw [q6]; exact R.msk⟩ (fun z => absurd z mem) fun _ => pm)
      have z := full
      unfold SetTable.tooFull at z
      rw [decide_eq_true_eq, q3] at z
      rw [l1]
      exact ⟨by omega, fw⟩
theorem SetW.kept {h' : Heap} (R : SetW P w h a L es ep t) (ha : ∀ o, h.get? a = some o → h'.get? a = some o) (ht : ∀ q ∈ L, IsT P w h' q.2 q.1) : SetW P w h' a L es ep t := by
  obtain ⟨o, g1, g2⟩ := R.at_
  exact ⟨⟨o, ha o g1, g2⟩, R.rows, R.tab, R.one, ht, R.plain, R.room, R.led, R.msk⟩
/-- the new set of set() -/
abbrev empt (w : World) : Obj := { cls := .type "set", dict := none, data := .set #[] 0 (.fresh 0 0 (!w.params.followText "set-order")) }
theorem setW_new (g : h.get? a = some (empt w)) : SetW P w h a [] #[] 0 (.fresh 0 0 (!w.params.followText "set-order")) := by
  refine ⟨⟨_, g, ⟨rfl, rfl, rfl⟩, rfl⟩, rfl, ⟨List.Pairwise.nil, rfl, rfl, full7, fun i x j hi => absurd hi (by simp)⟩, List.nodup_nil, fun q hq => absurd hq List.not_mem_nil, rfl, ?_, ?_, .inl rfl⟩
  · show 0 * 5 < 7 * 3 ∧ 0 < 256
    decide
  · show _ ∨ (!w.params.followText "set-order") = true
    cases w.params.followText "set-order" <;> simp
/-- the loop of set(..), item by item -/
theorem fill_w {I : Addr} {fp wr : List Addr} {G : Array GenState → Array GenState → Prop} {n : Nat} {Pv : Nat → Value → Prop} {St : Nat → Shared → Prop} {R : Result → Shared → Prop}
    (W : WalksS P w A.in1 I fp wr G n Pv St) (S : Addr) (nS : S ∉ fp) (ks : List (Addr × List Int)) (hn : n = ks.length) (fw : ks.length < 256) (hv : ∀ i v, Pv i v → ∃ q, ks[i]? = some q ∧ v = .ref q.1)
    (h0 : Heap) (hk : ∀ q ∈ ks, IsT P w h0 q.2 q.1) (hS0 : h0.get? S = none) (hw0 : ∀ b ∈ wr, h0.get? b = none) (hu : A.in1.units < cLine) :
    ∀ (d i : Nat) (s : Shared), n - i = d → i ≤ n → St i s → (∀ b o, h0.get? b = some o → s.heap.get? b = some o) → (∃ L es ep t, SetW P w s.heap S L es ep t ∧ Got ks i L) →
      (∀ s' L es ep t, Moved (S :: wr) G s s' → SetW P w s'.heap S L es ep t → Got ks n L → (∀ b o, h0.get? b = some o → s'.heap.get? b = some o) → R (.ok (.ret .none)) s') →
      codeAny (model P w) A (.builtin "set.update.loop" ⟨[.ref S, .ref I], []⟩) R s := by
  have nW : S ∉ wr := fun z => nS (W.sub _ z)
  have more : ∀ b ∈ wr, b ∈ S :: wr := fun b hb => List.mem_cons_of_mem _ hb
  have stay : ∀ {u v : Shared}, Moved wr G u v → (∀ b o, h0.get? b = some o → u.heap.get? b = some o) → ∀ b o, h0.get? b = some o → v.heap.get? b = some o := fun mv k b o e =>
    mv.heap b o (fun hb => by rw [hw0 b hb] at e; cases e) (k b o e)
  intro d
  induction d with
  | zero =>
    intro i s hd hi hst kp ⟨L, es, ep, t, hS, g⟩ hR
    obtain rfl : i = n := by omega
    refine codeAny_builtin F.entry_set_update_loop ?_
    rw [Around.under_plainId F.plain_set_update_loop _]
    show wpAny _ A.in1 (pyNext (.ref I) >>= _) _ _ s
    refine wpAny_bind (W.done s _ _ hst fun v mv => ?_)
    show wpAny _ A.in1 (ret Value.none) _ _ v
    have kp2 := stay mv kp
    exact wpAny_pure (hR v L es ep t (mv.mono more) (hS.kept (fun o e => mv.heap S o nW e) fun q hq => isT_keep (hk q (List.mem_of_mem_take (g.sub q hq))) kp2) g kp2)
  | succ d ih =>
    intro i s hd hi hst kp ⟨L, es, ep, t, hS, g⟩ hR
    have lt : i < n := by omega
    refine codeAny_builtin F.entry_set_update_loop ?_
    rw [Around.under_plainId F.plain_set_update_loop _]
    show wpAny _ A.in1 (pyNext (.ref I) >>= _) _ _ s
    refine wpAny_bind (W.item i s _ _ lt hst fun v u hP hst2 mv => ?_)
    obtain ⟨q, hq, rfl⟩ := hv i v hP
    have kp2 := stay mv kp
    have hS2 : SetW P w u.heap S L es ep t := hS.kept (fun o e => mv.heap S o nW e) fun r hr => isT_keep (hk r (List.mem_of_mem_take (g.sub r hr))) kp2
    have hx : IsT P w u.heap q.2 q.1 := isT_keep (hk q (List.mem_of_getElem? hq)) kp2
    show wpAny _ A.in1 (holding [Value.ref q.1] (setAdd S (.ref q.1)) >>= _) _ _ u
    refine wpAny_bind (wpAny_holding ?_)
    unfold setAdd
    refine wpAny_holding ?_
    refine wpAny_bind (wpAny_pyHash_tuple hu hx ?_)
    have gl := g.len
    refine add_w (s := { u with toks := u.toks + (q.2.length + 1) }) hS2 hx hu (by omega) fun b h2 L2 es2 ep2 t2 but hS3 c1 c2 => ?_
    have g2 : Got ks (i + 1) L2 := by
      by_cases c : q.2 ∈ L.map (·.2)
      · rw [c1 c]
        exact g.same hq c
      · exact g.more hq (c2 c)
    have kp3 : ∀ b o, h0.get? b = some o → h2.get? b = some o := fun b o e => (but.2 b (fun z => by rw [z, hS0] at e; cases e)).trans (kp2 b o e)
    refine wpAny_pure ⟨plainId_quiet F.plain_set_update_loop _, ih (i + 1) _ (by omega) lt (W.frame _ u _ _ hst2 (Nat.le_add_right _ _) fun b hb o e => ?_) kp3 ⟨L2, es2, ep2, t2, hS3, g2⟩ fun v L3 es3 ep3 t3 mv3 hS4 g4 kp4 => ?_⟩
    · rw [but.2 b (fun z : b = S => nS (z ▸ hb))]
      exact e
    · refine hR v L3 es3 ep3 t3 (Moved.trans W.gtrans ((mv.mono more).then_heap (Nat.le_add_right _ _) fun b o hb e => ?_) mv3) hS4 g4 kp4
      rw [but.2 b (fun z : b = S => hb (z ▸ List.mem_cons_self))]
      exact e
/-- the heap where the loop of set(xs) begins: the empty set, then the list's iterator -/
abbrev begun (w : World) (h : Heap) (l : Addr) : Heap := (h.push (empt w)).push { cls := .type "list_iterator", data := .fields #[.ref l, .int 0 0] }
set_option maxHeartbeats 3200000 in
/-- set(xs) of a list, whatever its items: by what its loop leaves -/
theorem set_by {l : Addr} {items : Array Value} {N : Shared → Prop} {Q : Value → Shared → Prop} (hl : s.heap.IsList l items)
    (loop : codeAny (model P w) A.in1.in1 (.builtin "set.update.loop" ⟨[.ref s.heap.objs.size, .ref (s.heap.push (empt w)).objs.size], []⟩) (wants (fun r s2 => r = .none ∧ N s2) E) { s with heap := begun w s.heap l })
    (fin : ∀ s2, N s2 → Q (.ref s.heap.objs.size) s2) : wpAny (model P w) A (call (.type "set") [.ref l]) Q E s := by
  obtain ⟨m0, m1, m2⟩ := F.called_set.mro
  have ⟨m3, m4, m5⟩ := And.intro F.called_set.made (And.intro F.called_set.sub F.called_set.notType)
  have ⟨m6, m7⟩ := And.intro F.called_set.canCreate (F.typeCall_set_1 (.ref l))
  have ⟨m8, m9⟩ := And.intro F.called_set.init.lookup (F.called_set.init.bind (.ref s.heap.objs.size))
  have nw : (s.heap.push (empt w)).get? s.heap.objs.size = some (empt w) := Heap.get?_push_size _ rfl
  have ty : Shared.TypeIs { s with heap := s.heap.push (empt w) } (.ref s.heap.objs.size) "set" := ⟨_, nw, rfl⟩
  have li : (s.heap.push (empt w)).IsList l items := hl.push _
  refine wpAny_call (codeAny_of_tree (show wpAny _ _ (callAny (.type "set") _) _ _ _ from wpAny_pure ⟨Code.quiet_builtin _ (by decide +kernel), codeAny_builtin F.entry_type_call ?top⟩))
  rw [Around.under_plain (weight_type_call_type "set" [.ref l] []) rfl]
  repeat any_goals first | assumption | wp_step
  refine codeAny_mono (code_set_led1 (.ref l) (E := E) (Q₁ := fun ob u => ob = .ref s.heap.objs.size ∧ u = { s with heap := s.heap.push (empt w) }) ⟨rfl, rfl⟩) fun r u hr => ?_
  rcases r with _ | (_ | _ | _ | ob)
  case error => exact hr
  case ok.ret =>
    obtain ⟨rfl, rfl⟩ := hr
    repeat any_goals first | assumption | wp_step
    refine codeAny_mono (codeAny_call_builtin (R := wants (fun v u => v = .none ∧ N u) E) F.called_set.init.plain F.entry_set_init (check_set_init_1 ty ?ini)) fun v u hv => ?_
    · obtain ⟨⟨k1, k2, k3, k4⟩, e1, e2, n0, e3⟩ := hl
      simp only at e2 e3
      subst e2
      subst e3
      have e4 := Heap.get?_push_of_some (empt w) e1
      have ⟨x1, x2⟩ := And.intro F.sub_list_set F.sub_list_frozenset
      have x3 : ((Value.type "list" == Value.type "dict") : Bool) = false := rfl
      unfold Builtin.«set.__init__» noKeywords
      unfold Builtin.Frozenset.updateFrom
      generalize itr : pyIter = I
      wp_walk
      rw [← itr]
      refine wpAny_pyIter_list li (wpAny_bind (wpAny_runValue (codeAny_mono loop fun v u hv => ?_)))
      rcases v with _ | (_ | _ | _ | v)
      case error => exact hv
      case ok.ret => exact wpAny_pure (wpAny_pure ⟨rfl, hv.2⟩)
      all_goals exact hv.elim
    · rcases v with _ | (_ | _ | _ | v)
      case error => exact hv
      case ok.ret =>
        obtain ⟨rfl, hv⟩ := hv
        repeat any_goals first | assumption | wp_step
        exact fin u hv
      all_goals exact hv.elim
  all_goals exact hr.elim
/-- set(xs) of a list of tuples of ints -/
theorem set_of {l : Addr} {items : Array Value} (ks : List (Addr × List Int)) {Q : Value → Shared → Prop} (hh : A.handled = none) (hl : s.heap.IsList l items) (hit : items.toList = ks.map fun q => Value.ref q.1)
    (hk : ∀ q ∈ ks, IsT P w s.heap q.2 q.1) (fw : ks.length < 256) (hu : A.units + 3 < cLine)
    (hQ : ∀ (h' : Heap) (tk : Nat) L es ep t, SetW P w h' s.heap.objs.size L es ep t → Got ks ks.length L → (∀ b o, s.heap.get? b = some o → h'.get? b = some o) → Q (.ref s.heap.objs.size) { s with heap := h', toks := tk }) :
    wpAny (model P w) A (call (.type "set") [.ref l]) Q E s := by
  have iz : items.size = ks.length := (congrArg List.length hit).trans (List.length_map _)
  have zz : (s.heap.push (empt w)).objs.size = s.heap.objs.size + 1 := Heap.size_push ..
  have lS : l < s.heap.objs.size := by
    obtain ⟨o, e, _⟩ := hl
    exact Heap.lt_size e
  have off : ∀ b, s.heap.objs.size ≤ b → s.heap.get? b = none := fun b hb => by
    cases q : s.heap.get? b with
    | none => rfl
    | some o => exact absurd (Heap.lt_size q) (Nat.not_lt.mpr hb)
  refine set_by (N := fun u => ∃ h' tk L es ep t, u = { s with heap := h', toks := tk } ∧ SetW P w h' s.heap.objs.size L es ep t ∧ Got ks ks.length L ∧ ∀ b o, s.heap.get? b = some o → h'.get? b = some o) hl ?_ ?_
  · refine fill_w ((Walks.list (show A.in1.in1.in1.handled = none by simp [hh]) (s.heap.push (empt w)).objs.size l (by rw [zz]; exact Nat.ne_of_lt (Nat.lt_succ_of_lt lS)) items).toS) s.heap.objs.size ?w1 ks iz fw (fun i v hv => ?w2)
      s.heap hk (off _ (Nat.le_refl _)) (fun b hb => off b ?w3) hu items.size 0 _ (Nat.sub_zero _) (Nat.zero_le _) ⟨⟨_, Heap.get?_push_size _ rfl, rfl, rfl⟩, (hl.push _).push _⟩ (fun b o e => Heap.get?_push_of_some _ (Heap.get?_push_of_some _ e))
      ⟨[], #[], 0, _, setW_new (Heap.get?_push_of_some _ (Heap.get?_push_size _ rfl)), Got.zero ks⟩ fun v L es ep t mv hS g kp => ?w4
    case w1 =>
      rw [zz]
      simp only [List.mem_cons, List.not_mem_nil, or_false, not_or]
      exact ⟨Nat.ne_of_lt (Nat.lt_succ_self _), Nat.ne_of_gt lS⟩
    case w2 =>
      have q : items.toList[i]? = some v := by rw [Array.getElem?_toList]; exact hv
      rw [hit, List.getElem?_map] at q
      obtain ⟨r, r1, r2⟩ := Option.map_eq_some_iff.mp q
      exact ⟨r, r1, r2.symm⟩
    case w3 => rw [List.mem_singleton.mp hb, zz]; exact Nat.le_succ _
    case w4 =>
      obtain ⟨hv, gv, dv, tv, ov⟩ := v
      have ⟨y1, y2, y3⟩ := And.intro mv.gens (And.intro mv.drawn mv.os)
      cases y1
      cases y2
      cases y3
      rw [iz] at g
      exact ⟨rfl, hv, tv, L, es, ep, t, rfl, hS, g, kp⟩
  · rintro u ⟨h', tk, L, es, ep, t, rfl, hS, g, kp⟩
    exact hQ h' tk L es ep t hS g kp
end
/-! ### len(set(xs)), xs a list of tuples of ints -/
section
variable {X : Cx}
def tLenSetT (K : PySem.W.Frag) (ta : TE) : TE := fun σ H Q => ta σ H fun x H1 => ∃ (l : Addr) (ks : List (Addr × List Int)), x = V.ref l ∧ SqL K H1 l (ks.map fun q => V.ref q.1) ∧ (∀ q ∈ ks, SqT K H1 q.1 (q.2.map V.int)) ∧ ks.length < 256 ∧
  ∀ L : List (List Int), L.Nodup → (∀ k, k ∈ L ↔ k ∈ ks.map (·.2)) → Q (.int L.length) H1
theorem pe_lenSetT {e : Expr} {ta : TE} {p p2 q pos : Pos} (hc : X.calm = true) (hu : X.A.units + 64 < cLine) (hg : Gl X "len") (hm : X.mg "len" = none) (hg2 : Gl X "set") (hm2 : X.mg "set" = none) (he : PE X e ta)
    (na : starEach [e] X.env = (false, eval e X.env) :: starEach [] X.env := by rfl) : PE X (.Call (.Name "len" p) [.Call (.Name "set" p2) [e] [] q] [] pos) (tLenSetT X.K ta) := by
  refine ⟨fun pins s σ H Q I hw => ?_⟩
  refine Call_ (ld_blt I hg hm PySem.boot_len ?_)
  refine PyProof.Rows.callWith_builtin1 (PyProof.Rows.args_cons ?_ rfl) rfl rfl
  refine Call_ (ld_blt I hg2 hm2 PyProof.Rows.boot_set ?_)
  refine PyProof.Rows.callWith_type1 (PyProof.Rows.args_cons (thn (he.run pins s σ H _ I hw) fun v s1 ⟨x, H1, I1, r1, l, ks, ex, hl, hk, fw, hQ⟩ => PyProof.Rows.args_nil ?_) na) na rfl
  subst ex
  cases r1
  obtain ⟨its, rv, pl, _⟩ := I1.list hl
  refine set_of (P := X.prog) (w := X.w) ks (I1.ok.hd hc) pl.isList (by simpa using refs_of_vals rv) (fun r hr => I1.isT (hk r hr)) fw (by omega) fun h' tk L es ep t R g kp => ?_
  refine PyProof.Rows.args_nil ?_
  obtain ⟨ob, g1, g2, g3⟩ := R.at_
  have I2 : Inv X pins σ H1 { s1 with heap := h', toks := tk } := I1.kept kp
  have ez := rows_size R.rows
  have fw2 := R.room.2
  refine call_len_set g1 g2 g3 R.fits (by rw [ez] <;> omega) ⟨.int (L.map (·.2)).length, H1, I2.tok _, ⟨_, by rw [ez, List.length_map]⟩, hQ _ R.one fun k => ?_⟩
  have all : ks.take ks.length = ks := List.take_length
  constructor
  · intro z
    obtain ⟨r, z1, z2⟩ := List.mem_map.mp z
    have z3 := g.sub r z1
    rw [all] at z3
    exact List.mem_map.mpr ⟨r, z3, z2⟩
  · intro z
    obtain ⟨r, z1, z2⟩ := List.mem_map.mp z
    rw [← z2]
    exact g.all r (by rw [all]; exact z1)
end
end NS
namespace NB
/-! ### the mathematics: no Python here -/
/-- the moves, by kind and by step -/
def movT : List (List (Int × Int)) :=
  [[(1, 0), (0, 1), (-1, 0), (0, -1)], [(1, 0), (0, 1), (-1, 1), (-1, 0), (0, -1), (1, -1)], [(1, 0), (-1, 0), (0, 1)]]
def movAt (k s : Nat) : Int × Int := (movT.getD k []).getD s (0, 0)
/-- what place_after reckons -/
def stepTo (k : Nat) (p : Int × Int) (s : Nat) : Int × Int :=
  if k = 2 ∧ (p.1 + p.2) % 2 = 1 then (p.1 + (movAt k s).1, p.2 - (movAt k s).2) else (p.1 + (movAt k s).1, p.2 + (movAt k s).2)
theorem ways0 : Sh19.ways 0 = 4 := rfl
theorem ways1 : Sh19.ways 1 = 6 := rfl
theorem ways2 : Sh19.ways 2 = 3 := rfl
theorem stepTo_neg {k s : Nat} {x y : Int} {m : Int × Int} (hm : movAt k s = m) (c : ¬ (k = 2 ∧ (x + y) % 2 = 1)) : stepTo k (x, y) s = (x + m.1, y + m.2) := by
  unfold stepTo
  rw [if_neg c, hm]
theorem stepTo_pos {k s : Nat} {x y : Int} {m : Int × Int} (hm : movAt k s = m) (c : k = 2 ∧ (x + y) % 2 = 1) : stepTo k (x, y) s = (x + m.1, y - m.2) := by
  unfold stepTo
  rw [if_pos c, hm]
theorem go22 (x y : Int) : Sh19.go 2 (x, y) 2 = if (x + y) % 2 = 0 then (x, y + 1) else (x, y - 1) := rfl
theorem stepTo_go {k s : Nat} (hk : k < 3) (hs : s < Sh19.ways k) (p : Int × Int) : stepTo k p s = Sh19.go k p s := by
  obtain ⟨x, y⟩ := p
  have pr : ∀ {a b c d : Int}, a = c → b = d → ((a, b) : Int × Int) = (c, d) := fun h1 h2 => by rw [h1, h2]
  have h : k = 0 ∨ k = 1 ∨ k = 2 := by omega
  rcases h with rfl | rfl | rfl
  · rw [ways0] at hs
    have h : s = 0 ∨ s = 1 ∨ s = 2 ∨ s = 3 := by omega
    have c : ¬ ((0 : Nat) = 2 ∧ (x + y) % 2 = 1) := fun z => absurd z.1 (by decide)
    rcases h with rfl | rfl | rfl | rfl
    · exact (stepTo_neg (m := (1, 0)) rfl c).trans (pr rfl (by show y + 0 = y; omega))
    · exact (stepTo_neg (m := (0, 1)) rfl c).trans (pr (by show x + 0 = x; omega) rfl)
    · exact (stepTo_neg (m := (-1, 0)) rfl c).trans (pr rfl (by show y + 0 = y; omega))
    · exact (stepTo_neg (m := (0, -1)) rfl c).trans (pr (by show x + 0 = x; omega) rfl)
  · rw [ways1] at hs
    have h : s = 0 ∨ s = 1 ∨ s = 2 ∨ s = 3 ∨ s = 4 ∨ s = 5 := by omega
    have c : ¬ ((1 : Nat) = 2 ∧ (x + y) % 2 = 1) := fun z => absurd z.1 (by decide)
    rcases h with rfl | rfl | rfl | rfl | rfl | rfl
    · exact (stepTo_neg (m := (1, 0)) rfl c).trans (pr rfl (by show y + 0 = y; omega))
    · exact (stepTo_neg (m := (0, 1)) rfl c).trans (pr (by show x + 0 = x; omega) rfl)
    · exact (stepTo_neg (m := (-1, 1)) rfl c).trans (pr rfl rfl)
    · exact (stepTo_neg (m := (-1, 0)) rfl c).trans (pr rfl (by show y + 0 = y; omega))
    · exact (stepTo_neg (m := (0, -1)) rfl c).trans (pr (by show x + 0 = x; omega) rfl)
    · exact (stepTo_neg (m := (1, -1)) rfl c).trans (pr rfl rfl)
  · rw [ways2] at hs
    have h : s = 0 ∨ s = 1 ∨ s = 2 := by omega
    by_cases c : (x + y) % 2 = 1
    · have c0 : ¬ (x + y) % 2 = 0 := by omega
      rcases h with rfl | rfl | rfl
      · exact (stepTo_pos (m := (1, 0)) rfl ⟨rfl, c⟩).trans (pr rfl (by show y - 0 = y; omega))
      · exact (stepTo_pos (m := (-1, 0)) rfl ⟨rfl, c⟩).trans (pr rfl (by show y - 0 = y; omega))
      · rw [go22, if_neg c0]
        exact (stepTo_pos (m := (0, 1)) rfl ⟨rfl, c⟩).trans (pr (by show x + 0 = x; omega) rfl)
    · have c0 : (x + y) % 2 = 0 := by omega
      have c1 : ¬ ((2 : Nat) = 2 ∧ (x + y) % 2 = 1) := fun z => c z.2
      rcases h with rfl | rfl | rfl
      · exact (stepTo_neg (m := (1, 0)) rfl c1).trans (pr rfl (by show y + 0 = y; omega))
      · exact (stepTo_neg (m := (-1, 0)) rfl c1).trans (pr rfl (by show y + 0 = y; omega))
      · rw [go22, if_pos c0]
        exact (stepTo_neg (m := (0, 1)) rfl c1).trans (pr (by show x + 0 = x; omega) rfl)
theorem movT_len {k : Nat} (hk : k < 3) : (movT.getD k []).length = Sh19.ways k := by
  have h : k = 0 ∨ k = 1 ∨ k = 2 := by omega
  rcases h with rfl | rfl | rfl <;> rfl
/-- all are steps of the kind -/
def okS (k : Nat) (ns : List Int) : Bool := ns.all fun s => decide (0 ≤ s) && decide (s < (Sh19.ways k : Nat))
def nat (ns : List Int) : List Nat := ns.map Int.toNat
theorem nat_eq (ns : List Int) : Sh19Neutral.nats ns = nat ns := rfl
theorem okS_spec (k : Nat) : ∀ ns : List Int, (∀ x ∈ ns, 0 ≤ x) → okS k ns = Sh19.stepsOk k (nat ns)
  | [], _ => rfl
  | x :: r, h => by
    have ih := okS_spec k r fun y hy => h y (List.mem_cons_of_mem _ hy)
    have h0 := h x List.mem_cons_self
    have e : (decide (0 ≤ x) && decide (x < (Sh19.ways k : Nat))) = decide (x.toNat < Sh19.ways k) := by
      rw [decide_eq_true h0, Bool.true_and]
      exact decide_eq_decide.mpr (by omega)
    unfold okS Sh19.stepsOk nat at ih ⊢
    rw [List.all_cons, ih, e, List.map_cons, List.all_cons]
theorem okS_at {k : Nat} {ns : List Int} (h : okS k ns = true) {i : Nat} {z : Int} (hz : ns[i]? = some z) : 0 ≤ z ∧ z < (Sh19.ways k : Nat) := by
  have q := List.all_eq_true.mp h z (List.mem_of_getElem? hz)
  rw [Bool.and_eq_true] at q
  exact ⟨of_decide_eq_true q.1, of_decide_eq_true q.2⟩
/-- one item more -/
theorem take_snoc {α : Type} {l : List α} {i : Nat} {x : α} (h : l[i]? = some x) : l.take (i + 1) = l.take i ++ [x] := by
  rw [List.take_add_one, h]
  rfl
theorem nat_snoc {ns : List Int} {i : Nat} {z : Int} (h : ns[i]? = some z) : nat (ns.take (i + 1)) = nat (ns.take i) ++ [z.toNat] := by
  unfold nat
  rw [take_snoc h, List.map_append]
  rfl
theorem places_snoc (k s : Nat) : ∀ (w : List Nat) (p : Sh19.Place), Sh19.places k p (w ++ [s]) = Sh19.places k p w ++ [Sh19.go k (w.foldl (Sh19.go k) p) s]
  | [], _ => rfl
  | t :: r, p => by
    show p :: Sh19.places k (Sh19.go k p t) (r ++ [s]) = p :: Sh19.places k (Sh19.go k p t) r ++ [Sh19.go k (r.foldl (Sh19.go k) (Sh19.go k p t)) s]
    rw [places_snoc k s r]
    rfl
theorem walk_snoc (k s : Nat) (w : List Nat) : Sh19.walk k (w ++ [s]) = Sh19.walk k w ++ [Sh19.go k (Sh19.ending k w) s] := places_snoc k s w (0, 0)
theorem ending_snoc (k s : Nat) (w : List Nat) : Sh19.ending k (w ++ [s]) = Sh19.go k (Sh19.ending k w) s := by
  unfold Sh19.ending
  rw [List.foldl_append]
  rfl
theorem places_last (k : Nat) : ∀ (w : List Nat) (p : Sh19.Place), ∃ l, Sh19.places k p w = l ++ [w.foldl (Sh19.go k) p]
  | [], _ => ⟨[], rfl⟩
  | t :: r, p => by
    obtain ⟨l, e⟩ := places_last k r (Sh19.go k p t)
    exact ⟨p :: l, by show p :: Sh19.places k (Sh19.go k p t) r = _; rw [e]; rfl⟩
theorem walk_last (k : Nat) (w : List Nat) : ∃ l, Sh19.walk k w = l ++ [Sh19.ending k w] := places_last k w (0, 0)
theorem places_len (k : Nat) : ∀ (w : List Nat) (p : Sh19.Place), (Sh19.places k p w).length = w.length + 1
  | [], _ => rfl
  | t :: r, p => by
    show (Sh19.places k (Sh19.go k p t) r).length + 1 = r.length + 1 + 1
    rw [places_len k r]
theorem walk_len (k : Nat) (w : List Nat) : (Sh19.walk k w).length = w.length + 1 := places_len k w (0, 0)
/-- in_range; refusal -/
def inR (k : Int) (n : Nat) : Bool := decide (0 ≤ k) && decide (k < 3) && decide (n ≤ 4096)
def refu (k : Int) (ns : List Int) : Int := if inR k ns.length = true then (if okS k.toNat ns = true then 0 else -3) else -2
theorem inR_walkOk (k : Int) (n : Nat) : inR k n = Sh19.walkOk k n := by
  unfold inR Sh19.walkOk Sh19.within
  have e : decide (k < 3) = decide (k ≤ 2) := decide_eq_decide.mpr (by omega)
  rw [e]
theorem refu_zero {k : Int} {ns : List Int} (h : refu k ns = 0) : inR k ns.length = true ∧ okS k.toNat ns = true := by
  unfold refu at h
  by_cases c : inR k ns.length = true
  · rw [if_pos c] at h
    by_cases d : okS k.toNat ns = true
    · exact ⟨c, d⟩
    · rw [if_neg d] at h
      exact absurd h (by decide)
  · rw [if_neg c] at h
    exact absurd h (by decide)
theorem inR_bd {k : Int} {n : Nat} (h : inR k n = true) : 0 ≤ k ∧ k < 3 ∧ n ≤ 4096 := by
  unfold inR at h
  rw [Bool.and_eq_true, Bool.and_eq_true] at h
  exact ⟨of_decide_eq_true h.1.1, of_decide_eq_true h.1.2, of_decide_eq_true h.2⟩
/-- what is due, by the refusal -/
theorem end_refused {k : Int} {ns : List Int} (hp : ∀ x ∈ ns, 0 ≤ x) (h : refu k ns ≠ 0) : PySh19.end_ k ns = [refu k ns] := by
  have e1 := inR_walkOk k ns.length
  have e2 := okS_spec k.toNat ns hp
  have hl : (nat ns).length = ns.length := List.length_map _
  show (match (some (if Sh19.walkOk k (nat ns).length = false then Sh19.ok (-2) else if Sh19.stepsOk k.toNat (nat ns) = false then Sh19.ok (-3) else ⟨0, [(Sh19.ending k.toNat (nat ns)).1, (Sh19.ending k.toNat (nat ns)).2]⟩) : Option Sh19.Ans) with | none => [] | some a => a.v :: a.l) = _
  unfold refu at h ⊢
  rw [hl, ← e1, ← e2]
  by_cases c : inR k ns.length = true
  · rw [if_pos c] at h ⊢
    by_cases d : okS k.toNat ns = true
    · rw [if_pos d] at h
      exact absurd rfl h
    · rw [if_neg d, if_neg (by rw [c]; decide), if_pos (by simpa using d)]
      rfl
  · rw [if_neg c, if_pos (by simpa using c)]
    rfl
theorem end_ok {k : Int} {ns : List Int} (hp : ∀ x ∈ ns, 0 ≤ x) (h : refu k ns = 0) : PySh19.end_ k ns = [0, (Sh19.ending k.toNat (nat ns)).1, (Sh19.ending k.toNat (nat ns)).2] := by
  obtain ⟨c, d⟩ := refu_zero h
  rw [inR_walkOk] at c
  rw [okS_spec k.toNat ns hp] at d
  have hl : (nat ns).length = ns.length := List.length_map _
  show (match (some (if Sh19.walkOk k (nat ns).length = false then Sh19.ok (-2) else if Sh19.stepsOk k.toNat (nat ns) = false then Sh19.ok (-3) else ⟨0, [(Sh19.ending k.toNat (nat ns)).1, (Sh19.ending k.toNat (nat ns)).2]⟩) : Option Sh19.Ans) with | none => [] | some a => a.v :: a.l) = _
  rw [hl, c, d]
  rfl
theorem is_refused {k : Int} {ns : List Int} (hp : ∀ x ∈ ns, 0 ≤ x) (h : refu k ns ≠ 0) : PySh19.is_true k ns = [refu k ns] := by
  have e1 := inR_walkOk k ns.length
  have e2 := okS_spec k.toNat ns hp
  have hl : (nat ns).length = ns.length := List.length_map _
  show (match (some (if Sh19.walkOk k (nat ns).length = false then Sh19.ok (-2) else if Sh19.stepsOk k.toNat (nat ns) = false then Sh19.ok (-3) else Sh19.ok (if Sh19.isTrue k.toNat (nat ns) = true then 1 else 0)) : Option Sh19.Ans) with | none => [] | some a => a.v :: a.l) = _
  unfold refu at h ⊢
  rw [hl, ← e1, ← e2]
  by_cases c : inR k ns.length = true
  · rw [if_pos c] at h ⊢
    by_cases d : okS k.toNat ns = true
    · rw [if_pos d] at h
      exact absurd rfl h
    · rw [if_neg d, if_neg (by rw [c]; decide), if_pos (by simpa using d)]
      rfl
  · rw [if_neg c, if_pos (by simpa using c)]
    rfl
theorem is_ok {k : Int} {ns : List Int} (hp : ∀ x ∈ ns, 0 ≤ x) (h : refu k ns = 0) : PySh19.is_true k ns = [if Sh19.isTrue k.toNat (nat ns) = true then 1 else 0] := by
  obtain ⟨c, d⟩ := refu_zero h
  rw [inR_walkOk] at c
  rw [okS_spec k.toNat ns hp] at d
  have hl : (nat ns).length = ns.length := List.length_map _
  show (match (some (if Sh19.walkOk k (nat ns).length = false then Sh19.ok (-2) else if Sh19.stepsOk k.toNat (nat ns) = false then Sh19.ok (-3) else Sh19.ok (if Sh19.isTrue k.toNat (nat ns) = true then 1 else 0)) : Option Sh19.Ans) with | none => [] | some a => a.v :: a.l) = _
  rw [hl, c, d]
  rfl
/-- distinct, as the lists' own word -/
theorem distinct_nodup : ∀ l : List Sh19.Place, Sh19.distinct l = true ↔ l.Nodup
  | [] => by simp [Sh19.distinct]
  | p :: r => by
    rw [List.nodup_cons, ← distinct_nodup r]
    simp [Sh19.distinct]
end NB
namespace NB
open PySem PySem.Spec PyProof.Rows L2
open PySem.W (Codec)
/-! ### the text -/
def top (i : Nat) : Stmt := PySem.Challenge.pw_neverback_s01_is_true.main.body.getD i (.Pass ⟨0, 0, 0, 0⟩)
/-! ### what the top has written -/
/-- a tuple of the written part -/
def TupK (K : PySem.W.Frag) (a : Addr) (xs : List V) : Prop := SqT K (fun _ => none) a xs
theorem TupK.sq {K : PySem.W.Frag} {a : Addr} {xs : List V} (h : TupK K a xs) (H : Hp) : SqT K H a xs := by
  rcases h with z | z
  · rcases z with z | ⟨o, z⟩ <;> cases z
  · exact .inr z
structure Txt (K : PySem.W.Frag) (mg : Str → Option Value) (M : Addr) : Prop where
  len : mg "len" = none
  gH : ∃ t, mg "HONEYCOMB" = some (.int 2 t)
  gM : mg "MOVES" = some (.ref M)
  mov : ∃ rows : List Addr, TupK K M (rows.map V.ref) ∧ rows.length = 3 ∧ ∀ k, k < 3 → ∃ (r : Addr) (cs : List Addr), rows[k]? = some r ∧ TupK K r (cs.map V.ref) ∧ cs.length = Sh19.ways k ∧
    ∀ s, s < Sh19.ways k → ∃ c, cs[s]? = some c ∧ TupK K c [.int (movAt k s).1, .int (movAt k s).2]
theorem pe_gi {X : Cx} {x : Str} {i : Int} {pos : Pos} (hg : Gl X x) (h : ∃ t, X.mg x = some (.int i t)) (hd : (x == ("__debug__" : Str)) = false := by decide) : PE X (.Name x pos) (tC (.int i)) := by
  obtain ⟨t, e⟩ := h
  exact pe_glob hg e ⟨t, rfl⟩ hd
/-- a def that can be called by its name -/
structure Cal (P : Program) (w : World) (K : PySem.W.Frag) (mg : Str → Option Value) (base : Heap) (k : Nat) (x : Str) (ps : List Str) (sp : Sp) : Prop where
  ex : ∃ (f : Addr) (fd : FuncData), FnOk P w K mg base CX0 k f fd ps sp ∧ PySem.W.keepIn K (.ref f) = true ∧ Binds K fd ps [] ∧ mg x = some (.ref f)
theorem pe_cal {X : Cx} {x : Str} {ps : List Str} {sp : Sp} {k : Nat} {e : Expr} {es : List Expr} {p pos : Pos} {t : TA} (C : Cal X.prog X.w X.K X.mg X.base k x ps sp) (hr : Room k X.A) (ha : PA X (e :: es) t) (hg : Gl X x := by rfl) (hdb : (x == ("__debug__" : Str)) = false := by decide)
    (he : starEach (e :: es) X.env = (false, eval e X.env) :: starEach es X.env := by rfl) (hpl : (backTo pos (starEach es X.env)).any (·.1) = false := by rfl) : PE X (.Call (.Name x p) (e :: es) [] pos) (tCall sp [] E0 t) := by
  obtain ⟨f, fd, F, kp, b, j⟩ := C.ex
  exact pe_call F hr hg j kp b .nil pass0 ha hdb he hpl
theorem if_t {c : Bool} {A B : Prop} (hc : c = true) (h : A) : if c = true then A else B := by
  rw [if_pos hc]
  exact h
theorem if_f {c : Bool} {A B : Prop} (hc : c = false) (h : B) : if c = true then A else B := by
  rw [hc, if_neg Bool.false_ne_true]
  exact h
theorem at_of {α : Type} {xs : List α} {k : Int} {v : α} (h0 : 0 ≤ k) (h : xs[k.toNat]? = some v) : atI xs k = some v := by
  have q := atI_nat h
  rw [Int.toNat_of_nonneg h0] at q
  exact q
theorem get_ref {l : List Addr} {i : Nat} {r : Addr} (h : l[i]? = some r) : (l.map V.ref)[i]? = some (.ref r) := by
  rw [List.getElem?_map, h]
  rfl
theorem get_int {ns : List Int} {i : Nat} {y : V} (h : (ns.map V.int)[i]? = some y) : ∃ z, ns[i]? = some z ∧ y = .int z := by
  rw [List.getElem?_map] at h
  cases e : ns[i]? with
  | none =>
    rw [e] at h
    cases h
  | some z =>
    rw [e] at h
    exact ⟨z, rfl, (Option.some.inj h).symm⟩
theorem same_new {H : Hp} {q : Addr} {o : HO} (hq : H q = none) : Same H (upd H q o) := fun b u e => by
  rw [upd_ne (ne_of_none e hq)]
  exact e
/-- what a def's own new object becomes does not touch what stood before -/
theorem same_at {H H' : Hp} {q : Addr} {o : HO} (s : Same H H') (hq : H q = none) : Same H (upd H' q o) := fun b u e => by
  rw [upd_ne (ne_of_none e hq)]
  exact s b u e
/-- the list at p holds tuples, one a place -/
structure Lies (H : Hp) (p : Addr) (ps : List (Int × Int)) : Prop where
  ex : ∃ cs : List Addr, H p = some (.lst (cs.map V.ref)) ∧ cs.length = ps.length ∧ ∀ (i : Nat) (c : Addr) (q : Int × Int), cs[i]? = some c → ps[i]? = some q → H c = some (.tup [.int q.1, .int q.2])
theorem Lies.same {H H' : Hp} {p : Addr} {ps : List (Int × Int)} (s : Same H H') (h : Lies H p ps) : Lies H' p ps := by
  obtain ⟨cs, h1, h2, h3⟩ := h.ex
  exact ⟨cs, s _ _ h1, h2, fun i c q a b => s _ _ (h3 i c q a b)⟩
theorem Lies.last {H : Hp} {p : Addr} {l : List (Int × Int)} {q : Int × Int} (h : Lies H p (l ++ [q])) : ∃ (cs : List Addr) (c : Addr), H p = some (.lst (cs.map V.ref)) ∧ atI (cs.map V.ref) (-1) = some (.ref c) ∧ H c = some (.tup [.int q.1, .int q.2]) := by
  obtain ⟨cs, hcs, hlen, hall⟩ := h.ex
  rw [List.length_append, List.length_singleton] at hlen
  have hlt : l.length < cs.length := by omega
  have hc : cs[l.length]? = some cs[l.length] := List.getElem?_eq_getElem hlt
  have hC := hall l.length cs[l.length] q hc (by rw [List.getElem?_append_right (Nat.le_refl _), Nat.sub_self]; rfl)
  refine ⟨cs, cs[l.length], hcs, ?_, hC⟩
  have e : cs = cs.take l.length ++ [cs[l.length]] := by
    have q := take_snoc hc
    rw [List.take_of_length_le (by omega)] at q
    exact q
  have e2 : cs.map V.ref = (cs.take l.length).map V.ref ++ [V.ref cs[l.length]] := by
    have q := congrArg (List.map V.ref) e
    rw [List.map_append] at q
    exact q
  rw [e2]
  exact atI_last _ _
/-- one place more -/
theorem lies_snoc {H H' : Hp} {p' c : Addr} {ps : List (Int × Int)} {q : Int × Int} {cs : List Addr} (hl : cs.length = ps.length) (hall : ∀ (i : Nat) (c : Addr) (q : Int × Int), cs[i]? = some c → ps[i]? = some q → H c = some (.tup [.int q.1, .int q.2]))
    (hp : H' p' = some (.lst (cs.map V.ref ++ [.ref c]))) (hc : H' c = some (.tup [.int q.1, .int q.2])) (st : ∀ d x y, H d = some (.tup [.int x, .int y]) → H' d = some (.tup [.int x, .int y])) : Lies H' p' (ps ++ [q]) := by
  refine ⟨cs ++ [c], ?_, ?_, ?_⟩
  · rw [hp, List.map_append]
    rfl
  · rw [List.length_append, List.length_append, hl]
    rfl
  · intro j c' q' h1 h2
    by_cases hj : j < cs.length
    · rw [List.getElem?_append_left hj] at h1
      rw [List.getElem?_append_left (by rw [← hl]; exact hj)] at h2
      exact st _ _ _ (hall j c' q' h1 h2)
    · have hj2 : j = cs.length := by
        have := (List.getElem?_eq_some_iff.mp h1).1
        rw [List.length_append, List.length_singleton] at this
        omega
      subst hj2
      rw [List.getElem?_append_right (Nat.le_refl _), Nat.sub_self] at h1
      rw [List.getElem?_append_right (by rw [hl]; exact Nat.le_refl _), hl, Nat.sub_self] at h2
      have x1 : c = c' := Option.some.inj h1
      have x2 : q = q' := Option.some.inj h2
      subst x1
      subst x2
      exact hc
theorem at0 (a b : V) : atI [a, b] 0 = some a := at_of (Int.le_refl _) rfl
theorem at1 (a b : V) : atI [a, b] 1 = some b := at_of (by decide) rfl
theorem hu65 {A : Around} {k : Nat} (hr : Room k A) : A.units + 65 < cLine := by
  have := hr.un
  omega
/-! ### a place as data -/
def pD (z : Int × Int) : PyData := .tuple [.int z.1, .int z.2]
theorem pD_lay (z : Int × Int) : (pD z).canLay0 = true := by simp [pD, PyData.canLay0, PyData.canLayAll0]
theorem pD_depth (z : Int × Int) : (pD z).depth = 1 := by simp [pD, PyData.depth, PyData.depthAll]
theorem pDs_lay : ∀ zs : List (Int × Int), PyData.canLayAll0 (zs.map pD) = true
  | [] => by simp [PyData.canLayAll0]
  | z :: zs => by simp [PyData.canLayAll0, pD_lay z, pDs_lay zs]
theorem pDs_depth : ∀ zs : List (Int × Int), PyData.depthAll (zs.map pD) ≤ 1
  | [] => by simp [PyData.depthAll]
  | z :: zs => by
    have h1 := pDs_depth zs
    have h2 := pD_depth z
    simp only [List.map_cons, PyData.depthAll]
    omega
theorem pD_shaped (z : Int × Int) : SeqAt.shaped (pD z) = true := by
  have h := pD_depth z
  show ((pD z).canLay0 && decide ((pD z).depth ≤ 64)) = true
  rw [Bool.and_eq_true]
  exact ⟨pD_lay z, decide_eq_true (by omega)⟩
theorem pDs_shaped (zs : List (Int × Int)) : SeqAt.shaped (.list (zs.map pD)) = true := by
  have h1 := pDs_depth zs
  have h2 : PyData.depth (.list (zs.map pD)) ≤ 64 := by
    simp only [PyData.depth]
    omega
  show (PyData.canLay0 (.list (zs.map pD)) && decide (PyData.depth (.list (zs.map pD)) ≤ 64)) = true
  rw [Bool.and_eq_true]
  exact ⟨by simp only [PyData.canLay0]; exact pDs_lay zs, decide_eq_true h2⟩
theorem pD_eqv (z w : Int × Int) : PyData.eqv (pD z) (pD w) = decide (z = w) := by
  obtain ⟨a, b⟩ := z
  obtain ⟨a', b'⟩ := w
  have e : PyData.eqv (pD (a, b)) (pD (a', b')) = ((a == a') && ((b == b') && true)) := by simp only [pD, PyData.eqv, PyData.eqvAll]
  rw [e]
  by_cases h1 : a = a'
  · by_cases h2 : b = b'
    · subst h1 h2
      simp
    · rw [decide_eq_false (fun z => h2 (Prod.mk.inj z).2), beq_eq_false_iff_ne.mpr h2, Bool.false_and, Bool.and_false]
  · rw [decide_eq_false (fun z => h1 (Prod.mk.inj z).1), beq_eq_false_iff_ne.mpr h1, Bool.false_and]
theorem any_eqv (q : Int × Int) : ∀ ps : List (Int × Int), ((ps.map pD).any fun z => PyData.eqv z (pD q)) = ps.contains q
  | [] => rfl
  | p :: r => by
    rw [List.map_cons, List.any_cons, any_eqv q r, pD_eqv, List.contains_cons]
    congr 1
    by_cases h : p = q
    · rw [decide_eq_true h, h, beq_self_eq_true]
    · rw [decide_eq_false h, beq_eq_false_iff_ne.mpr (fun z => h z.symm)]
theorem dp_all {K : PySem.W.Frag} {H : Hp} : ∀ (cs : List Addr) (ps : List (Int × Int)), cs.length = ps.length → (∀ (i : Nat) (c : Addr) (q : Int × Int), cs[i]? = some c → ps[i]? = some q → H c = some (.tup [.int q.1, .int q.2])) → DpAll K H (cs.map V.ref) (ps.map pD)
  | [], [], _, _ => .nil
  | [], _ :: _, h, _ => absurd h (by simp)
  | _ :: _, [], h, _ => absurd h (by simp)
  | c :: cs, q :: ps, h, a => .cons (.tup (SqT.of (a 0 c q rfl rfl)) (.cons (.int _) (.cons (.int _) .nil))) (dp_all cs ps (by simpa using h) fun i c' q' h1 h2 => a (i + 1) c' q' h1 h2)
theorem Lies.dp {K : PySem.W.Frag} {H : Hp} {p : Addr} {ps : List (Int × Int)} (h : Lies H p ps) : Dp K H (.ref p) (.list (ps.map pD)) := by
  obtain ⟨cs, h1, h2, h3⟩ := h.ex
  exact .lst (SqL.of h1) (dp_all cs ps h2 h3)
end NB
namespace NB
open PySem PySem.Spec PyProof.Rows L2
open PySem.W (Codec)
abbrev sKind : Stmt := top 6
theorem scKind : FnScope ["kind"] ["kind"] (defScope sKind) := ⟨rfl, rfl, rfl, by decide +kernel, rfl, by decide +kernel, by decide +kernel⟩
def inK (k : Int) : Bool := decide (0 ≤ k) && decide (k < 3)
def spKind (K : PySem.W.Frag) : Sp := fun vs H Q _ => ∃ (k : Int), vs = [.int k] ∧ Q (.bl (inK k)) H
section
variable {P : Program} {w : World} {K : PySem.W.Frag} {mg : Str → Option Value} {base : Heap} {M : Addr}
theorem ok_kind {f : Addr} {fd : FuncData} (F : Fun K "is_kind" "is_kind" sKind f fd) (T : Txt K mg M) : FnOk P w K mg base CX0 1 f fd ["kind"] (spKind K) := by
  refine F.ok scKind (fun vs H Q E h => ?_) (fun cdv A outer s H vs Q E hr h => ?_)
  · obtain ⟨k, rfl, _⟩ := h
    rfl
  · refine ⟨_, pss_one (ps_ret (pe_chain op_le op_lt pe_int (pv 0) (pe_callB call_len_seq (by rfl) T.len PySem.boot_len (pa_cons (pe_glob (v := V.ref M) rfl T.gM rfl) pa_nil)))), ?_⟩
    obtain ⟨k, rfl, hQ⟩ := h
    have fin : ∀ b, b = inK k → Q (.bl b) H := fun b e => by
      rw [e]
      exact hQ
    obtain ⟨rows, hM, hl, _⟩ := T.mov
    have hl3 : (((rows.map V.ref).length : Nat) : Int) = 3 := by
      rw [List.length_map, hl]
      rfl
    refine ⟨_, rfl, _, _, rfl, rfl, _, rfl, ?_⟩
    by_cases c0 : (0 : Int) ≤ k
    · refine if_t (decide_eq_true c0) ?_
      refine ⟨M, _, rfl, .inr (hM.sq H), _, _, rfl, rfl, ?_⟩
      refine fin _ ?_
      unfold inK
      rw [hl3, decide_eq_true c0, Bool.true_and]
    · refine if_f (decide_eq_false c0) ?_
      refine fin _ ?_
      unfold inK
      rw [decide_eq_false c0, Bool.false_and]
end
end NB
namespace NB
open PySem PySem.Spec PyProof.Rows L2
open PySem.W (Codec)
abbrev sAre : Stmt := top 7
theorem scAre : FnScope ["kind", "steps", "step"] ["kind", "steps"] (defScope sAre) := ⟨rfl, rfl, rfl, by decide +kernel, rfl, by decide +kernel, by decide +kernel⟩
def spAre (K : PySem.W.Frag) : Sp := fun vs H Q _ => ∃ (a : Addr) (k : Int) (ns : List Int), vs = [.int k, .ref a] ∧ SqL K H a (ns.map V.int) ∧ (0 ≤ k ∧ k < 3) ∧ Q (.bl (okS k.toNat ns)) H
section
variable {P : Program} {w : World} {K : PySem.W.Frag} {mg : Str → Option Value} {base : Heap} {M : Addr}
theorem ok_are {f : Addr} {fd : FuncData} (F : Fun K "are_steps" "are_steps" sAre f fd) (T : Txt K mg M) : FnOk P w K mg base CX0 1 f fd ["kind", "steps"] (spAre K) := by
  refine F.ok scAre (fun vs H Q E h => ?_) (fun cdv A outer s H vs Q E hr h => ?_)
  · obtain ⟨a, k, ns, rfl, _⟩ := h
    rfl
  · refine ⟨_, pss_cons (ps_for PassesOwn.never rfl (pi_list (pv 1)) (pg_name (i := 2) scAre.nd rfl (Or.inl rfl))
        (pss_one (ps_if (pt_not (pt_chain op_le op_lt pe_int (pv 2) (pe_callB call_len_seq (by rfl) T.len PySem.boot_len (pa_cons (pe_ix ix_tup (pe_glob (v := V.ref M) rfl T.gM rfl) (pv 0) (fun _ _ => rfl)) pa_nil))))
          (pss_one (ps_ret pe_bl)) pss_nil)))
      (pss_one (ps_ret pe_bl)), ?_⟩
    obtain ⟨a, k, ns, rfl, hS, ⟨k0, k3⟩, hQ⟩ := h
    obtain ⟨rows, hM, hl, hrow⟩ := T.mov
    obtain ⟨r, cs, hr', hR, hcl, _⟩ := hrow k.toNat (by omega)
    have hat : atI (rows.map V.ref) k = some (.ref r) := at_of k0 (get_ref hr')
    refine ⟨_, rfl, a, rfl, ⟨_, hS⟩, for_list (K := K) (a := a) (xs := ns.map V.int) (fun i σ H' => ∃ v : Option V, σ = [some (.int k), some (.ref a), v] ∧ H' = H ∧ okS k.toNat (ns.take i) = true)
      ⟨none, rfl, rfl, rfl⟩ (fun i σ H' _ ⟨_, _, e, _⟩ => by rw [e]; exact hS) ?_ ?_⟩
    · rintro i y σ H' hi ⟨v, rfl, rfl, ok⟩
      obtain ⟨z, hz, rfl⟩ := get_int hi
      have more : okS k.toNat (ns.take (i + 1)) = (decide (0 ≤ z) && decide (z < (Sh19.ways k.toNat : Nat))) := by
        unfold okS at ok ⊢
        rw [take_snoc hz, List.all_append, ok, Bool.true_and, List.all_cons, List.all_nil, Bool.and_true]
      have bad : (decide (0 ≤ z) && decide (z < (Sh19.ways k.toNat : Nat))) = false → okS k.toNat ns = false := fun e => by
        cases q : okS k.toNat ns with
        | false => rfl
        | true =>
          obtain ⟨q1, q2⟩ := okS_at q hz
          rw [decide_eq_true q1, decide_eq_true q2] at e
          cases e
      refine ⟨_, rfl, _, _, rfl, rfl, _, rfl, ?_⟩
      by_cases c0 : (0 : Int) ≤ z
      · refine if_t (decide_eq_true c0) ?_
        refine ⟨_, rfl, M, _, k, _, rfl, rfl, hM.sq _, hat, r, _, rfl, .inr (hR.sq _), _, _, rfl, rfl, _, rfl, ?_⟩
        have hl2 : (((cs.map V.ref).length : Nat) : Int) = (Sh19.ways k.toNat : Nat) := by
          rw [List.length_map, hcl]
        by_cases c1 : z < (((cs.map V.ref).length : Nat) : Int)
        · refine if_f (by rw [decide_eq_true c1]; rfl) ?_
          rw [hl2] at c1
          exact ⟨_, rfl, rfl, by rw [more, decide_eq_true c0, decide_eq_true c1]; rfl⟩
        · refine if_t (by rw [decide_eq_false c1]; rfl) ?_
          rw [hl2] at c1
          have e := bad (by rw [decide_eq_false c1, Bool.and_false])
          rw [e] at hQ
          exact hQ
      · refine if_f (decide_eq_false c0) ?_
        refine ⟨_, rfl, iteT ?_⟩
        have e := bad (by rw [decide_eq_false c0, Bool.false_and])
        rw [e] at hQ
        exact hQ
    · rintro σ H' ⟨v, rfl, rfl, ok⟩
      rw [List.length_map, List.take_length] at ok
      rw [ok] at hQ
      exact hQ
end
end NB
namespace NB
open PySem PySem.Spec PyProof.Rows L2
open PySem.W (Codec)
abbrev sRef : Stmt := top 8
theorem scRef : FnScope ["kind", "steps"] ["kind", "steps"] (defScope sRef) := ⟨rfl, rfl, rfl, by decide +kernel, rfl, by decide +kernel, by decide +kernel⟩
def spRef (K : PySem.W.Frag) : Sp := fun vs H Q _ => ∃ (a : Addr) (k : Int) (ns : List Int), vs = [.int k, .ref a] ∧ SqL K H a (ns.map V.int) ∧ Q (.int (refu k ns)) H
section
variable {P : Program} {w : World} {K : PySem.W.Frag} {mg : Str → Option Value} {base : Heap} {M : Addr}
theorem ok_ref {f : Addr} {fd : FuncData} (F : Fun K "refusal" "refusal" sRef f fd) (T : Txt K mg M) (gR : ∃ t, mg "OUT_OF_RANGE" = some (.int (-2) t)) (gS : ∃ t, mg "WRONG_STEPS" = some (.int (-3) t)) (gX : ∃ t, mg "MOST_STEPS" = some (.int 4096 t))
    (CI : Cal P w K mg base 1 "is_kind" ["kind"] (spKind K)) (CA : Cal P w K mg base 1 "are_steps" ["kind", "steps"] (spAre K)) : FnOk P w K mg base CX0 2 f fd ["kind", "steps"] (spRef K) := by
  refine F.ok scRef (fun vs H Q E h => ?_) (fun cdv A outer s H vs Q E hr h => ?_)
  · obtain ⟨a, k, ns, rfl, _⟩ := h
    rfl
  · refine ⟨_, pss_cons (ps_if (PW.pt (pw_or (pt_not (pt_val (pe_cal CI hr (pa_cons (pv 0) pa_nil)))) (pw_or1 (pt_cmpR op_gt (pe_callB call_len_seq (by rfl) T.len PySem.boot_len (pa_cons (pv 1) pa_nil)) (pe_gi rfl gX) (nomark _))))) (pss_one (ps_ret (pe_gi rfl gR))) pss_nil)
      (pss_cons (ps_if (pt_not (pt_val (pe_cal CA hr (pa_cons (pv 0) (pa_cons (pv 1) pa_nil))))) (pss_one (ps_ret (pe_gi rfl gS))) pss_nil)
      (pss_one (ps_ret pe_int))), ?_⟩
    obtain ⟨a, k, ns, rfl, hS, hQ⟩ := h
    unfold refu at hQ
    have two : inR k ns.length = false → Q (.int (-2)) H := fun c => by
      rw [c, if_neg Bool.false_ne_true] at hQ
      exact hQ
    refine ⟨_, rfl, k, rfl, _, rfl, ?_⟩
    cases ci : inK k with
    | false =>
      refine iteT ?_
      refine two ?_
      show (inK k && decide (ns.length ≤ 4096)) = false
      rw [ci, Bool.false_and]
    | true =>
      refine iteF ?_
      refine ⟨_, rfl, a, _, rfl, .inl hS, _, _, rfl, rfl, _, rfl, ?_⟩
      have e4 : (((ns.map V.int).length : Nat) : Int) = (ns.length : Nat) := by rw [List.length_map]
      by_cases c4 : (((ns.map V.int).length : Nat) : Int) > 4096
      · refine if_t (decide_eq_true c4) ?_
        refine two ?_
        rw [e4] at c4
        show (inK k && decide (ns.length ≤ 4096)) = false
        rw [decide_eq_false (show ¬ ns.length ≤ 4096 by omega), Bool.and_false]
      · refine if_f (decide_eq_false c4) ?_
        rw [e4] at c4
        have c : inR k ns.length = true := by
          show (inK k && decide (ns.length ≤ 4096)) = true
          rw [ci, decide_eq_true (show ns.length ≤ 4096 by omega)]
          rfl
        rw [c, if_pos rfl] at hQ
        obtain ⟨k0, k3, _⟩ := inR_bd c
        refine ⟨_, rfl, _, rfl, a, k, ns, rfl, hS, ⟨k0, k3⟩, _, rfl, ?_⟩
        cases d : okS k.toNat ns with
        | false =>
          rw [d, if_neg Bool.false_ne_true] at hQ
          exact hQ
        | true =>
          rw [d, if_pos rfl] at hQ
          exact hQ
end
end NB
namespace NB
open PySem PySem.Spec PyProof.Rows L2
open PySem.W (Codec)
abbrev sAft : Stmt := top 9
theorem scAft : FnScope ["kind", "place", "step", "x", "y", "move"] ["kind", "place", "step"] (defScope sAft) := ⟨rfl, rfl, rfl, by decide +kernel, rfl, by decide +kernel, by decide +kernel⟩
def spAft (K : PySem.W.Frag) : Sp := fun vs H Q _ => ∃ (p : Addr) (k s x y : Int), vs = [.int k, .ref p, .int s] ∧ SqT K H p [.int x, .int y] ∧ (0 ≤ k ∧ k < 3) ∧ (0 ≤ s ∧ s < (Sh19.ways k.toNat : Nat)) ∧
  ∀ q, H q = none → Q (.ref q) (upd H q (.tup [.int (Sh19.go k.toNat (x, y) s.toNat).1, .int (Sh19.go k.toNat (x, y) s.toNat).2]))
section
variable {P : Program} {w : World} {K : PySem.W.Frag} {mg : Str → Option Value} {base : Heap} {M : Addr}
theorem ok_aft {f : Addr} {fd : FuncData} (F : Fun K "place_after" "place_after" sAft f fd) (T : Txt K mg M) : FnOk P w K mg base CX0 1 f fd ["kind", "place", "step"] (spAft K) := by
  refine F.ok scAft (fun vs H Q E h => ?_) (fun cdv A outer s H vs Q E hr h => ?_)
  · obtain ⟨p, k, t, x, y, rfl, _⟩ := h
    rfl
  · refine ⟨_, pss_cons (ps_set (i := 3) scAft.nd rfl (Or.inl rfl) (pe_ix ix_tup (pv 1) pe_int (fun _ _ => rfl)))
      (pss_cons (ps_set (i := 4) scAft.nd rfl (Or.inl rfl) (pe_ix ix_tup (pv 1) pe_int (fun _ _ => rfl)))
      (pss_cons (ps_set (i := 5) scAft.nd rfl (Or.inl rfl) (pe_ix ix_tup (pe_ix ix_tup (pe_glob (v := V.ref M) rfl T.gM rfl) (pv 0) (fun _ _ => rfl)) (pv 2) (fun _ _ => rfl)))
      (pss_cons (ps_if (PW.pt (pw_and (pt_cmpR op_eq (pv 0) (pe_gi rfl T.gH) (nomark _)) (pw_and1 (pt_cmpR op_eq (pe_op op_mod (pe_op op_add (pv 3) (pv 4)) pe_int) pe_int (nomark _)))))
          (pss_one (ps_ret (pe_tup (pa_cons (pe_op op_add (pv 3) (pe_ix ix_tup (pv 5) pe_int (fun _ _ => rfl))) (pa_cons (pe_op op_sub (pv 4) (pe_ix ix_tup (pv 5) pe_int (fun _ _ => rfl))) pa_nil))))) pss_nil)
      (pss_one (ps_ret (pe_tup (pa_cons (pe_op op_add (pv 3) (pe_ix ix_tup (pv 5) pe_int (fun _ _ => rfl))) (pa_cons (pe_op op_add (pv 4) (pe_ix ix_tup (pv 5) pe_int (fun _ _ => rfl))) pa_nil)))))))), ?_⟩
    obtain ⟨p, k, t, x, y, rfl, hP, ⟨k0, k3⟩, ⟨t0, t3⟩, hQ⟩ := h
    obtain ⟨rows, hM, hl, hrow⟩ := T.mov
    obtain ⟨r, cs, hr', hR, hcl, hcs⟩ := hrow k.toNat (by omega)
    obtain ⟨c, hc, hC⟩ := hcs t.toNat (by omega)
    have hatr : atI (rows.map V.ref) k = some (.ref r) := at_of k0 (get_ref hr')
    have hatc : atI (cs.map V.ref) t = some (.ref c) := at_of t0 (get_ref hc)
    have e := stepTo_go (k := k.toNat) (s := t.toNat) (by omega) (by omega) (x, y)
    rw [← e] at hQ
    refine ⟨_, rfl, p, _, 0, _, rfl, rfl, hP, at0 _ _, ?_⟩
    refine ⟨_, rfl, p, _, 1, _, rfl, rfl, hP, at1 _ _, ?_⟩
    refine ⟨_, rfl, M, _, k, _, rfl, rfl, hM.sq _, hatr, _, rfl, r, _, t, _, rfl, rfl, hR.sq _, hatc, ?_⟩
    refine ⟨_, rfl, rfl, _, rfl, ?_⟩
    by_cases c2 : k = 2
    · refine if_t (decide_eq_true (by rw [c2])) ?_
      refine ⟨_, rfl, _, rfl, _, _, rfl, rfl, _, _, rfl, rfl, (by show (0 : Int) < 2; decide), rfl, _, rfl, ?_⟩
      by_cases c3 : (x + y) % 2 = 1
      · refine if_t (decide_eq_true (congrArg V.int c3)) ?_
        refine ⟨_, rfl, _, rfl, c, _, 0, _, rfl, rfl, hC.sq _, at0 _ _, _, _, rfl, rfl, _, rfl, _, rfl, c, _, 1, _, rfl, rfl, hC.sq _, at1 _ _, _, _, rfl, rfl, (by show 2 ≤ sizeLine; decide), fun q hq => ?_⟩
        have z := hQ q hq
        rw [stepTo_pos rfl ⟨by omega, c3⟩] at z
        exact z
      · refine if_f (decide_eq_false (fun z => c3 (V.int.inj z))) ?_
        refine ⟨_, rfl, _, rfl, c, _, 0, _, rfl, rfl, hC.sq _, at0 _ _, _, _, rfl, rfl, _, rfl, _, rfl, c, _, 1, _, rfl, rfl, hC.sq _, at1 _ _, _, _, rfl, rfl, (by show 2 ≤ sizeLine; decide), fun q hq => ?_⟩
        have z := hQ q hq
        rw [stepTo_neg rfl (fun z => c3 z.2)] at z
        exact z
    · refine if_f (decide_eq_false (fun z => c2 (V.int.inj z))) ?_
      refine iteF ?_
      refine ⟨_, rfl, _, rfl, c, _, 0, _, rfl, rfl, hC.sq _, at0 _ _, _, _, rfl, rfl, _, rfl, _, rfl, c, _, 1, _, rfl, rfl, hC.sq _, at1 _ _, _, _, rfl, rfl, (by show 2 ≤ sizeLine; decide), fun q hq => ?_⟩
      have z := hQ q hq
      rw [stepTo_neg rfl (fun z => c2 (by omega))] at z
      exact z
end
end NB
namespace NB
open PySem PySem.Spec PyProof.Rows L2
open PySem.W (Codec)
abbrev sPla : Stmt := top 10
theorem scPla : FnScope ["kind", "steps", "place", "places", "step"] ["kind", "steps"] (defScope sPla) := ⟨rfl, rfl, rfl, by decide +kernel, rfl, by decide +kernel, by decide +kernel⟩
def spPla (K : PySem.W.Frag) : Sp := fun vs H Q _ => ∃ (a : Addr) (k : Int) (ns : List Int), vs = [.int k, .ref a] ∧ SqL K H a (ns.map V.int) ∧ (0 ≤ k ∧ k < 3) ∧ okS k.toNat ns = true ∧ ns.length ≤ 4096 ∧
  ∀ H' p, Same H H' → H p = none → Lies H' p (Sh19.walk k.toNat (nat ns)) → Q (.ref p) H'
section
variable {P : Program} {w : World} {K : PySem.W.Frag} {mg : Str → Option Value} {base : Heap} {M : Addr}
theorem ok_pla {f : Addr} {fd : FuncData} (F : Fun K "places_of" "places_of" sPla f fd) (CA : Cal P w K mg base 1 "place_after" ["kind", "place", "step"] (spAft K)) : FnOk P w K mg base CX0 2 f fd ["kind", "steps"] (spPla K) := by
  refine F.ok scPla (fun vs H Q E h => ?_) (fun cdv A outer s H vs Q E hr h => ?_)
  · obtain ⟨a, k, ns, rfl, _⟩ := h
    rfl
  · refine ⟨_, pss_cons (ps_set (i := 2) scPla.nd rfl (Or.inl rfl) (pe_tup (pa_cons pe_int (pa_cons pe_int pa_nil))))
      (pss_cons (ps_set (i := 3) scPla.nd rfl (Or.inl rfl) (pe_lst (pa_cons (pv 2) pa_nil)))
      (pss_cons (ps_for PassesOwn.never rfl (pi_list (pv 1)) (pg_name (i := 4) scPla.nd rfl (Or.inl rfl))
        (pss_cons (ps_set (i := 2) scPla.nd rfl (Or.inl rfl) (pe_cal CA hr (pa_cons (pv 0) (pa_cons (pv 2) (pa_cons (pv 4) pa_nil)))))
        (pss_one (ps_expr (pe_bm PySem.F.plainAttrs_list PySem.F.slot_list_append PySem.F.type_list_append mt_append (pv 3) (pa_cons (pv 2) pa_nil))))))
      (pss_one (ps_ret (pv 3))))), ?_⟩
    obtain ⟨a, k, ns, rfl, hS, ⟨k0, k3⟩, ok, hn, hQ⟩ := h
    refine ⟨(by show 2 ≤ sizeLine; decide), fun c0 hc0 => ?_⟩
    refine ⟨_, rfl, (by show 1 ≤ sizeLine; decide), fun p hp => ?_⟩
    have np : p ≠ c0 := fun e => by
      rw [e, upd_same] at hp
      cases hp
    have hp0 : H p = none := by
      rw [upd_ne np] at hp
      exact hp
    have s0 : Same H (upd (upd H c0 (.tup [.int 0, .int 0])) p (.lst [.ref c0])) := (same_new hc0).trans (same_new hp)
    refine ⟨_, rfl, a, rfl, ⟨_, s0.seq hS⟩, for_list (K := K) (a := a) (xs := ns.map V.int)
      (fun i σ H' => ∃ (v : Option V) (c : Addr), σ = [some (.int k), some (.ref a), some (.ref c), some (.ref p), v] ∧ Same H H' ∧ Lies H' p (Sh19.walk k.toNat (nat (ns.take i))) ∧
        H' c = some (.tup [.int (Sh19.ending k.toNat (nat (ns.take i))).1, .int (Sh19.ending k.toNat (nat (ns.take i))).2]))
      ⟨none, c0, rfl, s0, ⟨[c0], upd_same, rfl, fun i c q h1 h2 => ?_⟩, ?_⟩ (fun i σ H' _ ⟨_, _, _, s5, _⟩ => s5.seq hS) ?_ ?_⟩
    · match i, h1 with
      | 0, h1 =>
        have e1 : c0 = c := Option.some.inj h1
        have e2 : ((0, 0) : Int × Int) = q := Option.some.inj h2
        subst e1
        subst e2
        rw [upd_ne np.symm]
        exact upd_same
    · rw [upd_ne np.symm]
      exact upd_same
    · rintro i y σ H' hi ⟨v, c, rfl, s5, L5, hc⟩
      obtain ⟨z, hz, rfl⟩ := get_int hi
      obtain ⟨z0, z3⟩ := okS_at ok hz
      obtain ⟨cs, hcs, hlen, hall⟩ := L5.ex
      have hil : i < ns.length := (List.getElem?_eq_some_iff.mp hz).1
      refine ⟨_, rfl, _, rfl, _, rfl, c, k, z, _, _, rfl, SqT.of hc, ⟨k0, k3⟩, ⟨z0, z3⟩, fun q hq => ?_⟩
      have npq : p ≠ q := ne_of_none hcs hq
      have hcs2 : upd H' q (.tup [.int (Sh19.go k.toNat (Sh19.ending k.toNat (nat (ns.take i))) z.toNat).1, .int (Sh19.go k.toNat (Sh19.ending k.toNat (nat (ns.take i))) z.toNat).2]) p = some (.lst (cs.map V.ref)) := by
        rw [upd_ne npq]
        exact hcs
      have hwl : cs.length = i + 1 := by
        rw [hlen, walk_len]
        unfold nat
        rw [List.length_map, List.length_take]
        omega
      refine ⟨_, rfl, .inl ⟨rfl, _, SqL.of hcs2⟩, _, rfl, p, _, _, rfl, rfl, hcs2, ?_, ?_⟩
      · rw [List.length_map, hwl]
        exact Nat.lt_of_le_of_lt (show i + 1 ≤ 4096 by omega) (by decide)
      · have e1 : nat (ns.take (i + 1)) = nat (ns.take i) ++ [z.toNat] := nat_snoc hz
        refine ⟨some (.int z), q, rfl, ?_, ⟨cs ++ [q], ?_, ?_, ?_⟩, ?_⟩
        · intro b o e
          have hbp : b ≠ p := ne_of_none e hp0
          rw [upd_ne hbp]
          exact same_new hq b o (s5 b o e)
        · rw [upd_same, List.map_append]
          rfl
        · rw [e1, walk_snoc, List.length_append, List.length_append, hlen]
          rfl
        · intro j c' q' h1 h2
          have hne : ∀ d, upd H' q (.tup [.int (Sh19.go k.toNat (Sh19.ending k.toNat (nat (ns.take i))) z.toNat).1, .int (Sh19.go k.toNat (Sh19.ending k.toNat (nat (ns.take i))) z.toNat).2]) d = some (.tup [.int q'.1, .int q'.2]) →
              upd (upd H' q (.tup [.int (Sh19.go k.toNat (Sh19.ending k.toNat (nat (ns.take i))) z.toNat).1, .int (Sh19.go k.toNat (Sh19.ending k.toNat (nat (ns.take i))) z.toNat).2])) p (.lst (cs.map V.ref ++ [.ref q])) d = some (.tup [.int q'.1, .int q'.2]) := fun d hd => by
            rw [upd_ne (ne_of hd hcs2 (fun z => nomatch z))]
            exact hd
          refine hne c' ?_
          rw [e1, walk_snoc] at h2
          by_cases hj : j < cs.length
          · rw [List.getElem?_append_left hj] at h1
            rw [List.getElem?_append_left (by rw [← hlen]; exact hj)] at h2
            have hd := hall j c' q' h1 h2
            exact same_new hq c' _ hd
          · have hj2 : j = cs.length := by
              have := (List.getElem?_eq_some_iff.mp h1).1
              rw [List.length_append, List.length_singleton] at this
              omega
            subst hj2
            rw [List.getElem?_append_right (Nat.le_refl _), Nat.sub_self] at h1
            rw [List.getElem?_append_right (by rw [hlen]; exact Nat.le_refl _), hlen, Nat.sub_self] at h2
            have x1 : q = c' := Option.some.inj h1
            have x2 : Sh19.go k.toNat (Sh19.ending k.toNat (nat (ns.take i))) z.toNat = q' := Option.some.inj h2
            subst x1
            subst x2
            exact upd_same
        · rw [e1, ending_snoc, upd_ne npq.symm]
          exact upd_same
    · rintro σ H' ⟨v, c, rfl, s5, L5, hc⟩
      rw [List.length_map, List.take_length] at L5
      exact ⟨_, rfl, hQ H' p s5 hp0 L5⟩
end
end NB
namespace NB
open PySem PySem.Spec PyProof.Rows L2
open PySem.W (Codec)
/-! ### all_differ -/
/-- the places of a list that lies so, an address and its two ints each -/
theorem lies_rows {H : Hp} {p : Addr} {ps : List (Int × Int)} (h : Lies H p ps) : ∃ ks : List (Addr × List Int), H p = some (.lst (ks.map fun q => V.ref q.1)) ∧ (∀ q ∈ ks, H q.1 = some (.tup (q.2.map V.int))) ∧ ks.map (·.2) = ps.map fun q => [q.1, q.2] := by
  obtain ⟨cs, h1, h2, h3⟩ := h.ex
  have e1 : (cs.zip (ps.map fun q => [q.1, q.2])).map (·.1) = cs := List.map_fst_zip (by rw [List.length_map, h2]; exact Nat.le_refl _)
  have e2 : (cs.zip (ps.map fun q => [q.1, q.2])).map (·.2) = ps.map fun q => [q.1, q.2] := List.map_snd_zip (by rw [List.length_map, h2]; exact Nat.le_refl _)
  refine ⟨cs.zip (ps.map fun q => [q.1, q.2]), ?_, fun q hq => ?_, e2⟩
  · rw [h1]
    have e3 : (cs.zip (ps.map fun q => [q.1, q.2])).map (fun q => V.ref q.1) = ((cs.zip (ps.map fun q => [q.1, q.2])).map (·.1)).map V.ref := by rw [List.map_map]; rfl
    rw [e3, e1]
  · obtain ⟨i, i1, i2⟩ := List.getElem_of_mem hq
    rw [List.getElem_zip] at i2
    have l1 : i < cs.length := by rw [List.length_zip] at i1; omega
    have l2 : i < ps.length := by omega
    rw [← i2, List.getElem_map]
    exact h3 i cs[i] ps[i] (List.getElem?_eq_getElem l1) (List.getElem?_eq_getElem l2)
theorem pair_nodup : ∀ ps : List (Int × Int), (ps.map fun q => [q.1, q.2]).Nodup ↔ ps.Nodup
  | [] => by simp
  | (x, y) :: r => by
    rw [List.map_cons, List.nodup_cons, List.nodup_cons, pair_nodup r]
    have e : ([x, y] ∈ r.map fun q => [q.1, q.2]) ↔ (x, y) ∈ r := by
      rw [List.mem_map]
      constructor
      · rintro ⟨⟨u, v⟩, h1, h2⟩
        injection h2 with a b
        injection b with b _
        subst a
        subst b
        exact h1
      · exact fun h => ⟨_, h, rfl⟩
    rw [e]
/-- as many as there are: none twice -/
theorem same_len {α : Type} [DecidableEq α] : ∀ (l : List α) (L : List α), L.Nodup → (∀ k, k ∈ L ↔ k ∈ l) → (L.length = l.length ↔ l.Nodup)
  | [], L, _, h => by
    have : L = [] := List.eq_nil_iff_forall_not_mem.mpr fun k hk => absurd ((h k).1 hk) List.not_mem_nil
    subst this
    simp
  | x :: r, L, nd, h => by
    have hx : x ∈ L := (h x).2 List.mem_cons_self
    have hl : (L.erase x).length = L.length - 1 := List.length_erase_of_mem hx
    have hp : 0 < L.length := List.length_pos_of_mem hx
    have ne : (L.erase x).Nodup := nd.erase x
    have mem : ∀ k, k ∈ L.erase x ↔ k ≠ x ∧ k ∈ x :: r := fun k => by rw [nd.mem_erase_iff, h k]
    rw [List.nodup_cons]
    by_cases c : x ∈ r
    · -- L is as long as what r has
      have le : ∀ (A B : List α), A.Nodup → (∀ k ∈ A, k ∈ B) → A.length ≤ B.length := by
        intro A
        induction A with
        | nil => intro B _ _; exact Nat.zero_le _
        | cons a A ih =>
          intro B n s
          obtain ⟨n1, n2⟩ := List.nodup_cons.mp n
          have ha : a ∈ B := s a List.mem_cons_self
          have q := ih (B.erase a) n2 fun k hk => (List.mem_erase_of_ne (fun (e : k = a) => n1 (by rw [← e]; exact hk))).2 (s k (List.mem_cons_of_mem _ hk))
          have z := List.length_erase_of_mem ha
          have y := List.length_pos_of_mem ha
          show A.length + 1 ≤ B.length
          omega
      have q := le L r nd fun k hk => by
        rcases List.mem_cons.mp ((h k).1 hk) with e | e
        · rw [e]; exact c
        · exact e
      constructor
      · intro z
        have z' : L.length = r.length + 1 := z
        omega
      · exact fun z => absurd c z.1
    · have ih := same_len r (L.erase x) ne fun k => by
        rw [mem k]
        constructor
        · rintro ⟨a, b⟩
          rcases List.mem_cons.mp b with e | e
          · exact absurd e a
          · exact e
        · exact fun z => ⟨fun e => c (e ▸ z), List.mem_cons_of_mem _ z⟩
      rw [← ih]
      constructor
      · intro z
        have z' : L.length = r.length + 1 := z
        exact ⟨c, by omega⟩
      · rintro ⟨_, z⟩
        show L.length = r.length + 1
        omega
def spDif (K : PySem.W.Frag) : Sp := fun vs H Q _ => ∃ (p : Addr) (ps : List Sh19.Place), vs = [.ref p] ∧ Lies H p ps ∧ ps.length < 256 ∧ Q (.bl (Sh19.distinct ps)) H
abbrev sDif : Stmt := top 11
theorem scDif : FnScope ["places"] ["places"] (defScope sDif) := ⟨rfl, rfl, rfl, by decide +kernel, rfl, by decide +kernel, by decide +kernel⟩
section
variable {P : Program} {w : World} {K : PySem.W.Frag} {mg : Str → Option Value} {base : Heap} {M : Addr}
theorem ok_dif {f : Addr} {fd : FuncData} (F : Fun K "all_differ" "all_differ" sDif f fd) (ml : mg "len" = none) (ms : mg "set" = none) : FnOk P w K mg base CX0 1 f fd ["places"] (spDif K) := by
  refine F.ok scDif (fun vs H Q E h => ?_) (fun cdv A outer s H vs Q E hr h => ?_)
  · obtain ⟨p, ps, rfl, _⟩ := h
    rfl
  · refine ⟨_, pss_one (ps_ret (pe_cmpR op_eq (NS.pe_lenSetT rfl hr.units rfl ml rfl ms (pv 0)) (pe_callB call_len_seq (by rfl) ml PySem.boot_len (pa_cons (pv 0) pa_nil)) (nomark _))), ?_⟩
    obtain ⟨p, ps, rfl, hl, fw, hQ⟩ := h
    obtain ⟨ks, k1, k2, k3⟩ := lies_rows hl
    have kl : ks.length = ps.length := by
      have q := congrArg List.length k3
      rw [List.length_map, List.length_map] at q
      exact q
    refine ⟨_, rfl, p, ks, rfl, SqL.of k1, fun q hq => SqT.of (k2 q hq), by rw [kl]; exact fw, fun L nd hL => ?_⟩
    refine ⟨_, rfl, p, _, rfl, .inl (SqL.of k1), rfl, ?_⟩
    rw [k3] at hL
    have e : decide (V.int (L.length : Nat) = V.int (((ks.map fun q => V.ref q.1).length : Nat) : Int)) = Sh19.distinct ps := by
      have z : (V.int (L.length : Nat) = V.int (((ks.map fun q => V.ref q.1).length : Nat) : Int)) ↔ Sh19.distinct ps = true := by
        rw [distinct_nodup, ← pair_nodup, ← same_len _ L nd hL, List.length_map, List.length_map, kl]
        constructor
        · intro z
          have z' := V.int.inj z
          omega
        · intro z
          rw [z]
      cases d : Sh19.distinct ps with
      | true => exact decide_eq_true (z.2 d)
      | false => exact decide_eq_false fun y => by rw [z.1 y] at d; cases d
    rw [← e] at hQ
    exact hQ
end
end NB
namespace NB
open PySem PySem.Spec PyProof.Rows L2
open PySem.W (Codec)
abbrev sIs : Stmt := top 12
theorem scIs : FnScope ["kind", "steps", "refused"] ["kind", "steps"] (defScope sIs) := ⟨rfl, rfl, rfl, by decide +kernel, rfl, by decide +kernel, by decide +kernel⟩
def spIs (K : PySem.W.Frag) : Sp := fun vs H Q _ => ∃ (a : Addr) (k : Int) (ns : List Int), vs = [.int k, .ref a] ∧ SqL K H a (ns.map V.int) ∧ (∀ x ∈ ns, 0 ≤ x) ∧ ns.length ≤ 200 ∧
  ∀ (H' : Hp) (p : Addr), H' p = some (.lst ((PySh19.is_true k ns).map V.int)) → Q (.ref p) H'
section
variable {P : Program} {w : World} {K : PySem.W.Frag} {mg : Str → Option Value} {base : Heap} {M : Addr}
theorem ok_is {f : Addr} {fd : FuncData} (F : Fun K "is_true" "is_true" sIs f fd) (CR : Cal P w K mg base 2 "refusal" ["kind", "steps"] (spRef K)) (CP : Cal P w K mg base 2 "places_of" ["kind", "steps"] (spPla K)) (CD : Cal P w K mg base 1 "all_differ" ["places"] (spDif K)) :
    FnOk P w K mg base CX0 3 f fd ["kind", "steps"] (spIs K) := by
  refine F.ok scIs (fun vs H Q E h => ?_) (fun cdv A outer s H vs Q E hr h => ?_)
  · obtain ⟨a, k, ns, rfl, _⟩ := h
    rfl
  · refine ⟨_, pss_cons (ps_set (i := 2) scIs.nd rfl (Or.inl rfl) (pe_cal CR hr (pa_cons (pv 0) (pa_cons (pv 1) pa_nil))))
      (pss_cons (ps_if (pt_cmpR op_ne (pv 2) pe_int (nomark _)) (pss_one (ps_ret (pe_lst (pa_cons (pv 2) pa_nil)))) pss_nil)
      (pss_one (ps_ret (pe_lst (pa_cons (pe_ifExp (pt_val (pe_cal CD (hr.mono (by decide)) (pa_cons (pe_cal CP hr (pa_cons (pv 0) (pa_cons (pv 1) pa_nil))) pa_nil))) pe_int pe_int) pa_nil))))), ?_⟩
    obtain ⟨a, k, ns, rfl, hS, hp, hn, hQ⟩ := h
    refine ⟨_, rfl, _, rfl, a, k, ns, rfl, hS, ?_⟩
    refine ⟨_, rfl, rfl, _, rfl, ?_⟩
    by_cases c : refu k ns = 0
    · refine if_f (by rw [c]; rfl) ?_
      obtain ⟨ci, co⟩ := refu_zero c
      obtain ⟨k0, k3, kn⟩ := inR_bd ci
      refine ⟨_, rfl, _, rfl, a, k, ns, rfl, hS, ⟨k0, k3⟩, co, kn, fun H1 p s1 _ L1 => ?_⟩
      refine ⟨p, _, rfl, L1, ?_, _, rfl, ?_⟩
      · rw [walk_len]
        unfold nat
        rw [List.length_map]
        omega
      · have fin : ∀ (z : Int) (H' : Hp) (q : Addr), (if Sh19.isTrue k.toNat (nat ns) = true then (1 : Int) else 0) = z → H' q = some (.lst [.int z]) → Q (.ref q) H' := fun z H' q e hq => hQ H' q (by rw [is_ok hp c, e]; exact hq)
        cases d : Sh19.distinct (Sh19.walk k.toNat (nat ns)) with
        | true =>
          refine iteT ⟨(by show 1 ≤ sizeLine; decide), fun q hq => fin 1 _ q (if_pos d) upd_same⟩
        | false =>
          refine iteF ⟨(by show 1 ≤ sizeLine; decide), fun q hq => fin 0 _ q (if_neg (by unfold Sh19.isTrue; rw [d]; decide)) upd_same⟩
    · refine if_t (by rw [decide_eq_false (fun z => c (V.int.inj z))]; rfl) ?_
      refine ⟨_, rfl, (by show 1 ≤ sizeLine; decide), fun q hq => ?_⟩
      refine hQ _ q ?_
      rw [is_refused hp c]
      exact upd_same
end
end NB
namespace NB
open PySem PySem.Spec PyProof.Rows L2
open PySem.W (Codec)
theorem all_mk {P : Program} {w : World} {K : PySem.W.Frag} {h : Heap} {mg : Str → Option Value} {fa M : Addr} {f1 f2 f3 f4 f5 f6 f7 : Addr} (X : K.In h) (G : h.Ns mainGlobals mg) (hfa : mg "is_true" = some (.ref fa))
    {od1 an1 od2 an2 od3 an3 od4 an4 od5 an5 od6 an6 od7 an7 : Option Addr} {sl1 sl2 sl3 sl4 sl5 sl6 sl7 : Array (Option Value)} {oc1 kV1 dc1 pm1 cd1 ct1 oc2 kV2 dc2 pm2 cd2 ct2 oc3 kV3 dc3 pm3 cd3 ct3 oc4 kV4 dc4 pm4 cd4 ct4 oc5 kV5 dc5 pm5 cd5 ct5 oc6 kV6 dc6 pm6 cd6 ct6 oc7 kV7 dc7 pm7 cd7 ct7 : Value}
    {t_OUT_OF_RANGE t_WRONG_STEPS t_MOST_STEPS t_HONEYCOMB : Tok} {u0 u1 u2 : Addr} {dM d0 d1 d2 : Option Addr} {sM s0 s1 s2 : Array (Option Value)} {nM n0 n1 n2 : Nat}
    {e00 e01 e02 e03 e10 e11 e12 e13 e14 e15 e20 e21 e22 : Addr} {g00 g01 g02 g03 g10 g11 g12 g13 g14 g15 g20 g21 g22 : Option Addr} {h00 h01 h02 h03 h10 h11 h12 h13 h14 h15 h20 h21 h22 : Array (Option Value)} {m00 m01 m02 m03 m10 m11 m12 m13 m14 m15 m20 m21 m22 : Nat} {x00 y00 x01 y01 x02 y02 x03 y03 x10 y10 x11 y11 x12 y12 x13 y13 x14 y14 x15 y15 x20 y20 x21 y21 x22 y22 : Tok}
    (a1 : PySem.W.nsIn K mainGlobals "is_kind" = some (some (.ref f1))) (l1 : K.lookup f1 = some ⟨oc1, od1, .func (PySem.W.fnOf "is_kind" "is_kind" (defArgs sKind) (defBody sKind) (defScope sKind) .none kV1 dc1 pm1 an1 cd1 ct1), sl1⟩) (c1 : PySem.W.codeIn K cd1 "is_kind" = true) (k1 : PySem.W.keepIn K (.ref f1) = true)
    (a2 : PySem.W.nsIn K mainGlobals "are_steps" = some (some (.ref f2))) (l2 : K.lookup f2 = some ⟨oc2, od2, .func (PySem.W.fnOf "are_steps" "are_steps" (defArgs sAre) (defBody sAre) (defScope sAre) .none kV2 dc2 pm2 an2 cd2 ct2), sl2⟩) (c2 : PySem.W.codeIn K cd2 "are_steps" = true) (k2 : PySem.W.keepIn K (.ref f2) = true)
    (a3 : PySem.W.nsIn K mainGlobals "refusal" = some (some (.ref f3))) (l3 : K.lookup f3 = some ⟨oc3, od3, .func (PySem.W.fnOf "refusal" "refusal" (defArgs sRef) (defBody sRef) (defScope sRef) .none kV3 dc3 pm3 an3 cd3 ct3), sl3⟩) (c3 : PySem.W.codeIn K cd3 "refusal" = true) (k3 : PySem.W.keepIn K (.ref f3) = true)
    (a4 : PySem.W.nsIn K mainGlobals "place_after" = some (some (.ref f4))) (l4 : K.lookup f4 = some ⟨oc4, od4, .func (PySem.W.fnOf "place_after" "place_after" (defArgs sAft) (defBody sAft) (defScope sAft) .none kV4 dc4 pm4 an4 cd4 ct4), sl4⟩) (c4 : PySem.W.codeIn K cd4 "place_after" = true) (k4 : PySem.W.keepIn K (.ref f4) = true)
    (a5 : PySem.W.nsIn K mainGlobals "places_of" = some (some (.ref f5))) (l5 : K.lookup f5 = some ⟨oc5, od5, .func (PySem.W.fnOf "places_of" "places_of" (defArgs sPla) (defBody sPla) (defScope sPla) .none kV5 dc5 pm5 an5 cd5 ct5), sl5⟩) (c5 : PySem.W.codeIn K cd5 "places_of" = true) (k5 : PySem.W.keepIn K (.ref f5) = true)
    (a6 : PySem.W.nsIn K mainGlobals "all_differ" = some (some (.ref f6))) (l6 : K.lookup f6 = some ⟨oc6, od6, .func (PySem.W.fnOf "all_differ" "all_differ" (defArgs sDif) (defBody sDif) (defScope sDif) .none kV6 dc6 pm6 an6 cd6 ct6), sl6⟩) (c6 : PySem.W.codeIn K cd6 "all_differ" = true) (k6 : PySem.W.keepIn K (.ref f6) = true)
    (a7 : PySem.W.nsIn K mainGlobals "is_true" = some (some (.ref f7))) (l7 : K.lookup f7 = some ⟨oc7, od7, .func (PySem.W.fnOf "is_true" "is_true" (defArgs sIs) (defBody sIs) (defScope sIs) .none kV7 dc7 pm7 an7 cd7 ct7), sl7⟩) (c7 : PySem.W.codeIn K cd7 "is_true" = true) (k7 : PySem.W.keepIn K (.ref f7) = true)
    (v_OUT_OF_RANGE : PySem.W.nsIn K mainGlobals "OUT_OF_RANGE" = some (some (.int (-2) t_OUT_OF_RANGE)))
    (v_WRONG_STEPS : PySem.W.nsIn K mainGlobals "WRONG_STEPS" = some (some (.int (-3) t_WRONG_STEPS)))
    (v_MOST_STEPS : PySem.W.nsIn K mainGlobals "MOST_STEPS" = some (some (.int 4096 t_MOST_STEPS)))
    (v_HONEYCOMB : PySem.W.nsIn K mainGlobals "HONEYCOMB" = some (some (.int 2 t_HONEYCOMB)))
    (vm : PySem.W.nsIn K mainGlobals "MOVES" = some (some (.ref M))) (vM : K.lookup M = some ⟨.type "tuple", dM, .seq #[.ref u0, .ref u1, .ref u2] nM, sM⟩)
    (r0 : K.lookup u0 = some ⟨.type "tuple", d0, .seq #[.ref e00, .ref e01, .ref e02, .ref e03] n0, s0⟩)
    (r1 : K.lookup u1 = some ⟨.type "tuple", d1, .seq #[.ref e10, .ref e11, .ref e12, .ref e13, .ref e14, .ref e15] n1, s1⟩)
    (r2 : K.lookup u2 = some ⟨.type "tuple", d2, .seq #[.ref e20, .ref e21, .ref e22] n2, s2⟩)
    (w00 : K.lookup e00 = some ⟨.type "tuple", g00, .seq #[.int 1 x00, .int 0 y00] m00, h00⟩)
    (w01 : K.lookup e01 = some ⟨.type "tuple", g01, .seq #[.int 0 x01, .int 1 y01] m01, h01⟩)
    (w02 : K.lookup e02 = some ⟨.type "tuple", g02, .seq #[.int (-1) x02, .int 0 y02] m02, h02⟩)
    (w03 : K.lookup e03 = some ⟨.type "tuple", g03, .seq #[.int 0 x03, .int (-1) y03] m03, h03⟩)
    (w10 : K.lookup e10 = some ⟨.type "tuple", g10, .seq #[.int 1 x10, .int 0 y10] m10, h10⟩)
    (w11 : K.lookup e11 = some ⟨.type "tuple", g11, .seq #[.int 0 x11, .int 1 y11] m11, h11⟩)
    (w12 : K.lookup e12 = some ⟨.type "tuple", g12, .seq #[.int (-1) x12, .int 1 y12] m12, h12⟩)
    (w13 : K.lookup e13 = some ⟨.type "tuple", g13, .seq #[.int (-1) x13, .int 0 y13] m13, h13⟩)
    (w14 : K.lookup e14 = some ⟨.type "tuple", g14, .seq #[.int 0 x14, .int (-1) y14] m14, h14⟩)
    (w15 : K.lookup e15 = some ⟨.type "tuple", g15, .seq #[.int 1 x15, .int (-1) y15] m15, h15⟩)
    (w20 : K.lookup e20 = some ⟨.type "tuple", g20, .seq #[.int 1 x20, .int 0 y20] m20, h20⟩)
    (w21 : K.lookup e21 = some ⟨.type "tuple", g21, .seq #[.int (-1) x21, .int 0 y21] m21, h21⟩)
    (w22 : K.lookup e22 = some ⟨.type "tuple", g22, .seq #[.int 0 x22, .int 1 y22] m22, h22⟩)
    (z_len : PySem.W.nsIn K mainGlobals "len" = some none)
    (z_set : PySem.W.nsIn K mainGlobals "set" = some none) :
    ∃ fd : FuncData, (∀ (s : Shared) (us : List Value), us.length = (["kind", "steps"] : List Str).length → BindsTo s fd ⟨us, []⟩ ((["kind", "steps"] : List Str).zip us)) ∧ ∀ base : Heap, K.In base → base.Ns mainGlobals mg → FnOk P w K mg base L2.CX0 3 fa fd ["kind", "steps"] (spIs K) := by
  have e := hfa.symm.trans (PySem.W.mg_of X G a7)
  cases e
  have tm : ∃ rows : List Addr, TupK K M (rows.map V.ref) ∧ rows.length = 3 ∧ ∀ k, k < 3 → ∃ (r : Addr) (cs : List Addr), rows[k]? = some r ∧ TupK K r (cs.map V.ref) ∧ cs.length = Sh19.ways k ∧
      ∀ s, s < Sh19.ways k → ∃ c, cs[s]? = some c ∧ TupK K c [.int (movAt k s).1, .int (movAt k s).2] := by
    refine ⟨[u0, u1, u2], (.inr ⟨_, _, _, vM, rfl, rfl, (by show 3 ≤ sizeLine; decide), .cons rfl (.cons rfl (.cons rfl .nil))⟩), rfl, fun k hk => ?_⟩
    match k, hk with
    | 0, _ =>
      refine ⟨u0, [e00, e01, e02, e03], rfl, (.inr ⟨_, _, _, r0, rfl, rfl, (by show 4 ≤ sizeLine; decide), .cons rfl (.cons rfl (.cons rfl (.cons rfl (.nil))))⟩), rfl, fun s hs => ?_⟩
      match s, hs with
      | 0, _ => exact ⟨e00, rfl, .inr ⟨_, _, _, w00, rfl, rfl, (by show 2 ≤ sizeLine; decide), .cons ⟨_, rfl⟩ (.cons ⟨_, rfl⟩ .nil)⟩⟩
      | 1, _ => exact ⟨e01, rfl, .inr ⟨_, _, _, w01, rfl, rfl, (by show 2 ≤ sizeLine; decide), .cons ⟨_, rfl⟩ (.cons ⟨_, rfl⟩ .nil)⟩⟩
      | 2, _ => exact ⟨e02, rfl, .inr ⟨_, _, _, w02, rfl, rfl, (by show 2 ≤ sizeLine; decide), .cons ⟨_, rfl⟩ (.cons ⟨_, rfl⟩ .nil)⟩⟩
      | 3, _ => exact ⟨e03, rfl, .inr ⟨_, _, _, w03, rfl, rfl, (by show 2 ≤ sizeLine; decide), .cons ⟨_, rfl⟩ (.cons ⟨_, rfl⟩ .nil)⟩⟩
      | s + 4, hs => exact absurd hs (by rw [ways0]; omega)
    | 1, _ =>
      refine ⟨u1, [e10, e11, e12, e13, e14, e15], rfl, (.inr ⟨_, _, _, r1, rfl, rfl, (by show 6 ≤ sizeLine; decide), .cons rfl (.cons rfl (.cons rfl (.cons rfl (.cons rfl (.cons rfl (.nil))))))⟩), rfl, fun s hs => ?_⟩
      match s, hs with
      | 0, _ => exact ⟨e10, rfl, .inr ⟨_, _, _, w10, rfl, rfl, (by show 2 ≤ sizeLine; decide), .cons ⟨_, rfl⟩ (.cons ⟨_, rfl⟩ .nil)⟩⟩
      | 1, _ => exact ⟨e11, rfl, .inr ⟨_, _, _, w11, rfl, rfl, (by show 2 ≤ sizeLine; decide), .cons ⟨_, rfl⟩ (.cons ⟨_, rfl⟩ .nil)⟩⟩
      | 2, _ => exact ⟨e12, rfl, .inr ⟨_, _, _, w12, rfl, rfl, (by show 2 ≤ sizeLine; decide), .cons ⟨_, rfl⟩ (.cons ⟨_, rfl⟩ .nil)⟩⟩
      | 3, _ => exact ⟨e13, rfl, .inr ⟨_, _, _, w13, rfl, rfl, (by show 2 ≤ sizeLine; decide), .cons ⟨_, rfl⟩ (.cons ⟨_, rfl⟩ .nil)⟩⟩
      | 4, _ => exact ⟨e14, rfl, .inr ⟨_, _, _, w14, rfl, rfl, (by show 2 ≤ sizeLine; decide), .cons ⟨_, rfl⟩ (.cons ⟨_, rfl⟩ .nil)⟩⟩
      | 5, _ => exact ⟨e15, rfl, .inr ⟨_, _, _, w15, rfl, rfl, (by show 2 ≤ sizeLine; decide), .cons ⟨_, rfl⟩ (.cons ⟨_, rfl⟩ .nil)⟩⟩
      | s + 6, hs => exact absurd hs (by rw [ways1]; omega)
    | 2, _ =>
      refine ⟨u2, [e20, e21, e22], rfl, (.inr ⟨_, _, _, r2, rfl, rfl, (by show 3 ≤ sizeLine; decide), .cons rfl (.cons rfl (.cons rfl (.nil)))⟩), rfl, fun s hs => ?_⟩
      match s, hs with
      | 0, _ => exact ⟨e20, rfl, .inr ⟨_, _, _, w20, rfl, rfl, (by show 2 ≤ sizeLine; decide), .cons ⟨_, rfl⟩ (.cons ⟨_, rfl⟩ .nil)⟩⟩
      | 1, _ => exact ⟨e21, rfl, .inr ⟨_, _, _, w21, rfl, rfl, (by show 2 ≤ sizeLine; decide), .cons ⟨_, rfl⟩ (.cons ⟨_, rfl⟩ .nil)⟩⟩
      | 2, _ => exact ⟨e22, rfl, .inr ⟨_, _, _, w22, rfl, rfl, (by show 2 ≤ sizeLine; decide), .cons ⟨_, rfl⟩ (.cons ⟨_, rfl⟩ .nil)⟩⟩
      | s + 3, hs => exact absurd hs (by rw [ways2]; omega)
    | k + 3, hk => exact absurd hk (by omega)
  have m_len := PySem.W.mg_none_of X G z_len
  have m_set := PySem.W.mg_none_of X G z_set
  have g_OUT_OF_RANGE : ∃ t, mg "OUT_OF_RANGE" = some (.int (-2) t) := ⟨_, PySem.W.mg_of X G v_OUT_OF_RANGE⟩
  have g_WRONG_STEPS : ∃ t, mg "WRONG_STEPS" = some (.int (-3) t) := ⟨_, PySem.W.mg_of X G v_WRONG_STEPS⟩
  have g_MOST_STEPS : ∃ t, mg "MOST_STEPS" = some (.int 4096 t) := ⟨_, PySem.W.mg_of X G v_MOST_STEPS⟩
  have g_HONEYCOMB : ∃ t, mg "HONEYCOMB" = some (.int 2 t) := ⟨_, PySem.W.mg_of X G v_HONEYCOMB⟩
  have T : Txt K mg M := ⟨m_len, g_HONEYCOMB, PySem.W.mg_of X G vm, tm⟩
  have F1 := fun_mk (st := sKind) l1 c1 k1
  have b1 := F1.binds (ps := ["kind"]) fun _ _ _ _ _ _ us hl => match us, hl with | [_], _ => rfl
  have j1 := PySem.W.mg_of X G a1
  have F2 := fun_mk (st := sAre) l2 c2 k2
  have b2 := F2.binds (ps := ["kind", "steps"]) fun _ _ _ _ _ _ us hl => match us, hl with | [_, _], _ => rfl
  have j2 := PySem.W.mg_of X G a2
  have F3 := fun_mk (st := sRef) l3 c3 k3
  have b3 := F3.binds (ps := ["kind", "steps"]) fun _ _ _ _ _ _ us hl => match us, hl with | [_, _], _ => rfl
  have j3 := PySem.W.mg_of X G a3
  have F4 := fun_mk (st := sAft) l4 c4 k4
  have b4 := F4.binds (ps := ["kind", "place", "step"]) fun _ _ _ _ _ _ us hl => match us, hl with | [_, _, _], _ => rfl
  have j4 := PySem.W.mg_of X G a4
  have F5 := fun_mk (st := sPla) l5 c5 k5
  have b5 := F5.binds (ps := ["kind", "steps"]) fun _ _ _ _ _ _ us hl => match us, hl with | [_, _], _ => rfl
  have j5 := PySem.W.mg_of X G a5
  have F6 := fun_mk (st := sDif) l6 c6 k6
  have b6 := F6.binds (ps := ["places"]) fun _ _ _ _ _ _ us hl => match us, hl with | [_], _ => rfl
  have j6 := PySem.W.mg_of X G a6
  have F7 := fun_mk (st := sIs) l7 c7 k7
  have b7 := F7.binds (ps := ["kind", "steps"]) fun _ _ _ _ _ _ us hl => match us, hl with | [_, _], _ => rfl
  have j7 := PySem.W.mg_of X G a7
  have C_is_kind : ∀ B : Heap, Cal P w K mg B 1 "is_kind" ["kind"] (spKind K) := fun B => ⟨_, _, ok_kind F1 T, F1.kp, b1, j1⟩
  have C_are_steps : ∀ B : Heap, Cal P w K mg B 1 "are_steps" ["kind", "steps"] (spAre K) := fun B => ⟨_, _, ok_are F2 T, F2.kp, b2, j2⟩
  have C_refusal : ∀ B : Heap, Cal P w K mg B 2 "refusal" ["kind", "steps"] (spRef K) := fun B => ⟨_, _, ok_ref F3 T g_OUT_OF_RANGE g_WRONG_STEPS g_MOST_STEPS (C_is_kind B) (C_are_steps B), F3.kp, b3, j3⟩
  have C_place_after : ∀ B : Heap, Cal P w K mg B 1 "place_after" ["kind", "place", "step"] (spAft K) := fun B => ⟨_, _, ok_aft F4 T, F4.kp, b4, j4⟩
  have C_places_of : ∀ B : Heap, Cal P w K mg B 2 "places_of" ["kind", "steps"] (spPla K) := fun B => ⟨_, _, ok_pla F5 (C_place_after B), F5.kp, b5, j5⟩
  have C_all_differ : ∀ B : Heap, Cal P w K mg B 1 "all_differ" ["places"] (spDif K) := fun B => ⟨_, _, ok_dif F6 T.len m_set, F6.kp, b6, j6⟩
  refine ⟨PySem.W.fnOf "is_true" "is_true" (defArgs sIs) (defBody sIs) (defScope sIs) .none kV7 dc7 pm7 an7 cd7 ct7, fun s us hu => match us, hu with | [_, _], _ => .of_eq rfl, fun base KB _ => ?_⟩
  exact ok_is F7 (C_refusal base) (C_places_of base) (C_all_differ base)
end NB
open PySem PySem.W PyProof.Rows
set_option maxRecDepth 100000 in
set_option maxHeartbeats 8000000 in
theorem PySem.Challenge.cw_neverback_s01_is_true_holds : PySem.Challenge.rw_neverback_s01_is_true.Holds := by
  w_on; k_headS; (case hw => exact ⟨[.int 0, .list []], by decide +kernel, by decide +kernel⟩)
  k_fillS
  refine L2.walk_specK (r := PySem.Challenge.rw_neverback_s01_is_true) (k := 3) (CX := L2.CX0) (ps := ["kind", "steps"]) (sp := NB.spIs) (by decide +kernel) rfl rfl ⟨rfl, by decide, by decide⟩ (fun w h Y => PySem.W.kIn_of Y) ?F ?S (fun _ _ _ _ z => z)
  case F =>
    intro w mg fa h Y KX G hmg
    refine' NB.all_mk KX G hmg ?a1 ?l1 ?c1 ?k1 ?a2 ?l2 ?c2 ?k2 ?a3 ?l3 ?c3 ?k3 ?a4 ?l4 ?c4 ?k4 ?a5 ?l5 ?c5 ?k5 ?a6 ?l6 ?c6 ?k6 ?a7 ?l7 ?c7 ?k7 ?v_OUT_OF_RANGE ?v_WRONG_STEPS ?v_MOST_STEPS ?v_HONEYCOMB ?vm ?vM ?r0 ?r1 ?r2 ?w00 ?w01 ?w02 ?w03 ?w10 ?w11 ?w12 ?w13 ?w14 ?w15 ?w20 ?w21 ?w22 ?z_len ?z_set
    (case a1 => k_is)
    (case l1 => k_is)
    (case c1 => k_is)
    (case k1 => k_is)
    (case a2 => k_is)
    (case l2 => k_is)
    (case c2 => k_is)
    (case k2 => k_is)
    (case a3 => k_is)
    (case l3 => k_is)
    (case c3 => k_is)
    (case k3 => k_is)
    (case a4 => k_is)
    (case l4 => k_is)
    (case c4 => k_is)
    (case k4 => k_is)
    (case a5 => k_is)
    (case l5 => k_is)
    (case c5 => k_is)
    (case k5 => k_is)
    (case a6 => k_is)
    (case l6 => k_is)
    (case c6 => k_is)
    (case k6 => k_is)
    (case a7 => k_is)
    (case l7 => k_is)
    (case c7 => k_is)
    (case k7 => k_is)
    (case v_OUT_OF_RANGE => k_is)
    (case v_WRONG_STEPS => k_is)
    (case v_MOST_STEPS => k_is)
    (case v_HONEYCOMB => k_is)
    (case vm => k_is)
    (case vM => k_is)
    (case r0 => k_is)
    (case r1 => k_is)
    (case r2 => k_is)
    (case w00 => k_is)
    (case w01 => k_is)
    (case w02 => k_is)
    (case w03 => k_is)
    (case w10 => k_is)
    (case w11 => k_is)
    (case w12 => k_is)
    (case w13 => k_is)
    (case w14 => k_is)
    (case w15 => k_is)
    (case w20 => k_is)
    (case w21 => k_is)
    (case w22 => k_is)
    (case z_len => k_is)
    (case z_set => k_is)
  case S =>
    intro K H xs a hO hwi hask hx
    cases hx with
    | cons h1 h2 =>
      cases h2 with
      | cons h2 h3 =>
        cases h3
        cases h1
        cases h2 with
        | lst hs ha =>
          have e := L2.ints_dw a.2.1 _ ha
          subst e
          have q : (Codec.inInt 0 2147483647 a.1 && ((Codec.inLen 0 200 a.2.1 && a.2.1.all (Codec.inInt 0 255)) && true)) = true := hwi
          rw [Bool.and_eq_true, Bool.and_eq_true, Bool.and_eq_true] at q
          refine ⟨_, a.1, a.2.1, rfl, hs, fun x hx => ?_, (Codec.inNat_iff.mp q.2.1.1).2, fun H' p hp => .lst (L2.SqL.of hp) (L2.dw_ints _)⟩
          have q2 := List.all_eq_true.mp q.2.1.2 x hx
          unfold Codec.inInt at q2
          rw [Bool.and_eq_true] at q2
          exact of_decide_eq_true q2.1
#print axioms PySem.Challenge.cw_neverback_s01_is_true_holds
