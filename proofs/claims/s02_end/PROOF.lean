import PyProof.Rows.All
import Wide.All
import OpenK.AllK
import Wide.FinOn
import Open.SpecLaws
import KE.OsGo
import HandS.ForSpec
import PySem.Challenge.RW_neverback_s02_end
set_option Elab.async false
set_option maxRecDepth 100000
set_option maxHeartbeats 2000000
namespace NB
/-! ### the mathematics: no Python here -/
/-- the moves, by kind and by step -/
def movT : List (List (Int × Int)) :=
  [[(1, 0), (0, 1), (-1, 0), (0, -1)], [(1, 0), (0, 1), (-1, 1), (-1, 0), (0, -1), (1, -1)], [(1, 0), (-1, 0), (0, 1)]]
def movAt (k s : Nat) : Int × Int := (movT.getD k []).getD s (0, 0)
/-- what place_after reckons -/
def stepTo (k : Nat) (p : Int × Int) (s : Nat) : Int × Int :=
  if k = 2 ∧ (p.1 + p.2) % 2 = 1 then (p.1 + (movAt k s).1, p.2 - (movAt k s).2) else (p.1 + (movAt k s).1, p.2 + (movAt k s).2)
theorem ways0 : Sh19.ways 0 = 4 := rfl
theorem ways1 : Sh19.ways 1 = 6 := rfl
theorem ways2 : Sh19.ways 2 = 3 := rfl
theorem stepTo_neg {k s : Nat} {x y : Int} {m : Int × Int} (hm : movAt k s = m) (c : ¬ (k = 2 ∧ (x + y) % 2 = 1)) : stepTo k (x, y) s = (x + m.1, y + m.2) := by
  unfold stepTo
  rw [if_neg c, hm]
theorem stepTo_pos {k s : Nat} {x y : Int} {m : Int × Int} (hm : movAt k s = m) (c : k = 2 ∧ (x + y) % 2 = 1) : stepTo k (x, y) s = (x + m.1, y - m.2) := by
  unfold stepTo
  rw [if_pos c, hm]
theorem go22 (x y : Int) : Sh19.go 2 (x, y) 2 = if (x + y) % 2 = 0 then (x, y + 1) else (x, y - 1) := rfl
theorem stepTo_go {k s : Nat} (hk : k < 3) (hs : s < Sh19.ways k) (p : Int × Int) : stepTo k p s = Sh19.go k p s := by
  obtain ⟨x, y⟩ := p
  have pr : ∀ {a b c d : Int}, a = c → b = d → ((a, b) : Int × Int) = (c, d) := fun h1 h2 => by rw [h1, h2]
  have h : k = 0 ∨ k = 1 ∨ k = 2 := by omega
  rcases h with rfl | rfl | rfl
  · rw [ways0] at hs
    have h : s = 0 ∨ s = 1 ∨ s = 2 ∨ s = 3 := by omega
    have c : ¬ ((0 : Nat) = 2 ∧ (x + y) % 2 = 1) := fun z => absurd z.1 (by decide)
    rcases h with rfl | rfl | rfl | rfl
    · exact (stepTo_neg (m := (1, 0)) rfl c).trans (pr rfl (by show y + 0 = y; omega))
    · exact (stepTo_neg (m := (0, 1)) rfl c).trans (pr (by show x + 0 = x; omega) rfl)
    · exact (stepTo_neg (m := (-1, 0)) rfl c).trans (pr rfl (by show y + 0 = y; omega))
    · exact (stepTo_neg (m := (0, -1)) rfl c).trans (pr (by show x + 0 = x; omega) rfl)
  · rw [ways1] at hs
    have h : s = 0 ∨ s = 1 ∨ s = 2 ∨ s = 3 ∨ s = 4 ∨ s = 5 := by omega
    have c : ¬ ((1 : Nat) = 2 ∧ (x + y) % 2 = 1) := fun z => absurd z.1 (by decide)
    rcases h with rfl | rfl | rfl | rfl | rfl | rfl
    · exact (stepTo_neg (m := (1, 0)) rfl c).trans (pr rfl (by show y + 0 = y; omega))
    · exact (stepTo_neg (m := (0, 1)) rfl c).trans (pr (by show x + 0 = x; omega) rfl)
    · exact (stepTo_neg (m := (-1, 1)) rfl c).trans (pr rfl rfl)
    · exact (stepTo_neg (m := (-1, 0)) rfl c).trans (pr rfl (by show y + 0 = y; omega))
    · exact (stepTo_neg (m := (0, -1)) rfl c).trans (pr (by show x + 0 = x; omega) rfl)
    · exact (stepTo_neg (m := (1, -1)) rfl c).trans (pr rfl rfl)
  · rw [ways2] at hs
    have h : s = 0 ∨ s = 1 ∨ s = 2 := by omega
    by_cases c : (x + y) % 2 = 1
    · have c0 : ¬ (x + y) % 2 = 0 := by omega
      rcases h with rfl | rfl | rfl
      · exact (stepTo_pos (m := (1, 0)) rfl ⟨rfl, c⟩).trans (pr rfl (by show y - 0 = y; omega))
      · exact (stepTo_pos (m := (-1, 0)) rfl ⟨rfl, c⟩).trans (pr rfl (by show y - 0 = y; omega))
      · rw [go22, if_neg c0]
        exact (stepTo_pos (m := (0, 1)) rfl ⟨rfl, c⟩).trans (pr (by show x + 0 = x; omega) rfl)
    · have c0 : (x + y) % 2 = 0 := by omega
      have c1 : ¬ ((2 : Nat) = 2 ∧ (x + y) % 2 = 1) := fun z => c z.2
      rcases h with rfl | rfl | rfl
      · exact (stepTo_neg (m := (1, 0)) rfl c1).trans (pr rfl (by show y + 0 = y; omega))
      · exact (stepTo_neg (m := (-1, 0)) rfl c1).trans (pr rfl (by show y + 0 = y; omega))
      · rw [go22, if_pos c0]
        exact (stepTo_neg (m := (0, 1)) rfl c1).trans (pr (by show x + 0 = x; omega) rfl)
theorem movT_len {k : Nat} (hk : k < 3) : (movT.getD k []).length = Sh19.ways k := by
  have h : k = 0 ∨ k = 1 ∨ k = 2 := by omega
  rcases h with rfl | rfl | rfl <;> rfl
/-- all are steps of the kind -/
def okS (k : Nat) (ns : List Int) : Bool := ns.all fun s => decide (0 ≤ s) && decide (s < (Sh19.ways k : Nat))
def nat (ns : List Int) : List Nat := ns.map Int.toNat
theorem nat_eq (ns : List Int) : Sh19Neutral.nats ns = nat ns := rfl
theorem okS_spec (k : Nat) : ∀ ns : List Int, (∀ x ∈ ns, 0 ≤ x) → okS k ns = Sh19.stepsOk k (nat ns)
  | [], _ => rfl
  | x :: r, h => by
    have ih := okS_spec k r fun y hy => h y (List.mem_cons_of_mem _ hy)
    have h0 := h x List.mem_cons_self
    have e : (decide (0 ≤ x) && decide (x < (Sh19.ways k : Nat))) = decide (x.toNat < Sh19.ways k) := by
      rw [decide_eq_true h0, Bool.true_and]
      exact decide_eq_decide.mpr (by omega)
    unfold okS Sh19.stepsOk nat at ih ⊢
    rw [List.all_cons, ih, e, List.map_cons, List.all_cons]
theorem okS_at {k : Nat} {ns : List Int} (h : okS k ns = true) {i : Nat} {z : Int} (hz : ns[i]? = some z) : 0 ≤ z ∧ z < (Sh19.ways k : Nat) := by
  have q := List.all_eq_true.mp h z (List.mem_of_getElem? hz)
  rw [Bool.and_eq_true] at q
  exact ⟨of_decide_eq_true q.1, of_decide_eq_true q.2⟩
/-- one item more -/
theorem take_snoc {α : Type} {l : List α} {i : Nat} {x : α} (h : l[i]? = some x) : l.take (i + 1) = l.take i ++ [x] := by
  rw [List.take_add_one, h]
  rfl
theorem nat_snoc {ns : List Int} {i : Nat} {z : Int} (h : ns[i]? = some z) : nat (ns.take (i + 1)) = nat (ns.take i) ++ [z.toNat] := by
  unfold nat
  rw [take_snoc h, List.map_append]
  rfl
theorem places_snoc (k s : Nat) : ∀ (w : List Nat) (p : Sh19.Place), Sh19.places k p (w ++ [s]) = Sh19.places k p w ++ [Sh19.go k (w.foldl (Sh19.go k) p) s]
  | [], _ => rfl
  | t :: r, p => by
    show p :: Sh19.places k (Sh19.go k p t) (r ++ [s]) = p :: Sh19.places k (Sh19.go k p t) r ++ [Sh19.go k (r.foldl (Sh19.go k) (Sh19.go k p t)) s]
    rw [places_snoc k s r]
    rfl
theorem walk_snoc (k s : Nat) (w : List Nat) : Sh19.walk k (w ++ [s]) = Sh19.walk k w ++ [Sh19.go k (Sh19.ending k w) s] := places_snoc k s w (0, 0)
theorem ending_snoc (k s : Nat) (w : List Nat) : Sh19.ending k (w ++ [s]) = Sh19.go k (Sh19.ending k w) s := by
  unfold Sh19.ending
  rw [List.foldl_append]
  rfl
theorem places_last (k : Nat) : ∀ (w : List Nat) (p : Sh19.Place), ∃ l, Sh19.places k p w = l ++ [w.foldl (Sh19.go k) p]
  | [], _ => ⟨[], rfl⟩
  | t :: r, p => by
    obtain ⟨l, e⟩ := places_last k r (Sh19.go k p t)
    exact ⟨p :: l, by show p :: Sh19.places k (Sh19.go k p t) r = _; rw [e]; rfl⟩
theorem walk_last (k : Nat) (w : List Nat) : ∃ l, Sh19.walk k w = l ++ [Sh19.ending k w] := places_last k w (0, 0)
theorem places_len (k : Nat) : ∀ (w : List Nat) (p : Sh19.Place), (Sh19.places k p w).length = w.length + 1
  | [], _ => rfl
  | t :: r, p => by
    show (Sh19.places k (Sh19.go k p t) r).length + 1 = r.length + 1 + 1
    rw [places_len k r]
theorem walk_len (k : Nat) (w : List Nat) : (Sh19.walk k w).length = w.length + 1 := places_len k w (0, 0)
/-- in_range; refusal -/
def inR (k : Int) (n : Nat) : Bool := decide (0 ≤ k) && decide (k < 3) && decide (n ≤ 4096)
def refu (k : Int) (ns : List Int) : Int := if inR k ns.length = true then (if okS k.toNat ns = true then 0 else -3) else -2
theorem inR_walkOk (k : Int) (n : Nat) : inR k n = Sh19.walkOk k n := by
  unfold inR Sh19.walkOk Sh19.within
  have e : decide (k < 3) = decide (k ≤ 2) := decide_eq_decide.mpr (by omega)
  rw [e]
theorem refu_zero {k : Int} {ns : List Int} (h : refu k ns = 0) : inR k ns.length = true ∧ okS k.toNat ns = true := by
  unfold refu at h
  by_cases c : inR k ns.length = true
  · rw [if_pos c] at h
    by_cases d : okS k.toNat ns = true
    · exact ⟨c, d⟩
    · rw [if_neg d] at h
      exact absurd h (by decide)
  · rw [if_neg c] at h
    exact absurd h (by decide)
theorem inR_bd {k : Int} {n : Nat} (h : inR k n = true) : 0 ≤ k ∧ k < 3 ∧ n ≤ 4096 := by
  unfold inR at h
  rw [Bool.and_eq_true, Bool.and_eq_true] at h
  exact ⟨of_decide_eq_true h.1.1, of_decide_eq_true h.1.2, of_decide_eq_true h.2⟩
/-- what is due, by the refusal -/
theorem end_refused {k : Int} {ns : List Int} (hp : ∀ x ∈ ns, 0 ≤ x) (h : refu k ns ≠ 0) : PySh19.end_ k ns = [refu k ns] := by
  have e1 := inR_walkOk k ns.length
  have e2 := okS_spec k.toNat ns hp
  have hl : (nat ns).length = ns.length := List.length_map _
  show (match (some (if Sh19.walkOk k (nat ns).length = false then Sh19.ok (-2) else if Sh19.stepsOk k.toNat (nat ns) = false then Sh19.ok (-3) else ⟨0, [(Sh19.ending k.toNat (nat ns)).1, (Sh19.ending k.toNat (nat ns)).2]⟩) : Option Sh19.Ans) with | none => [] | some a => a.v :: a.l) = _
  unfold refu at h ⊢
  rw [hl, ← e1, ← e2]
  by_cases c : inR k ns.length = true
  · rw [if_pos c] at h ⊢
    by_cases d : okS k.toNat ns = true
    · rw [if_pos d] at h
      exact absurd rfl h
    · rw [if_neg d, if_neg (by rw [c]; decide), if_pos (by simpa using d)]
      rfl
  · rw [if_neg c, if_pos (by simpa using c)]
    rfl
theorem end_ok {k : Int} {ns : List Int} (hp : ∀ x ∈ ns, 0 ≤ x) (h : refu k ns = 0) : PySh19.end_ k ns = [0, (Sh19.ending k.toNat (nat ns)).1, (Sh19.ending k.toNat (nat ns)).2] := by
  obtain ⟨c, d⟩ := refu_zero h
  rw [inR_walkOk] at c
  rw [okS_spec k.toNat ns hp] at d
  have hl : (nat ns).length = ns.length := List.length_map _
  show (match (some (if Sh19.walkOk k (nat ns).length = false then Sh19.ok (-2) else if Sh19.stepsOk k.toNat (nat ns) = false then Sh19.ok (-3) else ⟨0, [(Sh19.ending k.toNat (nat ns)).1, (Sh19.ending k.toNat (nat ns)).2]⟩) : Option Sh19.Ans) with | none => [] | some a => a.v :: a.l) = _
  rw [hl, c, d]
  rfl
theorem is_refused {k : Int} {ns : List Int} (hp : ∀ x ∈ ns, 0 ≤ x) (h : refu k ns ≠ 0) : PySh19.is_true k ns = [refu k ns] := by
  have e1 := inR_walkOk k ns.length
  have e2 := okS_spec k.toNat ns hp
  have hl : (nat ns).length = ns.length := List.length_map _
  show (match (some (if Sh19.walkOk k (nat ns).length = false then Sh19.ok (-2) else if Sh19.stepsOk k.toNat (nat ns) = false then Sh19.ok (-3) else Sh19.ok (if Sh19.isTrue k.toNat (nat ns) = true then 1 else 0)) : Option Sh19.Ans) with | none => [] | some a => a.v :: a.l) = _
  unfold refu at h ⊢
  rw [hl, ← e1, ← e2]
  by_cases c : inR k ns.length = true
  · rw [if_pos c] at h ⊢
    by_cases d : okS k.toNat ns = true
    · rw [if_pos d] at h
      exact absurd rfl h
    · rw [if_neg d, if_neg (by rw [c]; decide), if_pos (by simpa using d)]
      rfl
  · rw [if_neg c, if_pos (by simpa using c)]
    rfl
theorem is_ok {k : Int} {ns : List Int} (hp : ∀ x ∈ ns, 0 ≤ x) (h : refu k ns = 0) : PySh19.is_true k ns = [if Sh19.isTrue k.toNat (nat ns) = true then 1 else 0] := by
  obtain ⟨c, d⟩ := refu_zero h
  rw [inR_walkOk] at c
  rw [okS_spec k.toNat ns hp] at d
  have hl : (nat ns).length = ns.length := List.length_map _
  show (match (some (if Sh19.walkOk k (nat ns).length = false then Sh19.ok (-2) else if Sh19.stepsOk k.toNat (nat ns) = false then Sh19.ok (-3) else Sh19.ok (if Sh19.isTrue k.toNat (nat ns) = true then 1 else 0)) : Option Sh19.Ans) with | none => [] | some a => a.v :: a.l) = _
  rw [hl, c, d]
  rfl
/-- distinct, as the lists' own word -/
theorem distinct_nodup : ∀ l : List Sh19.Place, Sh19.distinct l = true ↔ l.Nodup
  | [] => by simp [Sh19.distinct]
  | p :: r => by
    rw [List.nodup_cons, ← distinct_nodup r]
    simp [Sh19.distinct]
end NB
namespace NB
open PySem PySem.Spec PyProof.Rows L2
open PySem.W (Codec)
/-! ### the text -/
def top (i : Nat) : Stmt := PySem.Challenge.pw_neverback_s02_end.main.body.getD i (.Pass ⟨0, 0, 0, 0⟩)
/-! ### what the top has written -/
/-- a tuple of the written part -/
def TupK (K : PySem.W.Frag) (a : Addr) (xs : List V) : Prop := SqT K (fun _ => none) a xs
theorem TupK.sq {K : PySem.W.Frag} {a : Addr} {xs : List V} (h : TupK K a xs) (H : Hp) : SqT K H a xs := by
  rcases h with z | z
  · rcases z with z | ⟨o, z⟩ <;> cases z
  · exact .inr z
structure Txt (K : PySem.W.Frag) (mg : Str → Option Value) (M : Addr) : Prop where
  len : mg "len" = none
  gH : ∃ t, mg "HONEYCOMB" = some (.int 2 t)
  gM : mg "MOVES" = some (.ref M)
  mov : ∃ rows : List Addr, TupK K M (rows.map V.ref) ∧ rows.length = 3 ∧ ∀ k, k < 3 → ∃ (r : Addr) (cs : List Addr), rows[k]? = some r ∧ TupK K r (cs.map V.ref) ∧ cs.length = Sh19.ways k ∧
    ∀ s, s < Sh19.ways k → ∃ c, cs[s]? = some c ∧ TupK K c [.int (movAt k s).1, .int (movAt k s).2]
theorem pe_gi {X : Cx} {x : Str} {i : Int} {pos : Pos} (hg : Gl X x) (h : ∃ t, X.mg x = some (.int i t)) (hd : (x == ("__debug__" : Str)) = false := by decide) : PE X (.Name x pos) (tC (.int i)) := by
  obtain ⟨t, e⟩ := h
  exact pe_glob hg e ⟨t, rfl⟩ hd
/-- a def that can be called by its name -/
structure Cal (P : Program) (w : World) (K : PySem.W.Frag) (mg : Str → Option Value) (base : Heap) (k : Nat) (x : Str) (ps : List Str) (sp : Sp) : Prop where
  ex : ∃ (f : Addr) (fd : FuncData), FnOk P w K mg base CX0 k f fd ps sp ∧ PySem.W.keepIn K (.ref f) = true ∧ Binds K fd ps [] ∧ mg x = some (.ref f)
theorem pe_cal {X : Cx} {x : Str} {ps : List Str} {sp : Sp} {k : Nat} {e : Expr} {es : List Expr} {p pos : Pos} {t : TA} (C : Cal X.prog X.w X.K X.mg X.base k x ps sp) (hr : Room k X.A) (ha : PA X (e :: es) t) (hg : Gl X x := by rfl) (hdb : (x == ("__debug__" : Str)) = false := by decide)
    (he : starEach (e :: es) X.env = (false, eval e X.env) :: starEach es X.env := by rfl) (hpl : (backTo pos (starEach es X.env)).any (·.1) = false := by rfl) : PE X (.Call (.Name x p) (e :: es) [] pos) (tCall sp [] E0 t) := by
  obtain ⟨f, fd, F, kp, b, j⟩ := C.ex
  exact pe_call F hr hg j kp b .nil pass0 ha hdb he hpl
theorem if_t {c : Bool} {A B : Prop} (hc : c = true) (h : A) : if c = true then A else B := by
  rw [if_pos hc]
  exact h
theorem if_f {c : Bool} {A B : Prop} (hc : c = false) (h : B) : if c = true then A else B := by
  rw [hc, if_neg Bool.false_ne_true]
  exact h
theorem at_of {α : Type} {xs : List α} {k : Int} {v : α} (h0 : 0 ≤ k) (h : xs[k.toNat]? = some v) : atI xs k = some v := by
  have q := atI_nat h
  rw [Int.toNat_of_nonneg h0] at q
  exact q
theorem get_ref {l : List Addr} {i : Nat} {r : Addr} (h : l[i]? = some r) : (l.map V.ref)[i]? = some (.ref r) := by
  rw [List.getElem?_map, h]
  rfl
theorem get_int {ns : List Int} {i : Nat} {y : V} (h : (ns.map V.int)[i]? = some y) : ∃ z, ns[i]? = some z ∧ y = .int z := by
  rw [List.getElem?_map] at h
  cases e : ns[i]? with
  | none =>
    rw [e] at h
    cases h
  | some z =>
    rw [e] at h
    exact ⟨z, rfl, (Option.some.inj h).symm⟩
theorem same_new {H : Hp} {q : Addr} {o : HO} (hq : H q = none) : Same H (upd H q o) := fun b u e => by
  rw [upd_ne (ne_of_none e hq)]
  exact e
/-- what a def's own new object becomes does not touch what stood before -/
theorem same_at {H H' : Hp} {q : Addr} {o : HO} (s : Same H H') (hq : H q = none) : Same H (upd H' q o) := fun b u e => by
  rw [upd_ne (ne_of_none e hq)]
  exact s b u e
/-- the list at p holds tuples, one a place -/
structure Lies (H : Hp) (p : Addr) (ps : List (Int × Int)) : Prop where
  ex : ∃ cs : List Addr, H p = some (.lst (cs.map V.ref)) ∧ cs.length = ps.length ∧ ∀ (i : Nat) (c : Addr) (q : Int × Int), cs[i]? = some c → ps[i]? = some q → H c = some (.tup [.int q.1, .int q.2])
theorem Lies.same {H H' : Hp} {p : Addr} {ps : List (Int × Int)} (s : Same H H') (h : Lies H p ps) : Lies H' p ps := by
  obtain ⟨cs, h1, h2, h3⟩ := h.ex
  exact ⟨cs, s _ _ h1, h2, fun i c q a b => s _ _ (h3 i c q a b)⟩
theorem Lies.last {H : Hp} {p : Addr} {l : List (Int × Int)} {q : Int × Int} (h : Lies H p (l ++ [q])) : ∃ (cs : List Addr) (c : Addr), H p = some (.lst (cs.map V.ref)) ∧ atI (cs.map V.ref) (-1) = some (.ref c) ∧ H c = some (.tup [.int q.1, .int q.2]) := by
  obtain ⟨cs, hcs, hlen, hall⟩ := h.ex
  rw [List.length_append, List.length_singleton] at hlen
  have hlt : l.length < cs.length := by omega
  have hc : cs[l.length]? = some cs[l.length] := List.getElem?_eq_getElem hlt
  have hC := hall l.length cs[l.length] q hc (by rw [List.getElem?_append_right (Nat.le_refl _), Nat.sub_self]; rfl)
  refine ⟨cs, cs[l.length], hcs, ?_, hC⟩
  have e : cs = cs.take l.length ++ [cs[l.length]] := by
    have q := take_snoc hc
    rw [List.take_of_length_le (by omega)] at q
    exact q
  have e2 : cs.map V.ref = (cs.take l.length).map V.ref ++ [V.ref cs[l.length]] := by
    have q := congrArg (List.map V.ref) e
    rw [List.map_append] at q
    exact q
  rw [e2]
  exact atI_last _ _
/-- one place more -/
theorem lies_snoc {H H' : Hp} {p' c : Addr} {ps : List (Int × Int)} {q : Int × Int} {cs : List Addr} (hl : cs.length = ps.length) (hall : ∀ (i : Nat) (c : Addr) (q : Int × Int), cs[i]? = some c → ps[i]? = some q → H c = some (.tup [.int q.1, .int q.2]))
    (hp : H' p' = some (.lst (cs.map V.ref ++ [.ref c]))) (hc : H' c = some (.tup [.int q.1, .int q.2])) (st : ∀ d x y, H d = some (.tup [.int x, .int y]) → H' d = some (.tup [.int x, .int y])) : Lies H' p' (ps ++ [q]) := by
  refine ⟨cs ++ [c], ?_, ?_, ?_⟩
  · rw [hp, List.map_append]
    rfl
  · rw [List.length_append, List.length_append, hl]
    rfl
  · intro j c' q' h1 h2
    by_cases hj : j < cs.length
    · rw [List.getElem?_append_left hj] at h1
      rw [List.getElem?_append_left (by rw [← hl]; exact hj)] at h2
      exact st _ _ _ (hall j c' q' h1 h2)
    · have hj2 : j = cs.length := by
        have := (List.getElem?_eq_some_iff.mp h1).1
        rw [List.length_append, List.length_singleton] at this
        omega
      subst hj2
      rw [List.getElem?_append_right (Nat.le_refl _), Nat.sub_self] at h1
      rw [List.getElem?_append_right (by rw [hl]; exact Nat.le_refl _), hl, Nat.sub_self] at h2
      have x1 : c = c' := Option.some.inj h1
      have x2 : q = q' := Option.some.inj h2
      subst x1
      subst x2
      exact hc
theorem at0 (a b : V) : atI [a, b] 0 = some a := at_of (Int.le_refl _) rfl
theorem at1 (a b : V) : atI [a, b] 1 = some b := at_of (by decide) rfl
theorem hu65 {A : Around} {k : Nat} (hr : Room k A) : A.units + 65 < cLine := by
  have := hr.un
  omega
/-! ### a place as data -/
def pD (z : Int × Int) : PyData := .tuple [.int z.1, .int z.2]
theorem pD_lay (z : Int × Int) : (pD z).canLay0 = true := by simp [pD, PyData.canLay0, PyData.canLayAll0]
theorem pD_depth (z : Int × Int) : (pD z).depth = 1 := by simp [pD, PyData.depth, PyData.depthAll]
theorem pDs_lay : ∀ zs : List (Int × Int), PyData.canLayAll0 (zs.map pD) = true
  | [] => by simp [PyData.canLayAll0]
  | z :: zs => by simp [PyData.canLayAll0, pD_lay z, pDs_lay zs]
theorem pDs_depth : ∀ zs : List (Int × Int), PyData.depthAll (zs.map pD) ≤ 1
  | [] => by simp [PyData.depthAll]
  | z :: zs => by
    have h1 := pDs_depth zs
    have h2 := pD_depth z
    simp only [List.map_cons, PyData.depthAll]
    omega
theorem pD_shaped (z : Int × Int) : SeqAt.shaped (pD z) = true := by
  have h := pD_depth z
  show ((pD z).canLay0 && decide ((pD z).depth ≤ 64)) = true
  rw [Bool.and_eq_true]
  exact ⟨pD_lay z, decide_eq_true (by omega)⟩
theorem pDs_shaped (zs : List (Int × Int)) : SeqAt.shaped (.list (zs.map pD)) = true := by
  have h1 := pDs_depth zs
  have h2 : PyData.depth (.list (zs.map pD)) ≤ 64 := by
    simp only [PyData.depth]
    omega
  show (PyData.canLay0 (.list (zs.map pD)) && decide (PyData.depth (.list (zs.map pD)) ≤ 64)) = true
  rw [Bool.and_eq_true]
  exact ⟨by simp only [PyData.canLay0]; exact pDs_lay zs, decide_eq_true h2⟩
theorem pD_eqv (z w : Int × Int) : PyData.eqv (pD z) (pD w) = decide (z = w) := by
  obtain ⟨a, b⟩ := z
  obtain ⟨a', b'⟩ := w
  have e : PyData.eqv (pD (a, b)) (pD (a', b')) = ((a == a') && ((b == b') && true)) := by simp only [pD, PyData.eqv, PyData.eqvAll]
  rw [e]
  by_cases h1 : a = a'
  · by_cases h2 : b = b'
    · subst h1 h2
      simp
    · rw [decide_eq_false (fun z => h2 (Prod.mk.inj z).2), beq_eq_false_iff_ne.mpr h2, Bool.false_and, Bool.and_false]
  · rw [decide_eq_false (fun z => h1 (Prod.mk.inj z).1), beq_eq_false_iff_ne.mpr h1, Bool.false_and]
theorem any_eqv (q : Int × Int) : ∀ ps : List (Int × Int), ((ps.map pD).any fun z => PyData.eqv z (pD q)) = ps.contains q
  | [] => rfl
  | p :: r => by
    rw [List.map_cons, List.any_cons, any_eqv q r, pD_eqv, List.contains_cons]
    congr 1
    by_cases h : p = q
    · rw [decide_eq_true h, h, beq_self_eq_true]
    · rw [decide_eq_false h, beq_eq_false_iff_ne.mpr (fun z => h z.symm)]
theorem dp_all {K : PySem.W.Frag} {H : Hp} : ∀ (cs : List Addr) (ps : List (Int × Int)), cs.length = ps.length → (∀ (i : Nat) (c : Addr) (q : Int × Int), cs[i]? = some c → ps[i]? = some q → H c = some (.tup [.int q.1, .int q.2])) → DpAll K H (cs.map V.ref) (ps.map pD)
  | [], [], _, _ => .nil
  | [], _ :: _, h, _ => absurd h (by simp)
  | _ :: _, [], h, _ => absurd h (by simp)
  | c :: cs, q :: ps, h, a => .cons (.tup (SqT.of (a 0 c q rfl rfl)) (.cons (.int _) (.cons (.int _) .nil))) (dp_all cs ps (by simpa using h) fun i c' q' h1 h2 => a (i + 1) c' q' h1 h2)
theorem Lies.dp {K : PySem.W.Frag} {H : Hp} {p : Addr} {ps : List (Int × Int)} (h : Lies H p ps) : Dp K H (.ref p) (.list (ps.map pD)) := by
  obtain ⟨cs, h1, h2, h3⟩ := h.ex
  exact .lst (SqL.of h1) (dp_all cs ps h2 h3)
end NB
namespace NB
open PySem PySem.Spec PyProof.Rows L2
open PySem.W (Codec)
abbrev sKind : Stmt := top 6
theorem scKind : FnScope ["kind"] ["kind"] (defScope sKind) := ⟨rfl, rfl, rfl, by decide +kernel, rfl, by decide +kernel, by decide +kernel⟩
def inK (k : Int) : Bool := decide (0 ≤ k) && decide (k < 3)
def spKind (K : PySem.W.Frag) : Sp := fun vs H Q _ => ∃ (k : Int), vs = [.int k] ∧ Q (.bl (inK k)) H
section
variable {P : Program} {w : World} {K : PySem.W.Frag} {mg : Str → Option Value} {base : Heap} {M : Addr}
theorem ok_kind {f : Addr} {fd : FuncData} (F : Fun K "is_kind" "is_kind" sKind f fd) (T : Txt K mg M) : FnOk P w K mg base CX0 1 f fd ["kind"] (spKind K) := by
  refine F.ok scKind (fun vs H Q E h => ?_) (fun cdv A outer s H vs Q E hr h => ?_)
  · obtain ⟨k, rfl, _⟩ := h
    rfl
  · refine ⟨_, pss_one (ps_ret (pe_chain op_le op_lt pe_int (pv 0) (pe_callB call_len_seq (by rfl) T.len PySem.boot_len (pa_cons (pe_glob (v := V.ref M) rfl T.gM rfl) pa_nil)))), ?_⟩
    obtain ⟨k, rfl, hQ⟩ := h
    have fin : ∀ b, b = inK k → Q (.bl b) H := fun b e => by
      rw [e]
      exact hQ
    obtain ⟨rows, hM, hl, _⟩ := T.mov
    have hl3 : (((rows.map V.ref).length : Nat) : Int) = 3 := by
      rw [List.length_map, hl]
      rfl
    refine ⟨_, rfl, _, _, rfl, rfl, _, rfl, ?_⟩
    by_cases c0 : (0 : Int) ≤ k
    · refine if_t (decide_eq_true c0) ?_
      refine ⟨M, _, rfl, .inr (hM.sq H), _, _, rfl, rfl, ?_⟩
      refine fin _ ?_
      unfold inK
      rw [hl3, decide_eq_true c0, Bool.true_and]
    · refine if_f (decide_eq_false c0) ?_
      refine fin _ ?_
      unfold inK
      rw [decide_eq_false c0, Bool.false_and]
end
end NB
namespace NB
open PySem PySem.Spec PyProof.Rows L2
open PySem.W (Codec)
abbrev sAre : Stmt := top 7
theorem scAre : FnScope ["kind", "steps", "step"] ["kind", "steps"] (defScope sAre) := ⟨rfl, rfl, rfl, by decide +kernel, rfl, by decide +kernel, by decide +kernel⟩
def spAre (K : PySem.W.Frag) : Sp := fun vs H Q _ => ∃ (a : Addr) (k : Int) (ns : List Int), vs = [.int k, .ref a] ∧ SqL K H a (ns.map V.int) ∧ (0 ≤ k ∧ k < 3) ∧ Q (.bl (okS k.toNat ns)) H
section
variable {P : Program} {w : World} {K : PySem.W.Frag} {mg : Str → Option Value} {base : Heap} {M : Addr}
theorem ok_are {f : Addr} {fd : FuncData} (F : Fun K "are_steps" "are_steps" sAre f fd) (T : Txt K mg M) : FnOk P w K mg base CX0 1 f fd ["kind", "steps"] (spAre K) := by
  refine F.ok scAre (fun vs H Q E h => ?_) (fun cdv A outer s H vs Q E hr h => ?_)
  · obtain ⟨a, k, ns, rfl, _⟩ := h
    rfl
  · refine ⟨_, pss_cons (ps_for PassesOwn.never rfl (pi_list (pv 1)) (pg_name (i := 2) scAre.nd rfl (Or.inl rfl))
        (pss_one (ps_if (pt_not (pt_chain op_le op_lt pe_int (pv 2) (pe_callB call_len_seq (by rfl) T.len PySem.boot_len (pa_cons (pe_ix ix_tup (pe_glob (v := V.ref M) rfl T.gM rfl) (pv 0) (fun _ _ => rfl)) pa_nil))))
          (pss_one (ps_ret pe_bl)) pss_nil)))
      (pss_one (ps_ret pe_bl)), ?_⟩
    obtain ⟨a, k, ns, rfl, hS, ⟨k0, k3⟩, hQ⟩ := h
    obtain ⟨rows, hM, hl, hrow⟩ := T.mov
    obtain ⟨r, cs, hr', hR, hcl, _⟩ := hrow k.toNat (by omega)
    have hat : atI (rows.map V.ref) k = some (.ref r) := at_of k0 (get_ref hr')
    refine ⟨_, rfl, a, rfl, ⟨_, hS⟩, for_list (K := K) (a := a) (xs := ns.map V.int) (fun i σ H' => ∃ v : Option V, σ = [some (.int k), some (.ref a), v] ∧ H' = H ∧ okS k.toNat (ns.take i) = true)
      ⟨none, rfl, rfl, rfl⟩ (fun i σ H' _ ⟨_, _, e, _⟩ => by rw [e]; exact hS) ?_ ?_⟩
    · rintro i y σ H' hi ⟨v, rfl, rfl, ok⟩
      obtain ⟨z, hz, rfl⟩ := get_int hi
      have more : okS k.toNat (ns.take (i + 1)) = (decide (0 ≤ z) && decide (z < (Sh19.ways k.toNat : Nat))) := by
        unfold okS at ok ⊢
        rw [take_snoc hz, List.all_append, ok, Bool.true_and, List.all_cons, List.all_nil, Bool.and_true]
      have bad : (decide (0 ≤ z) && decide (z < (Sh19.ways k.toNat : Nat))) = false → okS k.toNat ns = false := fun e => by
        cases q : okS k.toNat ns with
        | false => rfl
        | true =>
          obtain ⟨q1, q2⟩ := okS_at q hz
          rw [decide_eq_true q1, decide_eq_true q2] at e
          cases e
      refine ⟨_, rfl, _, _, rfl, rfl, _, rfl, ?_⟩
      by_cases c0 : (0 : Int) ≤ z
      · refine if_t (decide_eq_true c0) ?_
        refine ⟨_, rfl, M, _, k, _, rfl, rfl, hM.sq _, hat, r, _, rfl, .inr (hR.sq _), _, _, rfl, rfl, _, rfl, ?_⟩
        have hl2 : (((cs.map V.ref).length : Nat) : Int) = (Sh19.ways k.toNat : Nat) := by
          rw [List.length_map, hcl]
        by_cases c1 : z < (((cs.map V.ref).length : Nat) : Int)
        · refine if_f (by rw [decide_eq_true c1]; rfl) ?_
          rw [hl2] at c1
          exact ⟨_, rfl, rfl, by rw [more, decide_eq_true c0, decide_eq_true c1]; rfl⟩
        · refine if_t (by rw [decide_eq_false c1]; rfl) ?_
          rw [hl2] at c1
          have e := bad (by rw [decide_eq_false c1, Bool.and_false])
          rw [e] at hQ
          exact hQ
      · refine if_f (decide_eq_false c0) ?_
        refine ⟨_, rfl, iteT ?_⟩
        have e := bad (by rw [decide_eq_false c0, Bool.false_and])
        rw [e] at hQ
        exact hQ
    · rintro σ H' ⟨v, rfl, rfl, ok⟩
      rw [List.length_map, List.take_length] at ok
      rw [ok] at hQ
      exact hQ
end
end NB
namespace NB
open PySem PySem.Spec PyProof.Rows L2
open PySem.W (Codec)
abbrev sRef : Stmt := top 8
theorem scRef : FnScope ["kind", "steps"] ["kind", "steps"] (defScope sRef) := ⟨rfl, rfl, rfl, by decide +kernel, rfl, by decide +kernel, by decide +kernel⟩
def spRef (K : PySem.W.Frag) : Sp := fun vs H Q _ => ∃ (a : Addr) (k : Int) (ns : List Int), vs = [.int k, .ref a] ∧ SqL K H a (ns.map V.int) ∧ Q (.int (refu k ns)) H
section
variable {P : Program} {w : World} {K : PySem.W.Frag} {mg : Str → Option Value} {base : Heap} {M : Addr}
theorem ok_ref {f : Addr} {fd : FuncData} (F : Fun K "refusal" "refusal" sRef f fd) (T : Txt K mg M) (gR : ∃ t, mg "OUT_OF_RANGE" = some (.int (-2) t)) (gS : ∃ t, mg "WRONG_STEPS" = some (.int (-3) t)) (gX : ∃ t, mg "MOST_STEPS" = some (.int 4096 t))
    (CI : Cal P w K mg base 1 "is_kind" ["kind"] (spKind K)) (CA : Cal P w K mg base 1 "are_steps" ["kind", "steps"] (spAre K)) : FnOk P w K mg base CX0 2 f fd ["kind", "steps"] (spRef K) := by
  refine F.ok scRef (fun vs H Q E h => ?_) (fun cdv A outer s H vs Q E hr h => ?_)
  · obtain ⟨a, k, ns, rfl, _⟩ := h
    rfl
  · refine ⟨_, pss_cons (ps_if (PW.pt (pw_or (pt_not (pt_val (pe_cal CI hr (pa_cons (pv 0) pa_nil)))) (pw_or1 (pt_cmpR op_gt (pe_callB call_len_seq (by rfl) T.len PySem.boot_len (pa_cons (pv 1) pa_nil)) (pe_gi rfl gX) (nomark _))))) (pss_one (ps_ret (pe_gi rfl gR))) pss_nil)
      (pss_cons (ps_if (pt_not (pt_val (pe_cal CA hr (pa_cons (pv 0) (pa_cons (pv 1) pa_nil))))) (pss_one (ps_ret (pe_gi rfl gS))) pss_nil)
      (pss_one (ps_ret pe_int))), ?_⟩
    obtain ⟨a, k, ns, rfl, hS, hQ⟩ := h
    unfold refu at hQ
    have two : inR k ns.length = false → Q (.int (-2)) H := fun c => by
      rw [c, if_neg Bool.false_ne_true] at hQ
      exact hQ
    refine ⟨_, rfl, k, rfl, _, rfl, ?_⟩
    cases ci : inK k with
    | false =>
      refine iteT ?_
      refine two ?_
      show (inK k && decide (ns.length ≤ 4096)) = false
      rw [ci, Bool.false_and]
    | true =>
      refine iteF ?_
      refine ⟨_, rfl, a, _, rfl, .inl hS, _, _, rfl, rfl, _, rfl, ?_⟩
      have e4 : (((ns.map V.int).length : Nat) : Int) = (ns.length : Nat) := by rw [List.length_map]
      by_cases c4 : (((ns.map V.int).length : Nat) : Int) > 4096
      · refine if_t (decide_eq_true c4) ?_
        refine two ?_
        rw [e4] at c4
        show (inK k && decide (ns.length ≤ 4096)) = false
        rw [decide_eq_false (show ¬ ns.length ≤ 4096 by omega), Bool.and_false]
      · refine if_f (decide_eq_false c4) ?_
        rw [e4] at c4
        have c : inR k ns.length = true := by
          show (inK k && decide (ns.length ≤ 4096)) = true
          rw [ci, decide_eq_true (show ns.length ≤ 4096 by omega)]
          rfl
        rw [c, if_pos rfl] at hQ
        obtain ⟨k0, k3, _⟩ := inR_bd c
        refine ⟨_, rfl, _, rfl, a, k, ns, rfl, hS, ⟨k0, k3⟩, _, rfl, ?_⟩
        cases d : okS k.toNat ns with
        | false =>
          rw [d, if_neg Bool.false_ne_true] at hQ
          exact hQ
        | true =>
          rw [d, if_pos rfl] at hQ
          exact hQ
end
end NB
namespace NB
open PySem PySem.Spec PyProof.Rows L2
open PySem.W (Codec)
abbrev sAft : Stmt := top 9
theorem scAft : FnScope ["kind", "place", "step", "x", "y", "move"] ["kind", "place", "step"] (defScope sAft) := ⟨rfl, rfl, rfl, by decide +kernel, rfl, by decide +kernel, by decide +kernel⟩
def spAft (K : PySem.W.Frag) : Sp := fun vs H Q _ => ∃ (p : Addr) (k s x y : Int), vs = [.int k, .ref p, .int s] ∧ SqT K H p [.int x, .int y] ∧ (0 ≤ k ∧ k < 3) ∧ (0 ≤ s ∧ s < (Sh19.ways k.toNat : Nat)) ∧
  ∀ q, H q = none → Q (.ref q) (upd H q (.tup [.int (Sh19.go k.toNat (x, y) s.toNat).1, .int (Sh19.go k.toNat (x, y) s.toNat).2]))
section
variable {P : Program} {w : World} {K : PySem.W.Frag} {mg : Str → Option Value} {base : Heap} {M : Addr}
theorem ok_aft {f : Addr} {fd : FuncData} (F : Fun K "place_after" "place_after" sAft f fd) (T : Txt K mg M) : FnOk P w K mg base CX0 1 f fd ["kind", "place", "step"] (spAft K) := by
  refine F.ok scAft (fun vs H Q E h => ?_) (fun cdv A outer s H vs Q E hr h => ?_)
  · obtain ⟨p, k, t, x, y, rfl, _⟩ := h
    rfl
  · refine ⟨_, pss_cons (ps_set (i := 3) scAft.nd rfl (Or.inl rfl) (pe_ix ix_tup (pv 1) pe_int (fun _ _ => rfl)))
      (pss_cons (ps_set (i := 4) scAft.nd rfl (Or.inl rfl) (pe_ix ix_tup (pv 1) pe_int (fun _ _ => rfl)))
      (pss_cons (ps_set (i := 5) scAft.nd rfl (Or.inl rfl) (pe_ix ix_tup (pe_ix ix_tup (pe_glob (v := V.ref M) rfl T.gM rfl) (pv 0) (fun _ _ => rfl)) (pv 2) (fun _ _ => rfl)))
      (pss_cons (ps_if (PW.pt (pw_and (pt_cmpR op_eq (pv 0) (pe_gi rfl T.gH) (nomark _)) (pw_and1 (pt_cmpR op_eq (pe_op op_mod (pe_op op_add (pv 3) (pv 4)) pe_int) pe_int (nomark _)))))
          (pss_one (ps_ret (pe_tup (pa_cons (pe_op op_add (pv 3) (pe_ix ix_tup (pv 5) pe_int (fun _ _ => rfl))) (pa_cons (pe_op op_sub (pv 4) (pe_ix ix_tup (pv 5) pe_int (fun _ _ => rfl))) pa_nil))))) pss_nil)
      (pss_one (ps_ret (pe_tup (pa_cons (pe_op op_add (pv 3) (pe_ix ix_tup (pv 5) pe_int (fun _ _ => rfl))) (pa_cons (pe_op op_add (pv 4) (pe_ix ix_tup (pv 5) pe_int (fun _ _ => rfl))) pa_nil)))))))), ?_⟩
    obtain ⟨p, k, t, x, y, rfl, hP, ⟨k0, k3⟩, ⟨t0, t3⟩, hQ⟩ := h
    obtain ⟨rows, hM, hl, hrow⟩ := T.mov
    obtain ⟨r, cs, hr', hR, hcl, hcs⟩ := hrow k.toNat (by omega)
    obtain ⟨c, hc, hC⟩ := hcs t.toNat (by omega)
    have hatr : atI (rows.map V.ref) k = some (.ref r) := at_of k0 (get_ref hr')
    have hatc : atI (cs.map V.ref) t = some (.ref c) := at_of t0 (get_ref hc)
    have e := stepTo_go (k := k.toNat) (s := t.toNat) (by omega) (by omega) (x, y)
    rw [← e] at hQ
    refine ⟨_, rfl, p, _, 0, _, rfl, rfl, hP, at0 _ _, ?_⟩
    refine ⟨_, rfl, p, _, 1, _, rfl, rfl, hP, at1 _ _, ?_⟩
    refine ⟨_, rfl, M, _, k, _, rfl, rfl, hM.sq _, hatr, _, rfl, r, _, t, _, rfl, rfl, hR.sq _, hatc, ?_⟩
    refine ⟨_, rfl, rfl, _, rfl, ?_⟩
    by_cases c2 : k = 2
    · refine if_t (decide_eq_true (by rw [c2])) ?_
      refine ⟨_, rfl, _, rfl, _, _, rfl, rfl, _, _, rfl, rfl, (by show (0 : Int) < 2; decide), rfl, _, rfl, ?_⟩
      by_cases c3 : (x + y) % 2 = 1
      · refine if_t (decide_eq_true (congrArg V.int c3)) ?_
        refine ⟨_, rfl, _, rfl, c, _, 0, _, rfl, rfl, hC.sq _, at0 _ _, _, _, rfl, rfl, _, rfl, _, rfl, c, _, 1, _, rfl, rfl, hC.sq _, at1 _ _, _, _, rfl, rfl, (by show 2 ≤ sizeLine; decide), fun q hq => ?_⟩
        have z := hQ q hq
        rw [stepTo_pos rfl ⟨by omega, c3⟩] at z
        exact z
      · refine if_f (decide_eq_false (fun z => c3 (V.int.inj z))) ?_
        refine ⟨_, rfl, _, rfl, c, _, 0, _, rfl, rfl, hC.sq _, at0 _ _, _, _, rfl, rfl, _, rfl, _, rfl, c, _, 1, _, rfl, rfl, hC.sq _, at1 _ _, _, _, rfl, rfl, (by show 2 ≤ sizeLine; decide), fun q hq => ?_⟩
        have z := hQ q hq
        rw [stepTo_neg rfl (fun z => c3 z.2)] at z
        exact z
    · refine if_f (decide_eq_false (fun z => c2 (V.int.inj z))) ?_
      refine iteF ?_
      refine ⟨_, rfl, _, rfl, c, _, 0, _, rfl, rfl, hC.sq _, at0 _ _, _, _, rfl, rfl, _, rfl, _, rfl, c, _, 1, _, rfl, rfl, hC.sq _, at1 _ _, _, _, rfl, rfl, (by show 2 ≤ sizeLine; decide), fun q hq => ?_⟩
      have z := hQ q hq
      rw [stepTo_neg rfl (fun z => c2 (by omega))] at z
      exact z
end
end NB
namespace NB
open PySem PySem.Spec PyProof.Rows L2
open PySem.W (Codec)
abbrev sPla : Stmt := top 10
theorem scPla : FnScope ["kind", "steps", "place", "places", "step"] ["kind", "steps"] (defScope sPla) := ⟨rfl, rfl, rfl, by decide +kernel, rfl, by decide +kernel, by decide +kernel⟩
def spPla (K : PySem.W.Frag) : Sp := fun vs H Q _ => ∃ (a : Addr) (k : Int) (ns : List Int), vs = [.int k, .ref a] ∧ SqL K H a (ns.map V.int) ∧ (0 ≤ k ∧ k < 3) ∧ okS k.toNat ns = true ∧ ns.length ≤ 4096 ∧
  ∀ H' p, Same H H' → H p = none → Lies H' p (Sh19.walk k.toNat (nat ns)) → Q (.ref p) H'
section
variable {P : Program} {w : World} {K : PySem.W.Frag} {mg : Str → Option Value} {base : Heap} {M : Addr}
theorem ok_pla {f : Addr} {fd : FuncData} (F : Fun K "places_of" "places_of" sPla f fd) (CA : Cal P w K mg base 1 "place_after" ["kind", "place", "step"] (spAft K)) : FnOk P w K mg base CX0 2 f fd ["kind", "steps"] (spPla K) := by
  refine F.ok scPla (fun vs H Q E h => ?_) (fun cdv A outer s H vs Q E hr h => ?_)
  · obtain ⟨a, k, ns, rfl, _⟩ := h
    rfl
  · refine ⟨_, pss_cons (ps_set (i := 2) scPla.nd rfl (Or.inl rfl) (pe_tup (pa_cons pe_int (pa_cons pe_int pa_nil))))
      (pss_cons (ps_set (i := 3) scPla.nd rfl (Or.inl rfl) (pe_lst (pa_cons (pv 2) pa_nil)))
      (pss_cons (ps_for PassesOwn.never rfl (pi_list (pv 1)) (pg_name (i := 4) scPla.nd rfl (Or.inl rfl))
        (pss_cons (ps_set (i := 2) scPla.nd rfl (Or.inl rfl) (pe_cal CA hr (pa_cons (pv 0) (pa_cons (pv 2) (pa_cons (pv 4) pa_nil)))))
        (pss_one (ps_expr (pe_bm PySem.F.plainAttrs_list PySem.F.slot_list_append PySem.F.type_list_append mt_append (pv 3) (pa_cons (pv 2) pa_nil))))))
      (pss_one (ps_ret (pv 3))))), ?_⟩
    obtain ⟨a, k, ns, rfl, hS, ⟨k0, k3⟩, ok, hn, hQ⟩ := h
    refine ⟨(by show 2 ≤ sizeLine; decide), fun c0 hc0 => ?_⟩
    refine ⟨_, rfl, (by show 1 ≤ sizeLine; decide), fun p hp => ?_⟩
    have np : p ≠ c0 := fun e => by
      rw [e, upd_same] at hp
      cases hp
    have hp0 : H p = none := by
      rw [upd_ne np] at hp
      exact hp
    have s0 : Same H (upd (upd H c0 (.tup [.int 0, .int 0])) p (.lst [.ref c0])) := (same_new hc0).trans (same_new hp)
    refine ⟨_, rfl, a, rfl, ⟨_, s0.seq hS⟩, for_list (K := K) (a := a) (xs := ns.map V.int)
      (fun i σ H' => ∃ (v : Option V) (c : Addr), σ = [some (.int k), some (.ref a), some (.ref c), some (.ref p), v] ∧ Same H H' ∧ Lies H' p (Sh19.walk k.toNat (nat (ns.take i))) ∧
        H' c = some (.tup [.int (Sh19.ending k.toNat (nat (ns.take i))).1, .int (Sh19.ending k.toNat (nat (ns.take i))).2]))
      ⟨none, c0, rfl, s0, ⟨[c0], upd_same, rfl, fun i c q h1 h2 => ?_⟩, ?_⟩ (fun i σ H' _ ⟨_, _, _, s5, _⟩ => s5.seq hS) ?_ ?_⟩
    · match i, h1 with
      | 0, h1 =>
        have e1 : c0 = c := Option.some.inj h1
        have e2 : ((0, 0) : Int × Int) = q := Option.some.inj h2
        subst e1
        subst e2
        rw [upd_ne np.symm]
        exact upd_same
    · rw [upd_ne np.symm]
      exact upd_same
    · rintro i y σ H' hi ⟨v, c, rfl, s5, L5, hc⟩
      obtain ⟨z, hz, rfl⟩ := get_int hi
      obtain ⟨z0, z3⟩ := okS_at ok hz
      obtain ⟨cs, hcs, hlen, hall⟩ := L5.ex
      have hil : i < ns.length := (List.getElem?_eq_some_iff.mp hz).1
      refine ⟨_, rfl, _, rfl, _, rfl, c, k, z, _, _, rfl, SqT.of hc, ⟨k0, k3⟩, ⟨z0, z3⟩, fun q hq => ?_⟩
      have npq : p ≠ q := ne_of_none hcs hq
      have hcs2 : upd H' q (.tup [.int (Sh19.go k.toNat (Sh19.ending k.toNat (nat (ns.take i))) z.toNat).1, .int (Sh19.go k.toNat (Sh19.ending k.toNat (nat (ns.take i))) z.toNat).2]) p = some (.lst (cs.map V.ref)) := by
        rw [upd_ne npq]
        exact hcs
      have hwl : cs.length = i + 1 := by
        rw [hlen, walk_len]
        unfold nat
        rw [List.length_map, List.length_take]
        omega
      refine ⟨_, rfl, .inl ⟨rfl, _, SqL.of hcs2⟩, _, rfl, p, _, _, rfl, rfl, hcs2, ?_, ?_⟩
      · rw [List.length_map, hwl]
        exact Nat.lt_of_le_of_lt (show i + 1 ≤ 4096 by omega) (by decide)
      · have e1 : nat (ns.take (i + 1)) = nat (ns.take i) ++ [z.toNat] := nat_snoc hz
        refine ⟨some (.int z), q, rfl, ?_, ⟨cs ++ [q], ?_, ?_, ?_⟩, ?_⟩
        · intro b o e
          have hbp : b ≠ p := ne_of_none e hp0
          rw [upd_ne hbp]
          exact same_new hq b o (s5 b o e)
        · rw [upd_same, List.map_append]
          rfl
        · rw [e1, walk_snoc, List.length_append, List.length_append, hlen]
          rfl
        · intro j c' q' h1 h2
          have hne : ∀ d, upd H' q (.tup [.int (Sh19.go k.toNat (Sh19.ending k.toNat (nat (ns.take i))) z.toNat).1, .int (Sh19.go k.toNat (Sh19.ending k.toNat (nat (ns.take i))) z.toNat).2]) d = some (.tup [.int q'.1, .int q'.2]) →
              upd (upd H' q (.tup [.int (Sh19.go k.toNat (Sh19.ending k.toNat (nat (ns.take i))) z.toNat).1, .int (Sh19.go k.toNat (Sh19.ending k.toNat (nat (ns.take i))) z.toNat).2])) p (.lst (cs.map V.ref ++ [.ref q])) d = some (.tup [.int q'.1, .int q'.2]) := fun d hd => by
            rw [upd_ne (ne_of hd hcs2 (fun z => nomatch z))]
            exact hd
          refine hne c' ?_
          rw [e1, walk_snoc] at h2
          by_cases hj : j < cs.length
          · rw [List.getElem?_append_left hj] at h1
            rw [List.getElem?_append_left (by rw [← hlen]; exact hj)] at h2
            have hd := hall j c' q' h1 h2
            exact same_new hq c' _ hd
          · have hj2 : j = cs.length := by
              have := (List.getElem?_eq_some_iff.mp h1).1
              rw [List.length_append, List.length_singleton] at this
              omega
            subst hj2
            rw [List.getElem?_append_right (Nat.le_refl _), Nat.sub_self] at h1
            rw [List.getElem?_append_right (by rw [hlen]; exact Nat.le_refl _), hlen, Nat.sub_self] at h2
            have x1 : q = c' := Option.some.inj h1
            have x2 : Sh19.go k.toNat (Sh19.ending k.toNat (nat (ns.take i))) z.toNat = q' := Option.some.inj h2
            subst x1
            subst x2
            exact upd_same
        · rw [e1, ending_snoc, upd_ne npq.symm]
          exact upd_same
    · rintro σ H' ⟨v, c, rfl, s5, L5, hc⟩
      rw [List.length_map, List.take_length] at L5
      exact ⟨_, rfl, hQ H' p s5 hp0 L5⟩
end
end NB
namespace NB
open PySem PySem.Spec PyProof.Rows L2
open PySem.W (Codec)
abbrev sEnd : Stmt := top 11
theorem scEnd : FnScope ["kind", "steps", "refused", "last"] ["kind", "steps"] (defScope sEnd) := ⟨rfl, rfl, rfl, by decide +kernel, rfl, by decide +kernel, by decide +kernel⟩
def spEnd (K : PySem.W.Frag) : Sp := fun vs H Q _ => ∃ (a : Addr) (k : Int) (ns : List Int), vs = [.int k, .ref a] ∧ SqL K H a (ns.map V.int) ∧ (∀ x ∈ ns, 0 ≤ x) ∧
  ∀ (H' : Hp) (p : Addr), H' p = some (.lst ((PySh19.end_ k ns).map V.int)) → Q (.ref p) H'
section
variable {P : Program} {w : World} {K : PySem.W.Frag} {mg : Str → Option Value} {base : Heap} {M : Addr}
theorem ok_end {f : Addr} {fd : FuncData} (F : Fun K "end" "end" sEnd f fd) (CR : Cal P w K mg base 2 "refusal" ["kind", "steps"] (spRef K)) (CP : Cal P w K mg base 2 "places_of" ["kind", "steps"] (spPla K)) : FnOk P w K mg base CX0 3 f fd ["kind", "steps"] (spEnd K) := by
  refine F.ok scEnd (fun vs H Q E h => ?_) (fun cdv A outer s H vs Q E hr h => ?_)
  · obtain ⟨a, k, ns, rfl, _⟩ := h
    rfl
  · refine ⟨_, pss_cons (ps_set (i := 2) scEnd.nd rfl (Or.inl rfl) (pe_cal CR hr (pa_cons (pv 0) (pa_cons (pv 1) pa_nil))))
      (pss_cons (ps_if (pt_cmpR op_ne (pv 2) pe_int (nomark _)) (pss_one (ps_ret (pe_lst (pa_cons (pv 2) pa_nil)))) pss_nil)
      (pss_cons (ps_set (i := 3) scEnd.nd rfl (Or.inl rfl) (pe_ix ix_list (pe_cal CP hr (pa_cons (pv 0) (pa_cons (pv 1) pa_nil))) (pe_un un_neg pe_int) (fun _ _ => rfl)))
      (pss_one (ps_ret (pe_lst (pa_cons pe_int (pa_cons (pe_ix ix_tup (pv 3) pe_int (fun _ _ => rfl)) (pa_cons (pe_ix ix_tup (pv 3) pe_int (fun _ _ => rfl)) pa_nil)))))))), ?_⟩
    obtain ⟨a, k, ns, rfl, hS, hp, hQ⟩ := h
    refine ⟨_, rfl, _, rfl, a, k, ns, rfl, hS, ?_⟩
    refine ⟨_, rfl, rfl, _, rfl, ?_⟩
    by_cases c : refu k ns = 0
    · refine if_f (by rw [c]; rfl) ?_
      obtain ⟨ci, co⟩ := refu_zero c
      obtain ⟨k0, k3, kn⟩ := inR_bd ci
      refine ⟨_, rfl, _, rfl, a, k, ns, rfl, hS, ⟨k0, k3⟩, co, kn, fun H1 p s1 _ L1 => ?_⟩
      obtain ⟨cs, hcs, hlen, hall⟩ := L1.ex
      obtain ⟨l, hl⟩ := walk_last k.toNat (nat ns)
      rw [hl] at hlen hall
      rw [List.length_append, List.length_singleton] at hlen
      have hlt : l.length < cs.length := by omega
      have hc : cs[l.length]? = some cs[l.length] := List.getElem?_eq_getElem hlt
      have hC := hall l.length cs[l.length] _ hc (by rw [List.getElem?_append_right (Nat.le_refl _), Nat.sub_self]; rfl)
      have hat : atI (cs.map V.ref) (-1) = some (.ref cs[l.length]) := by
        have e : cs = cs.take l.length ++ [cs[l.length]] := by
          have q := take_snoc hc
          rw [List.take_of_length_le (by omega)] at q
          exact q
        have e2 : cs.map V.ref = (cs.take l.length).map V.ref ++ [V.ref cs[l.length]] := by
          have q := congrArg (List.map V.ref) e
          rw [List.map_append] at q
          exact q
        rw [e2]
        exact atI_last _ _
      have at0 : ∀ a b : V, atI [a, b] 0 = some a := fun a b => at_of (Int.le_refl _) rfl
      have at1 : ∀ a b : V, atI [a, b] 1 = some b := fun a b => at_of (by decide) rfl
      refine ⟨1, rfl, p, _, -1, _, rfl, rfl, SqL.of hcs, hat, ?_⟩
      refine ⟨_, rfl, _, _, 0, _, rfl, rfl, SqT.of hC, at0 _ _, _, rfl, _, _, 1, _, rfl, rfl, SqT.of hC, at1 _ _, (by show 3 ≤ sizeLine; decide), fun q hq => ?_⟩
      refine hQ _ q ?_
      rw [end_ok hp c]
      exact upd_same
    · refine if_t (by rw [decide_eq_false (fun z => c (V.int.inj z))]; rfl) ?_
      refine ⟨_, rfl, (by show 1 ≤ sizeLine; decide), fun q hq => ?_⟩
      refine hQ _ q ?_
      rw [end_refused hp c]
      exact upd_same
end
end NB
namespace NB
open PySem PySem.Spec PyProof.Rows L2
open PySem.W (Codec)
theorem all_mk {P : Program} {w : World} {K : PySem.W.Frag} {h : Heap} {mg : Str → Option Value} {fa M : Addr} {f1 f2 f3 f4 f5 f6 : Addr} (X : K.In h) (G : h.Ns mainGlobals mg) (hfa : mg "end" = some (.ref fa))
    {od1 an1 od2 an2 od3 an3 od4 an4 od5 an5 od6 an6 : Option Addr} {sl1 sl2 sl3 sl4 sl5 sl6 : Array (Option Value)} {oc1 kV1 dc1 pm1 cd1 ct1 oc2 kV2 dc2 pm2 cd2 ct2 oc3 kV3 dc3 pm3 cd3 ct3 oc4 kV4 dc4 pm4 cd4 ct4 oc5 kV5 dc5 pm5 cd5 ct5 oc6 kV6 dc6 pm6 cd6 ct6 : Value}
    {t_OUT_OF_RANGE t_WRONG_STEPS t_MOST_STEPS t_HONEYCOMB : Tok} {u0 u1 u2 : Addr} {dM d0 d1 d2 : Option Addr} {sM s0 s1 s2 : Array (Option Value)} {nM n0 n1 n2 : Nat}
    {e00 e01 e02 e03 e10 e11 e12 e13 e14 e15 e20 e21 e22 : Addr} {g00 g01 g02 g03 g10 g11 g12 g13 g14 g15 g20 g21 g22 : Option Addr} {h00 h01 h02 h03 h10 h11 h12 h13 h14 h15 h20 h21 h22 : Array (Option Value)} {m00 m01 m02 m03 m10 m11 m12 m13 m14 m15 m20 m21 m22 : Nat} {x00 y00 x01 y01 x02 y02 x03 y03 x10 y10 x11 y11 x12 y12 x13 y13 x14 y14 x15 y15 x20 y20 x21 y21 x22 y22 : Tok}
    (a1 : PySem.W.nsIn K mainGlobals "is_kind" = some (some (.ref f1))) (l1 : K.lookup f1 = some ⟨oc1, od1, .func (PySem.W.fnOf "is_kind" "is_kind" (defArgs sKind) (defBody sKind) (defScope sKind) .none kV1 dc1 pm1 an1 cd1 ct1), sl1⟩) (c1 : PySem.W.codeIn K cd1 "is_kind" = true) (k1 : PySem.W.keepIn K (.ref f1) = true)
    (a2 : PySem.W.nsIn K mainGlobals "are_steps" = some (some (.ref f2))) (l2 : K.lookup f2 = some ⟨oc2, od2, .func (PySem.W.fnOf "are_steps" "are_steps" (defArgs sAre) (defBody sAre) (defScope sAre) .none kV2 dc2 pm2 an2 cd2 ct2), sl2⟩) (c2 : PySem.W.codeIn K cd2 "are_steps" = true) (k2 : PySem.W.keepIn K (.ref f2) = true)
    (a3 : PySem.W.nsIn K mainGlobals "refusal" = some (some (.ref f3))) (l3 : K.lookup f3 = some ⟨oc3, od3, .func (PySem.W.fnOf "refusal" "refusal" (defArgs sRef) (defBody sRef) (defScope sRef) .none kV3 dc3 pm3 an3 cd3 ct3), sl3⟩) (c3 : PySem.W.codeIn K cd3 "refusal" = true) (k3 : PySem.W.keepIn K (.ref f3) = true)
    (a4 : PySem.W.nsIn K mainGlobals "place_after" = some (some (.ref f4))) (l4 : K.lookup f4 = some ⟨oc4, od4, .func (PySem.W.fnOf "place_after" "place_after" (defArgs sAft) (defBody sAft) (defScope sAft) .none kV4 dc4 pm4 an4 cd4 ct4), sl4⟩) (c4 : PySem.W.codeIn K cd4 "place_after" = true) (k4 : PySem.W.keepIn K (.ref f4) = true)
    (a5 : PySem.W.nsIn K mainGlobals "places_of" = some (some (.ref f5))) (l5 : K.lookup f5 = some ⟨oc5, od5, .func (PySem.W.fnOf "places_of" "places_of" (defArgs sPla) (defBody sPla) (defScope sPla) .none kV5 dc5 pm5 an5 cd5 ct5), sl5⟩) (c5 : PySem.W.codeIn K cd5 "places_of" = true) (k5 : PySem.W.keepIn K (.ref f5) = true)
    (a6 : PySem.W.nsIn K mainGlobals "end" = some (some (.ref f6))) (l6 : K.lookup f6 = some ⟨oc6, od6, .func (PySem.W.fnOf "end" "end" (defArgs sEnd) (defBody sEnd) (defScope sEnd) .none kV6 dc6 pm6 an6 cd6 ct6), sl6⟩) (c6 : PySem.W.codeIn K cd6 "end" = true) (k6 : PySem.W.keepIn K (.ref f6) = true)
    (v_OUT_OF_RANGE : PySem.W.nsIn K mainGlobals "OUT_OF_RANGE" = some (some (.int (-2) t_OUT_OF_RANGE)))
    (v_WRONG_STEPS : PySem.W.nsIn K mainGlobals "WRONG_STEPS" = some (some (.int (-3) t_WRONG_STEPS)))
    (v_MOST_STEPS : PySem.W.nsIn K mainGlobals "MOST_STEPS" = some (some (.int 4096 t_MOST_STEPS)))
    (v_HONEYCOMB : PySem.W.nsIn K mainGlobals "HONEYCOMB" = some (some (.int 2 t_HONEYCOMB)))
    (vm : PySem.W.nsIn K mainGlobals "MOVES" = some (some (.ref M))) (vM : K.lookup M = some ⟨.type "tuple", dM, .seq #[.ref u0, .ref u1, .ref u2] nM, sM⟩)
    (r0 : K.lookup u0 = some ⟨.type "tuple", d0, .seq #[.ref e00, .ref e01, .ref e02, .ref e03] n0, s0⟩)
    (r1 : K.lookup u1 = some ⟨.type "tuple", d1, .seq #[.ref e10, .ref e11, .ref e12, .ref e13, .ref e14, .ref e15] n1, s1⟩)
    (r2 : K.lookup u2 = some ⟨.type "tuple", d2, .seq #[.ref e20, .ref e21, .ref e22] n2, s2⟩)
    (w00 : K.lookup e00 = some ⟨.type "tuple", g00, .seq #[.int 1 x00, .int 0 y00] m00, h00⟩)
    (w01 : K.lookup e01 = some ⟨.type "tuple", g01, .seq #[.int 0 x01, .int 1 y01] m01, h01⟩)
    (w02 : K.lookup e02 = some ⟨.type "tuple", g02, .seq #[.int (-1) x02, .int 0 y02] m02, h02⟩)
    (w03 : K.lookup e03 = some ⟨.type "tuple", g03, .seq #[.int 0 x03, .int (-1) y03] m03, h03⟩)
    (w10 : K.lookup e10 = some ⟨.type "tuple", g10, .seq #[.int 1 x10, .int 0 y10] m10, h10⟩)
    (w11 : K.lookup e11 = some ⟨.type "tuple", g11, .seq #[.int 0 x11, .int 1 y11] m11, h11⟩)
    (w12 : K.lookup e12 = some ⟨.type "tuple", g12, .seq #[.int (-1) x12, .int 1 y12] m12, h12⟩)
    (w13 : K.lookup e13 = some ⟨.type "tuple", g13, .seq #[.int (-1) x13, .int 0 y13] m13, h13⟩)
    (w14 : K.lookup e14 = some ⟨.type "tuple", g14, .seq #[.int 0 x14, .int (-1) y14] m14, h14⟩)
    (w15 : K.lookup e15 = some ⟨.type "tuple", g15, .seq #[.int 1 x15, .int (-1) y15] m15, h15⟩)
    (w20 : K.lookup e20 = some ⟨.type "tuple", g20, .seq #[.int 1 x20, .int 0 y20] m20, h20⟩)
    (w21 : K.lookup e21 = some ⟨.type "tuple", g21, .seq #[.int (-1) x21, .int 0 y21] m21, h21⟩)
    (w22 : K.lookup e22 = some ⟨.type "tuple", g22, .seq #[.int 0 x22, .int 1 y22] m22, h22⟩)
    (z_len : PySem.W.nsIn K mainGlobals "len" = some none) :
    ∃ fd : FuncData, (∀ (s : Shared) (us : List Value), us.length = (["kind", "steps"] : List Str).length → BindsTo s fd ⟨us, []⟩ ((["kind", "steps"] : List Str).zip us)) ∧ ∀ base : Heap, K.In base → base.Ns mainGlobals mg → FnOk P w K mg base L2.CX0 3 fa fd ["kind", "steps"] (spEnd K) := by
  have e := hfa.symm.trans (PySem.W.mg_of X G a6)
  cases e
  have tm : ∃ rows : List Addr, TupK K M (rows.map V.ref) ∧ rows.length = 3 ∧ ∀ k, k < 3 → ∃ (r : Addr) (cs : List Addr), rows[k]? = some r ∧ TupK K r (cs.map V.ref) ∧ cs.length = Sh19.ways k ∧
      ∀ s, s < Sh19.ways k → ∃ c, cs[s]? = some c ∧ TupK K c [.int (movAt k s).1, .int (movAt k s).2] := by
    refine ⟨[u0, u1, u2], (.inr ⟨_, _, _, vM, rfl, rfl, (by show 3 ≤ sizeLine; decide), .cons rfl (.cons rfl (.cons rfl .nil))⟩), rfl, fun k hk => ?_⟩
    match k, hk with
    | 0, _ =>
      refine ⟨u0, [e00, e01, e02, e03], rfl, (.inr ⟨_, _, _, r0, rfl, rfl, (by show 4 ≤ sizeLine; decide), .cons rfl (.cons rfl (.cons rfl (.cons rfl (.nil))))⟩), rfl, fun s hs => ?_⟩
      match s, hs with
      | 0, _ => exact ⟨e00, rfl, .inr ⟨_, _, _, w00, rfl, rfl, (by show 2 ≤ sizeLine; decide), .cons ⟨_, rfl⟩ (.cons ⟨_, rfl⟩ .nil)⟩⟩
      | 1, _ => exact ⟨e01, rfl, .inr ⟨_, _, _, w01, rfl, rfl, (by show 2 ≤ sizeLine; decide), .cons ⟨_, rfl⟩ (.cons ⟨_, rfl⟩ .nil)⟩⟩
      | 2, _ => exact ⟨e02, rfl, .inr ⟨_, _, _, w02, rfl, rfl, (by show 2 ≤ sizeLine; decide), .cons ⟨_, rfl⟩ (.cons ⟨_, rfl⟩ .nil)⟩⟩
      | 3, _ => exact ⟨e03, rfl, .inr ⟨_, _, _, w03, rfl, rfl, (by show 2 ≤ sizeLine; decide), .cons ⟨_, rfl⟩ (.cons ⟨_, rfl⟩ .nil)⟩⟩
      | s + 4, hs => exact absurd hs (by rw [ways0]; omega)
    | 1, _ =>
      refine ⟨u1, [e10, e11, e12, e13, e14, e15], rfl, (.inr ⟨_, _, _, r1, rfl, rfl, (by show 6 ≤ sizeLine; decide), .cons rfl (.cons rfl (.cons rfl (.cons rfl (.cons rfl (.cons rfl (.nil))))))⟩), rfl, fun s hs => ?_⟩
      match s, hs with
      | 0, _ => exact ⟨e10, rfl, .inr ⟨_, _, _, w10, rfl, rfl, (by show 2 ≤ sizeLine; decide), .cons ⟨_, rfl⟩ (.cons ⟨_, rfl⟩ .nil)⟩⟩
      | 1, _ => exact ⟨e11, rfl, .inr ⟨_, _, _, w11, rfl, rfl, (by show 2 ≤ sizeLine; decide), .cons ⟨_, rfl⟩ (.cons ⟨_, rfl⟩ .nil)⟩⟩
      | 2, _ => exact ⟨e12, rfl, .inr ⟨_, _, _, w12, rfl, rfl, (by show 2 ≤ sizeLine; decide), .cons ⟨_, rfl⟩ (.cons ⟨_, rfl⟩ .nil)⟩⟩
      | 3, _ => exact ⟨e13, rfl, .inr ⟨_, _, _, w13, rfl, rfl, (by show 2 ≤ sizeLine; decide), .cons ⟨_, rfl⟩ (.cons ⟨_, rfl⟩ .nil)⟩⟩
      | 4, _ => exact ⟨e14, rfl, .inr ⟨_, _, _, w14, rfl, rfl, (by show 2 ≤ sizeLine; decide), .cons ⟨_, rfl⟩ (.cons ⟨_, rfl⟩ .nil)⟩⟩
      | 5, _ => exact ⟨e15, rfl, .inr ⟨_, _, _, w15, rfl, rfl, (by show 2 ≤ sizeLine; decide), .cons ⟨_, rfl⟩ (.cons ⟨_, rfl⟩ .nil)⟩⟩
      | s + 6, hs => exact absurd hs (by rw [ways1]; omega)
    | 2, _ =>
      refine ⟨u2, [e20, e21, e22], rfl, (.inr ⟨_, _, _, r2, rfl, rfl, (by show 3 ≤ sizeLine; decide), .cons rfl (.cons rfl (.cons rfl (.nil)))⟩), rfl, fun s hs => ?_⟩
      match s, hs with
      | 0, _ => exact ⟨e20, rfl, .inr ⟨_, _, _, w20, rfl, rfl, (by show 2 ≤ sizeLine; decide), .cons ⟨_, rfl⟩ (.cons ⟨_, rfl⟩ .nil)⟩⟩
      | 1, _ => exact ⟨e21, rfl, .inr ⟨_, _, _, w21, rfl, rfl, (by show 2 ≤ sizeLine; decide), .cons ⟨_, rfl⟩ (.cons ⟨_, rfl⟩ .nil)⟩⟩
      | 2, _ => exact ⟨e22, rfl, .inr ⟨_, _, _, w22, rfl, rfl, (by show 2 ≤ sizeLine; decide), .cons ⟨_, rfl⟩ (.cons ⟨_, rfl⟩ .nil)⟩⟩
      | s + 3, hs => exact absurd hs (by rw [ways2]; omega)
    | k + 3, hk => exact absurd hk (by omega)
  have m_len := PySem.W.mg_none_of X G z_len
  have g_OUT_OF_RANGE : ∃ t, mg "OUT_OF_RANGE" = some (.int (-2) t) := ⟨_, PySem.W.mg_of X G v_OUT_OF_RANGE⟩
  have g_WRONG_STEPS : ∃ t, mg "WRONG_STEPS" = some (.int (-3) t) := ⟨_, PySem.W.mg_of X G v_WRONG_STEPS⟩
  have g_MOST_STEPS : ∃ t, mg "MOST_STEPS" = some (.int 4096 t) := ⟨_, PySem.W.mg_of X G v_MOST_STEPS⟩
  have g_HONEYCOMB : ∃ t, mg "HONEYCOMB" = some (.int 2 t) := ⟨_, PySem.W.mg_of X G v_HONEYCOMB⟩
  have T : Txt K mg M := ⟨m_len, g_HONEYCOMB, PySem.W.mg_of X G vm, tm⟩
  have F1 := fun_mk (st := sKind) l1 c1 k1
  have b1 := F1.binds (ps := ["kind"]) fun _ _ _ _ _ _ us hl => match us, hl with | [_], _ => rfl
  have j1 := PySem.W.mg_of X G a1
  have F2 := fun_mk (st := sAre) l2 c2 k2
  have b2 := F2.binds (ps := ["kind", "steps"]) fun _ _ _ _ _ _ us hl => match us, hl with | [_, _], _ => rfl
  have j2 := PySem.W.mg_of X G a2
  have F3 := fun_mk (st := sRef) l3 c3 k3
  have b3 := F3.binds (ps := ["kind", "steps"]) fun _ _ _ _ _ _ us hl => match us, hl with | [_, _], _ => rfl
  have j3 := PySem.W.mg_of X G a3
  have F4 := fun_mk (st := sAft) l4 c4 k4
  have b4 := F4.binds (ps := ["kind", "place", "step"]) fun _ _ _ _ _ _ us hl => match us, hl with | [_, _, _], _ => rfl
  have j4 := PySem.W.mg_of X G a4
  have F5 := fun_mk (st := sPla) l5 c5 k5
  have b5 := F5.binds (ps := ["kind", "steps"]) fun _ _ _ _ _ _ us hl => match us, hl with | [_, _], _ => rfl
  have j5 := PySem.W.mg_of X G a5
  have F6 := fun_mk (st := sEnd) l6 c6 k6
  have b6 := F6.binds (ps := ["kind", "steps"]) fun _ _ _ _ _ _ us hl => match us, hl with | [_, _], _ => rfl
  have j6 := PySem.W.mg_of X G a6
  have C_is_kind : ∀ B : Heap, Cal P w K mg B 1 "is_kind" ["kind"] (spKind K) := fun B => ⟨_, _, ok_kind F1 T, F1.kp, b1, j1⟩
  have C_are_steps : ∀ B : Heap, Cal P w K mg B 1 "are_steps" ["kind", "steps"] (spAre K) := fun B => ⟨_, _, ok_are F2 T, F2.kp, b2, j2⟩
  have C_refusal : ∀ B : Heap, Cal P w K mg B 2 "refusal" ["kind", "steps"] (spRef K) := fun B => ⟨_, _, ok_ref F3 T g_OUT_OF_RANGE g_WRONG_STEPS g_MOST_STEPS (C_is_kind B) (C_are_steps B), F3.kp, b3, j3⟩
  have C_place_after : ∀ B : Heap, Cal P w K mg B 1 "place_after" ["kind", "place", "step"] (spAft K) := fun B => ⟨_, _, ok_aft F4 T, F4.kp, b4, j4⟩
  have C_places_of : ∀ B : Heap, Cal P w K mg B 2 "places_of" ["kind", "steps"] (spPla K) := fun B => ⟨_, _, ok_pla F5 (C_place_after B), F5.kp, b5, j5⟩
  refine ⟨PySem.W.fnOf "end" "end" (defArgs sEnd) (defBody sEnd) (defScope sEnd) .none kV6 dc6 pm6 an6 cd6 ct6, fun s us hu => match us, hu with | [_, _], _ => .of_eq rfl, fun base KB _ => ?_⟩
  exact ok_end F6 (C_refusal base) (C_places_of base)
end NB
open PySem PySem.W PyProof.Rows
set_option maxRecDepth 100000 in
set_option maxHeartbeats 8000000 in
theorem PySem.Challenge.cw_neverback_s02_end_holds : PySem.Challenge.rw_neverback_s02_end.Holds := by
  w_on; k_headS; (case hw => exact ⟨[.int 0, .list []], by decide +kernel, by decide +kernel⟩)
  k_fillS
  refine L2.walk_specK (r := PySem.Challenge.rw_neverback_s02_end) (k := 3) (CX := L2.CX0) (ps := ["kind", "steps"]) (sp := NB.spEnd) (by decide +kernel) rfl rfl ⟨rfl, by decide, by decide⟩ (fun w h Y => PySem.W.kIn_of Y) ?F ?S (fun _ _ _ _ z => z)
  case F =>
    intro w mg fa h Y KX G hmg
    refine' NB.all_mk KX G hmg ?a1 ?l1 ?c1 ?k1 ?a2 ?l2 ?c2 ?k2 ?a3 ?l3 ?c3 ?k3 ?a4 ?l4 ?c4 ?k4 ?a5 ?l5 ?c5 ?k5 ?a6 ?l6 ?c6 ?k6 ?v_OUT_OF_RANGE ?v_WRONG_STEPS ?v_MOST_STEPS ?v_HONEYCOMB ?vm ?vM ?r0 ?r1 ?r2 ?w00 ?w01 ?w02 ?w03 ?w10 ?w11 ?w12 ?w13 ?w14 ?w15 ?w20 ?w21 ?w22 ?z_len
    (case a1 => k_is)
    (case l1 => k_is)
    (case c1 => k_is)
    (case k1 => k_is)
    (case a2 => k_is)
    (case l2 => k_is)
    (case c2 => k_is)
    (case k2 => k_is)
    (case a3 => k_is)
    (case l3 => k_is)
    (case c3 => k_is)
    (case k3 => k_is)
    (case a4 => k_is)
    (case l4 => k_is)
    (case c4 => k_is)
    (case k4 => k_is)
    (case a5 => k_is)
    (case l5 => k_is)
    (case c5 => k_is)
    (case k5 => k_is)
    (case a6 => k_is)
    (case l6 => k_is)
    (case c6 => k_is)
    (case k6 => k_is)
    (case v_OUT_OF_RANGE => k_is)
    (case v_WRONG_STEPS => k_is)
    (case v_MOST_STEPS => k_is)
    (case v_HONEYCOMB => k_is)
    (case vm => k_is)
    (case vM => k_is)
    (case r0 => k_is)
    (case r1 => k_is)
    (case r2 => k_is)
    (case w00 => k_is)
    (case w01 => k_is)
    (case w02 => k_is)
    (case w03 => k_is)
    (case w10 => k_is)
    (case w11 => k_is)
    (case w12 => k_is)
    (case w13 => k_is)
    (case w14 => k_is)
    (case w15 => k_is)
    (case w20 => k_is)
    (case w21 => k_is)
    (case w22 => k_is)
    (case z_len => k_is)
  case S =>
    intro K H xs a hO hwi hask hx
    cases hx with
    | cons h1 h2 =>
      cases h2 with
      | cons h2 h3 =>
        cases h3
        cases h1
        cases h2 with
        | lst hs ha =>
          have e := L2.ints_dw a.2.1 _ ha
          subst e
          have q : (Codec.inInt 0 2147483647 a.1 && ((Codec.inLen 0 200 a.2.1 && a.2.1.all (Codec.inInt 0 255)) && true)) = true := hwi
          rw [Bool.and_eq_true, Bool.and_eq_true, Bool.and_eq_true] at q
          refine ⟨_, a.1, a.2.1, rfl, hs, fun x hx => ?_, fun H' p hp => .lst (L2.SqL.of hp) (L2.dw_ints _)⟩
          have q2 := List.all_eq_true.mp q.2.1.2 x hx
          unfold Codec.inInt at q2
          rw [Bool.and_eq_true] at q2
          exact of_decide_eq_true q2.1
#print axioms PySem.Challenge.cw_neverback_s02_end_holds
