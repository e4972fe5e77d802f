import PyProof.Rows.All
import Wide.All
import OpenK.AllK
import Wide.FinOn
import Open.SpecLaws
import KE.OsGo
import HandS.ForSpec
import HandS.Comp
import HandS.Iter
import HandS.Conv
import HandS.Rev
import HandS.Flow
import HandS.Walk
import PySem.Challenge.RW_reignyears_s01_answers
/-! Years told by names: the mathematics, plain Lean. -/
namespace RyM
open Km498

theorem sorted_ext : ∀ (l m : List Nat), l.Pairwise (· < ·) → m.Pairwise (· < ·) → (∀ x, x ∈ l ↔ x ∈ m) → l = m
  | [], [], _, _, _ => rfl
  | [], b :: m, _, _, h => by
    have := (h b).mpr List.mem_cons_self
    cases this
  | a :: l, [], _, _, h => by
    have := (h a).mp List.mem_cons_self
    cases this
  | a :: l, b :: m, hl, hm, h => by
    rw [List.pairwise_cons] at hl hm
    have hab : a = b := by
      have h1 := (h a).mp List.mem_cons_self
      have h2 := (h b).mpr List.mem_cons_self
      rcases List.mem_cons.mp h1 with e | e
      · exact e
      rcases List.mem_cons.mp h2 with e' | e'
      · exact e'.symm
      have := hm.1 a e
      have := hl.1 b e'
      omega
    subst hab
    have ht : l = m := sorted_ext l m hl.2 hm.2 fun x => by
      constructor
      · intro hx
        have h1 := (h x).mp (List.mem_cons_of_mem _ hx)
        rcases List.mem_cons.mp h1 with e | e
        · have := hl.1 x hx
          omega
        · exact e
      · intro hx
        have h1 := (h x).mpr (List.mem_cons_of_mem _ hx)
        rcases List.mem_cons.mp h1 with e | e
        · have := hm.1 x hx
          omega
        · exact e
    rw [ht]

theorem years_sorted (b : Book) (e : Entry) : (b.years e).Pairwise (· < ·) :=
  List.Pairwise.filter _ List.pairwise_lt_range

theorem mem_years {b : Book} {e : Entry} {y : Nat} : y ∈ b.years e ↔ y ≤ b.last ∧ b.fits e y = true := by
  unfold Book.years
  rw [List.mem_filter, List.mem_range]
  constructor
  · rintro ⟨h, h'⟩; exact ⟨by omega, h'⟩
  · rintro ⟨h, h'⟩; exact ⟨by omega, h'⟩

theorem fits_iff {b : Book} {e : Entry} {y : Nat} : b.fits e y = true ↔ b.first ≤ y ∧ y ≤ b.last ∧ b.nameOf y = e.name ∧ b.atOf y = e.at_ ∧ ∀ k, e.known = some k → k = y := by
  unfold Book.fits
  simp only [Bool.and_eq_true, decide_eq_true_eq, beq_iff_eq]
  constructor
  · rintro ⟨h1, h2, h3, h4, h5⟩
    refine ⟨h1, h2, h3, h4, fun k hk => ?_⟩
    rw [hk] at h5
    simpa using h5
  · rintro ⟨h1, h2, h3, h4, h5⟩
    refine ⟨h1, h2, h3, h4, ?_⟩
    cases hk : e.known with
    | none => rfl
    | some k => simpa using h5 k hk

/-- year y as first + name * term + at + i * round -/
theorem told_iff {t n f y k j : Nat} (ht : 0 < t) (hk : k < n) (hj : j < t) :
    (f ≤ y ∧ (y - f) / t % n = k ∧ (y - f) % t = j) ↔ ∃ i, y = f + k * t + j + i * (t * n) := by
  constructor
  · rintro ⟨h1, h2, h3⟩
    refine ⟨(y - f) / t / n, ?_⟩
    have e1 : t * ((y - f) / t) + (y - f) % t = y - f := Nat.div_add_mod _ _
    have e2 : n * ((y - f) / t / n) + (y - f) / t % n = (y - f) / t := Nat.div_add_mod _ _
    rw [h3] at e1
    rw [h2] at e2
    have e3 : t * (n * ((y - f) / t / n) + k) + j = y - f := by rw [e2]; exact e1
    rw [Nat.mul_add, ← Nat.mul_assoc] at e3
    rw [Nat.mul_comm k t, Nat.mul_comm ((y - f) / t / n) (t * n)]
    omega
  · rintro ⟨i, rfl⟩
    have e0 : f + k * t + j + i * (t * n) - f = j + t * (k + n * i) := by
      have : t * (k + n * i) = k * t + i * (t * n) := by
        rw [Nat.mul_add, Nat.mul_comm t k, ← Nat.mul_assoc, Nat.mul_comm (t * n) i]
      omega
    rw [e0]
    refine ⟨by omega, ?_, ?_⟩
    · rw [Nat.add_mul_div_left _ _ ht, Nat.div_eq_of_lt hj, Nat.zero_add, Nat.add_mul_mod_self_left, Nat.mod_eq_of_lt hk]
    · rw [Nat.add_mul_mod_self_left, Nat.mod_eq_of_lt hj]

/-- how many numbers range(a, b, c) has -/
def rgN (a b c : Nat) : Nat := if a < b then (b - a - 1) / c + 1 else 0
theorem lt_rgN {a b c i : Nat} (hc : 0 < c) : i < rgN a b c ↔ a + i * c < b := by
  unfold rgN
  split
  · rename_i h
    rw [Nat.lt_add_one_iff, Nat.le_div_iff_mul_le hc]
    omega
  · rename_i h
    constructor
    · intro h; omega
    · intro h'
      have : 0 ≤ i * c := Nat.zero_le _
      omega
def rgL (a b c : Nat) : List Nat := (List.range (rgN a b c)).map fun i => a + i * c
theorem rgL_sorted (a b : Nat) {c : Nat} (hc : 0 < c) : (rgL a b c).Pairwise (· < ·) := by
  unfold rgL
  rw [List.pairwise_map]
  refine List.Pairwise.imp (fun {x y} h => ?_) List.pairwise_lt_range
  have := Nat.mul_lt_mul_of_pos_right h hc
  omega
theorem years_none {b : Book} {e : Entry} (hk : e.known = none) (ht : 0 < b.term) (hn : e.name < b.names) (ha : e.at_ < b.term) :
    b.years e = rgL (b.first + e.name * b.term + e.at_) (b.last + 1) b.round := by
  have hr : 0 < b.round := Nat.mul_pos ht (by omega)
  refine sorted_ext _ _ (years_sorted b e) (rgL_sorted _ _ hr) fun y => ?_
  rw [mem_years, fits_iff]
  unfold rgL
  rw [List.mem_map]
  simp only [List.mem_range, lt_rgN hr]
  have h1 := told_iff (f := b.first) (y := y) ht hn ha
  constructor
  · rintro ⟨_, h2, h3, h4, h5, _⟩
    obtain ⟨i, hi⟩ := h1.mp ⟨h2, h4, h5⟩
    refine ⟨i, ?_, hi.symm⟩
    have hi' : y = b.first + e.name * b.term + e.at_ + i * b.round := hi
    omega
  · rintro ⟨i, h2, h3⟩
    obtain ⟨g1, g2, g3⟩ := h1.mpr ⟨i, h3.symm⟩
    exact ⟨by omega, g1, by omega, g2, g3, fun k h => by rw [hk] at h; cases h⟩

theorem years_known {b : Book} {e : Entry} {k : Nat} (hk : e.known = some k) (h1 : b.first ≤ k) (h2 : b.nameOf k = e.name) (h3 : b.atOf k = e.at_) :
    b.years e = if k ≤ b.last then [k] else [] := by
  refine sorted_ext _ _ (years_sorted b e) (by split <;> simp) fun y => ?_
  rw [mem_years, fits_iff]
  constructor
  · rintro ⟨_, g1, g2, g3, g4, g5⟩
    have := g5 k hk
    subst this
    rw [if_pos g2]
    exact List.mem_singleton.mpr rfl
  · intro h
    split at h
    · rename_i hl
      have := List.mem_singleton.mp h
      subst this
      exact ⟨hl, h1, hl, h2, h3, fun k' h' => by rw [hk] at h'; exact (Option.some.inj h').symm⟩
    · cases h

theorem years_le {b : Book} {e : Entry} {y : Nat} (h : y ∈ b.years e) : b.first ≤ y ∧ y ≤ b.last := by
  rw [mem_years, fits_iff] at h
  exact ⟨h.2.1, h.1⟩

/-! ### readings over rows of years -/
def soonL : List (List Nat) → Nat → Option (List Nat)
  | [], _ => some []
  | r :: l, y => match r.find? fun x => decide (y ≤ x) with
    | none => none
    | some x => (soonL l (x + 1)).map fun q => x :: q
def lateL : List (List Nat) → Nat → Option (List Nat)
  | [], _ => some []
  | r :: l, y => match (r.reverse.find? fun x => decide (x < y)) with
    | none => none
    | some x => (lateL l x).map fun q => q ++ [x]
def rows (b : Book) : List (List Nat) := b.entries.map b.years
theorem soonest_eq (b : Book) : ∀ (l : List Entry) (y : Nat), b.soonest l y = soonL (l.map b.years) y
  | [], _ => rfl
  | e :: l, y => by
    rw [List.map_cons]
    unfold Book.soonest soonL
    cases (b.years e).find? fun x => decide (y ≤ x) with
    | none => rfl
    | some x => exact congrArg (Option.map fun q => x :: q) (soonest_eq b l (x + 1))
theorem latest_eq (b : Book) : ∀ (l : List Entry) (y : Nat), b.latest l y = lateL (l.map b.years) y
  | [], _ => rfl
  | e :: l, y => by
    rw [List.map_cons]
    unfold Book.latest lateL
    cases (b.years e).reverse.find? fun x => decide (x < y) with
    | none => rfl
    | some x => exact congrArg (Option.map fun q => q ++ [x]) (latest_eq b l x)
theorem first_eq (b : Book) : b.first_ = soonL (rows b) 0 := soonest_eq b _ _
theorem last_eq (b : Book) : b.last_ = lateL (rows b).reverse (b.last + 1) := by
  unfold Book.last_ rows
  rw [latest_eq, List.map_reverse]

/-! ### the count -/
theorem sum_eq (l : List Nat) : Km498.sum l = l.sum := by
  unfold Km498.sum
  rw [List.sum_eq_foldl]
def wayL (rb w : List Nat) (r : List Nat) : List Nat := r.map fun (y : Nat) => (((rb.zip w).filter fun p => decide (p.1 < y)).map fun p => p.2).sum
def countL : List (List Nat) → List Nat → List Nat → Nat
  | [], _, w => w.sum
  | r :: l, rb, w => countL l r (wayL rb w r)
theorem wayL_length (rb w r : List Nat) : (wayL rb w r).length = r.length := List.length_map _
theorem zip_map_self (r : List Nat) (g : Nat → Nat) : r.zip (r.map g) = r.map fun y => (y, g y) := by
  induction r with
  | nil => rfl
  | cons a r ih => rw [List.map_cons, List.map_cons, List.zip_cons_cons, ih]
theorem zip_wayL (rb w r : List Nat) : (r.map fun y => (y, Km498.sum (((rb.zip w).filter fun p => decide (p.1 < y)).map fun p => p.2))) = r.zip (wayL rb w r) := by
  unfold wayL
  rw [zip_map_self]
  simp only [sum_eq]
theorem ways_eq (b : Book) : ∀ (l : List Entry) (rb w : List Nat), rb.length = w.length → Km498.sum ((b.ways l (rb.zip w)).map fun p => p.2) = countL (l.map b.years) rb w
  | [], rb, w, h => by
    show Km498.sum ((rb.zip w).map fun p => p.2) = w.sum
    rw [sum_eq]
    congr 1
    exact List.map_snd_zip (by omega)
  | e :: l, rb, w, h => by
    rw [List.map_cons]
    show Km498.sum ((b.ways l ((b.years e).map fun y => (y, Km498.sum (((rb.zip w).filter fun p => decide (p.1 < y)).map fun p => p.2)))).map fun p => p.2) = countL (l.map b.years) (b.years e) (wayL rb w (b.years e))
    rw [zip_wayL]
    exact ways_eq b l _ _ (wayL_length _ _ _).symm
theorem count_eq (b : Book) : b.count = match b.entries with
    | [] => 1
    | e :: l => countL (l.map b.years) (b.years e) ((b.years e).map fun _ => 1) := by
  unfold Book.count
  cases b.entries with
  | nil => rfl
  | cons e l =>
    show Km498.sum ((b.ways l ((b.years e).map fun y => (y, 1))).map fun p => p.2) = _
    have : ((b.years e).map fun y => (y, 1)) = (b.years e).zip ((b.years e).map fun _ => 1) := by
      rw [zip_map_self]
    rw [this]
    exact ways_eq b l _ _ (by rw [List.length_map])
/-! ### the count as the program has it: the row before in whole numbers, from one of -1 alone -/
def wayZ (rb : List Int) (w r : List Nat) : List Nat := r.map fun (y : Nat) => (((rb.zip w).filter fun p => decide (p.1 < (y : Int))).map fun p => p.2).sum
def countZ : List (List Nat) → List Int → List Nat → Nat
  | [], _, w => w.sum
  | r :: l, rb, w => countZ l (r.map fun (x : Nat) => (x : Int)) (wayZ rb w r)
theorem filter_cast (y : Nat) : ∀ (rb w : List Nat), (((rb.map fun (x : Nat) => (x : Int)).zip w).filter fun p => decide (p.1 < (y : Int))).map (fun p => p.2) = (((rb.zip w).filter fun p => decide (p.1 < y)).map fun p => p.2)
  | [], _ => rfl
  | _ :: _, [] => rfl
  | a :: rb, c :: w => by
    rw [List.map_cons, List.zip_cons_cons, List.zip_cons_cons, List.filter_cons, List.filter_cons]
    by_cases h : a < y
    · have h' : (a : Int) < y := by omega
      rw [if_pos (by simpa using h'), if_pos (by simpa using h), List.map_cons, List.map_cons, filter_cast y rb w]
    · have h' : ¬ (a : Int) < y := by omega
      rw [if_neg (by simpa using h'), if_neg (by simpa using h), filter_cast y rb w]
theorem wayZ_cast (rb w r : List Nat) : wayZ (rb.map fun (x : Nat) => (x : Int)) w r = wayL rb w r := by
  unfold wayZ wayL
  simp only [filter_cast]
theorem countZ_cast : ∀ (l : List (List Nat)) (rb w : List Nat), countZ l (rb.map fun (x : Nat) => (x : Int)) w = countL l rb w
  | [], _, _ => rfl
  | r :: l, rb, w => by
    unfold countZ countL
    rw [wayZ_cast]
    exact countZ_cast l r _
theorem wayZ_start (r : List Nat) : wayZ [-1] [1] r = r.map fun _ => 1 := by
  unfold wayZ
  refine List.map_congr_left fun y _ => ?_
  have : (-1 : Int) < y := by omega
  simp [this]
theorem count_rows (b : Book) : b.count = countZ (rows b) [-1] [1] := by
  rw [count_eq]
  unfold rows
  cases b.entries with
  | nil => rfl
  | cons e l =>
    rw [List.map_cons]
    show countL _ _ _ = countZ (l.map b.years) _ (wayZ [-1] [1] (b.years e))
    rw [wayZ_start, countZ_cast]
theorem wayZ_length (rb : List Int) (w r : List Nat) : (wayZ rb w r).length = r.length := List.length_map _
/-- behind the while: at is how many of the row before are earlier than year y, and total is theirs -/
theorem take_of_sorted {rb : List Int} {w : List Nat} {y : Int} {k : Nat} (hs : rb.Pairwise (· < ·)) (h1 : ∀ i x, i < k → rb[i]? = some x → x < y) (h2 : ∀ x, rb[k]? = some x → y ≤ x) (hw : w.length = rb.length) :
    ((rb.zip w).filter fun p => decide (p.1 < y)).map (fun p => p.2) = w.take k := by
  induction rb generalizing w k with
  | nil =>
    have : w = [] := List.eq_nil_of_length_eq_zero hw
    subst this
    simp
  | cons a rb ih =>
    cases w with
    | nil => cases hw
    | cons c w =>
      rw [List.zip_cons_cons, List.filter_cons]
      rw [List.pairwise_cons] at hs
      cases k with
      | zero =>
        have ha : y ≤ a := h2 a rfl
        have hn : ¬ (a < y) := by omega
        rw [if_neg (by simpa using hn)]
        have : ((rb.zip w).filter fun p => decide (p.1 < y)) = [] := by
          rw [List.filter_eq_nil_iff]
          rintro ⟨p, q⟩ hp
          have hm := (List.of_mem_zip hp).1
          have := hs.1 p hm
          simp only [decide_eq_true_eq]
          omega
        rw [this]
        rfl
      | succ k =>
        have ha : a < y := h1 0 a (by omega) rfl
        rw [if_pos (by simpa using ha), List.map_cons, List.take_succ_cons]
        congr 1
        exact ih hs.2 (fun i x hi hx => h1 (i + 1) x (by omega) (by simpa using hx)) (fun x hx => h2 x (by simpa using hx)) (by simpa using hw)
end RyM

/-! The calls as one list: a turn of the loop. -/
namespace RyM
open Km498

theorem whole_id (c : List (List Int)) : PyKm498.whole c = c := by
  unfold PyKm498.whole
  split <;> rfl
theorem map_whole (cs : List (List (List Int))) : cs.map PyKm498.whole = cs := by
  rw [List.map_congr_left (g := id) fun c _ => whole_id c, List.map_id]

/-- how many numbers stand behind the call's number -/
def ar (p : Int) : Nat := ((PyKm498.shape p).map (·.1)).getD 0
theorem pick {p c : Int} {a r : Nat × Nat} {o : Option (Nat × Nat)} (h : (if p = c then some a else o) = some r) : (p = c ∧ a = r) ∨ (p ≠ c ∧ o = some r) := by
  by_cases hc : p = c
  · rw [if_pos hc] at h
    exact .inl ⟨hc, Option.some.inj h⟩
  · rw [if_neg hc] at h
    exact .inr ⟨hc, h⟩
theorem shape_two {p : Int} {n k : Nat} (h : PyKm498.shape p = some (n, k)) : k = 0 ∧ n = ar p ∧ 0 ≤ p ∧ p ≤ 20 := by
  have ha : ar p = n := by unfold ar; rw [h]; rfl
  unfold PyKm498.shape at h
  iterate 21
    rcases pick h with ⟨e1, e2⟩ | ⟨_, h⟩
    · injection e2 with e3 e4
      exact ⟨e4.symm, ha.symm, by omega, by omega⟩
  cases h
theorem calls_turn {f : Nat} {l : List Int} {raw : List (List (List Int))} (h : PyFlat.calls PyKm498.shape f l = some raw) :
    (l = [] ∧ raw = []) ∨ ∃ p r cs f', l = p :: r ∧ 0 ≤ p ∧ p ≤ 20 ∧ ar p ≤ r.length ∧ raw = [p :: r.take (ar p)] :: cs ∧ PyFlat.calls PyKm498.shape f' (r.drop (ar p)) = some cs := by
  cases l with
  | nil =>
    cases f with
    | zero => exact .inl ⟨rfl, (Option.some.inj h).symm⟩
    | succ f => exact .inl ⟨rfl, (Option.some.inj h).symm⟩
  | cons p r =>
    cases f with
    | zero => cases h
    | succ f =>
      right
      cases hs : PyKm498.shape p with
      | none => simp only [PyFlat.calls, PyFlat.call, hs] at h; cases h
      | some nk =>
        obtain ⟨n, k⟩ := nk
        obtain ⟨rfl, rfl, h0, h20⟩ := shape_two hs
        simp only [PyFlat.calls, PyFlat.call, hs] at h
        by_cases hl : r.length < ar p
        · simp only [if_pos hl] at h; cases h
        · simp only [if_neg hl, PyFlat.rows] at h
          cases hc : PyFlat.calls PyKm498.shape f (r.drop (ar p)) with
          | none => rw [hc] at h; cases h
          | some cs =>
            rw [hc] at h
            exact ⟨p, r, cs, f, rfl, h0, h20, by omega, (Option.some.inj h).symm, hc⟩

/-- what is still to be answered, from state s over the calls raw -/
def rest (s : Km498Neutral.S) (raw : List (List (List Int))) : List Int := PyFlat.told (PyFlat.played Km498Neutral.step s raw)
theorem rest_nil (s : Km498Neutral.S) : rest s [] = [] := rfl
theorem rest_cons (s : Km498Neutral.S) (c : List (List Int)) (cs : List (List (List Int))) :
    rest s (c :: cs) = (((Km498Neutral.step s c).2.length : Nat) : Int) :: (Km498Neutral.step s c).2 ++ rest (Km498Neutral.step s c).1 cs := by
  unfold rest PyFlat.told
  simp [PyFlat.played]
/-- a list that may be asked, in one word -/
structure Told (s : Km498Neutral.S) (raw : List (List (List Int))) : Prop where
  a1 : raw.all Km498Neutral.asked1 = true
  may : Km498Neutral.may s raw = true
theorem asked_told {l : List Int} (h : PyKm498.answers_asked l = true) : ∃ raw, PyFlat.calls PyKm498.shape l.length l = some raw ∧ Told none raw ∧ PyKm498.answers l = rest none raw ∧ (PyKm498.answers l).length ≤ 10000000 := by
  unfold PyKm498.answers_asked at h
  cases hc : PyFlat.calls PyKm498.shape l.length l with
  | none => rw [hc] at h; cases h
  | some raw =>
    rw [hc] at h
    simp only [map_whole, Bool.and_eq_true, Km498Neutral.asked, decide_eq_true_eq] at h
    obtain ⟨⟨⟨_, _⟩, ⟨_, h3, h4, h5⟩⟩, h6⟩ := h
    refine ⟨raw, rfl, ⟨h4, h5⟩, ?_, by unfold PyFlat.short at h6; simpa using h6⟩
    unfold PyKm498.answers PyKm498.calls
    rw [hc]
    simp only [map_whole]
    rfl
theorem Told.head {s : Km498Neutral.S} {c : List (List Int)} {cs : List (List (List Int))} (h : Told s (c :: cs)) : Km498Neutral.asked1 c = true ∧ (Km498Neutral.step s c).2 ≠ [] := by
  have h1 := h.a1
  have h2 := h.may
  simp only [List.all_cons, Bool.and_eq_true] at h1
  simp only [Km498Neutral.may, Bool.and_eq_true, Bool.not_eq_true', List.isEmpty_eq_false_iff] at h2
  exact ⟨h1.1, h2.1⟩
theorem Told.tail {s : Km498Neutral.S} {c : List (List Int)} {cs : List (List (List Int))} (h : Told s (c :: cs)) : Told (Km498Neutral.step s c).1 cs := by
  have h1 := h.a1
  have h2 := h.may
  simp only [List.all_cons, Bool.and_eq_true] at h1
  simp only [Km498Neutral.may, Bool.and_eq_true] at h2
  exact ⟨h1.2, h2.2⟩

/-! ### the object -/
def desk (s : Km498Neutral.S) : Desk := s.getD (fresh 1 2 0 0)
/-- an entry as it may be told -/
structure EntOk (b : Book) (e : Entry) : Prop where
  nm : e.name < b.names
  at' : e.at_ < b.term
  kn : ∀ k, e.known = some k → b.first ≤ k ∧ k ≤ 2000 ∧ b.nameOf k = e.name ∧ b.atOf k = e.at_
structure BookOk (b : Book) : Prop where
  t1 : 1 ≤ b.term
  t2 : b.term ≤ 40
  n1 : 2 ≤ b.names
  n2 : b.names ≤ 16
  f2 : b.first ≤ 500
  l1 : b.first ≤ b.last
  l2 : b.last ≤ 2000
  en : b.entries.length ≤ 10
  es : ∀ e ∈ b.entries, EntOk b e
/-- the same reigns -/
def Kin (a b : Book) : Prop := a.term = b.term ∧ a.names = b.names ∧ a.first = b.first
structure DeskOk (d : Desk) : Prop where
  now : BookOk d.now
  past : ∀ b ∈ d.past, BookOk b ∧ Kin b d.now
  fut : ∀ b ∈ d.future, BookOk b ∧ Kin b d.now
  few : d.past.length + d.future.length ≤ 20

theorem fresh_ok : DeskOk (fresh 1 2 0 0) :=
  ⟨⟨by decide, by decide, by decide, by decide, by decide, by decide, by decide, by decide, (by intro e h; cases h)⟩, (by intro b h; cases h), (by intro b h; cases h), by decide⟩
theorem start_ok {t n f z : Nat} (h : ¬ (t = 0 ∨ 40 < t ∨ n < 2 ∨ 16 < n ∨ 500 < f ∨ z < f ∨ LAST < z)) : DeskOk ⟨⟨t, n, f, z, []⟩, [], []⟩ := by
  have hL : LAST = 2000 := rfl
  rw [hL] at h
  refine ⟨⟨?_, ?_, ?_, ?_, ?_, ?_, ?_, by simp, (by intro e h; cases h)⟩, (by intro b h; cases h), (by intro b h; cases h), by simp⟩ <;> dsimp only <;> omega
theorem Kin.symm {a b : Book} (h : Kin a b) : Kin b a := ⟨h.1.symm, h.2.1.symm, h.2.2.symm⟩
theorem Kin.trans {a b c : Book} (h : Kin a b) (g : Kin b c) : Kin a c := ⟨h.1.trans g.1, h.2.1.trans g.2.1, h.2.2.trans g.2.2⟩
theorem become_ok {d : Desk} {b : Book} (h : DeskOk d) (hb : BookOk b) (k : Kin b d.now) : DeskOk (d.become b) := by
  refine ⟨hb, fun x hx => ?_, (by intro x hx; cases hx), ?_⟩
  · have hx' : x ∈ d.now :: d.past := List.mem_of_mem_take hx
    rcases List.mem_cons.mp hx' with e | e
    · subst e; exact ⟨h.now, k.symm⟩
    · exact ⟨(h.past x e).1, (h.past x e).2.trans k.symm⟩
  · show ((d.now :: d.past).take 20).length + ([] : List Book).length ≤ 20
    rw [List.length_take, List.length_nil]
    omega
theorem back_ok {d : Desk} {k : Book} {r : List Book} (h : DeskOk d) (e : d.past = k :: r) : DeskOk ⟨k, r, d.now :: d.future⟩ := by
  have hk := h.past k (by rw [e]; exact List.mem_cons_self)
  refine ⟨hk.1, fun x hx => ?_, fun x hx => ?_, ?_⟩
  · have := h.past x (by rw [e]; exact List.mem_cons_of_mem _ hx)
    exact ⟨this.1, this.2.trans hk.2.symm⟩
  · rcases List.mem_cons.mp hx with q | q
    · subst q; exact ⟨h.now, hk.2.symm⟩
    · have := h.fut x q
      exact ⟨this.1, this.2.trans hk.2.symm⟩
  · have := h.few
    rw [e] at this
    simp only [List.length_cons] at this ⊢
    omega
theorem again_ok {d : Desk} {k : Book} {r : List Book} (h : DeskOk d) (e : d.future = k :: r) : (d.now :: d.past).take PAST = d.now :: d.past ∧ DeskOk ⟨k, d.now :: d.past, r⟩ := by
  have hk := h.fut k (by rw [e]; exact List.mem_cons_self)
  have hf := h.few
  rw [e] at hf
  simp only [List.length_cons] at hf
  refine ⟨List.take_of_length_le (by show (d.now :: d.past).length ≤ 20; rw [List.length_cons]; omega), hk.1, fun x hx => ?_, fun x hx => ?_, ?_⟩
  · rcases List.mem_cons.mp hx with q | q
    · subst q; exact ⟨h.now, hk.2.symm⟩
    · have := h.past x q
      exact ⟨this.1, this.2.trans hk.2.symm⟩
  · have := h.fut x (by rw [e]; exact List.mem_cons_of_mem _ hx)
    exact ⟨this.1, this.2.trans hk.2.symm⟩
  · simp only [List.length_cons]
    omega
theorem EntOk.mono {a b : Book} {e : Entry} (h : EntOk a e) (k : Kin b a) : EntOk b e := by
  obtain ⟨h1, h2, h3⟩ := k
  refine ⟨by rw [h2]; exact h.nm, by rw [h1]; exact h.at', fun y hy => ?_⟩
  have := h.kn y hy
  unfold Book.nameOf Book.atOf at *
  rw [h1, h2, h3]
  exact this
theorem tell_ok {b : Book} {k j : Nat} (h : BookOk b) (hk : k < b.names) (hj : j < b.term) (hn : b.entries.length < 10) : BookOk { b with entries := b.entries ++ [⟨k, j, none⟩] } := by
  refine ⟨h.t1, h.t2, h.n1, h.n2, h.f2, h.l1, h.l2, (by rw [List.length_append, List.length_singleton]; omega), fun e he => ?_⟩
  rcases List.mem_append.mp he with q | q
  · exact (h.es e q).mono ⟨rfl, rfl, rfl⟩
  · have := List.mem_singleton.mp q
    subst this
    exact ⟨hk, hj, by intro y hy; cases hy⟩
theorem drop_ok {b : Book} (h : BookOk b) : BookOk { b with entries := b.entries.dropLast } := by
  refine ⟨h.t1, h.t2, h.n1, h.n2, h.f2, h.l1, h.l2, (by rw [List.length_dropLast]; have := h.en; omega), fun e he => ?_⟩
  exact (h.es e ((List.dropLast_sublist _).subset he)).mono ⟨rfl, rfl, rfl⟩
theorem up_ok {b : Book} {z : Nat} (h : BookOk b) (h1 : b.first ≤ z) (h2 : z ≤ 2000) : BookOk { b with last := z } :=
  ⟨h.t1, h.t2, h.n1, h.n2, h.f2, h1, h2, h.en, fun e he => (h.es e he).mono ⟨rfl, rfl, rfl⟩⟩
theorem set_ok {b : Book} {i : Nat} {e : Entry} (h : BookOk b) (he : EntOk b e) : BookOk (b.set i e) := by
  refine ⟨h.t1, h.t2, h.n1, h.n2, h.f2, h.l1, h.l2, (by show (b.entries.set i e).length ≤ 10; rw [List.length_set]; exact h.en), fun x hx => ?_⟩
  rcases List.mem_or_eq_of_mem_set hx with q | q
  · exact (h.es x q).mono ⟨rfl, rfl, rfl⟩
  · subst q; exact he.mono ⟨rfl, rfl, rfl⟩
theorem e_mem {b : Book} {i : Nat} (h : i < b.entries.length) : b.e i ∈ b.entries ∧ b.entries[i]? = some (b.e i) := by
  have e : b.entries[i]? = some b.entries[i] := List.getElem?_eq_getElem h
  have e2 : b.e i = b.entries[i] := by
    unfold Book.e
    rw [List.getD_eq_getElem?_getD, e]
    rfl
  rw [e2]
  exact ⟨List.getElem_mem h, e⟩
theorem know_ok {b : Book} {i y : Nat} (h : BookOk b) (hi : i < b.entries.length) (hf : b.fits (b.e i) y = true) : BookOk (b.set i { b.e i with known := some y }) := by
  have he := h.es _ (e_mem hi).1
  rw [fits_iff] at hf
  have hl := h.l2
  refine set_ok h ⟨he.nm, he.at', fun k hk => ?_⟩
  have := Option.some.inj hk
  subst this
  exact ⟨hf.1, by omega, hf.2.2.1, hf.2.2.2.1⟩
theorem forget_ok {b : Book} {i : Nat} (h : BookOk b) (hi : i < b.entries.length) : BookOk (b.set i { b.e i with known := none }) := by
  have he := h.es _ (e_mem hi).1
  exact set_ok h ⟨he.nm, he.at', fun k hk => by cases hk⟩

/-- every call leaves the object as it may be -/
theorem act_ok {d : Desk} (h : DeskOk d) (x : Call) : DeskOk (act d x).1 := by
  cases x with
  | start t n f z =>
    dsimp only [act]
    split
    · exact h
    · rename_i c; exact start_ok c
  | tell k j =>
    dsimp only [act]
    split
    · exact h
    · rename_i c
      split
      · exact h
      · rename_i c2
        exact become_ok h (tell_ok h.now (by omega) (by omega) (by have : ENTRIES = 10 := rfl; rw [this] at c2; exact Nat.lt_of_not_le c2)) ⟨rfl, rfl, rfl⟩
  | drop =>
    dsimp only [act]
    split
    · exact h
    · exact become_ok h (drop_ok h.now) ⟨rfl, rfl, rfl⟩
  | know i y =>
    dsimp only [act]
    split
    · exact h
    · rename_i c
      split
      · exact h
      · split
        · exact h
        · rename_i c2 c3
          refine become_ok h (know_ok h.now ?_ (by simpa using c3)) ⟨rfl, rfl, rfl⟩
          unfold Book.no Book.n at c
          simpa using c
  | forget i =>
    dsimp only [act]
    split
    · exact h
    · rename_i c
      split
      · exact h
      · refine become_ok h (forget_ok h.now ?_) ⟨rfl, rfl, rfl⟩
        unfold Book.no Book.n at c
        simpa using c
  | upTo z =>
    dsimp only [act]
    split
    · exact h
    · rename_i c
      split
      · exact h
      · have hL : LAST = 2000 := rfl
        rw [hL] at c
        exact become_ok h (up_ok h.now (by omega) (by omega)) ⟨rfl, rfl, rfl⟩
  | back =>
    dsimp only [act]
    split
    · exact h
    · rename_i e; exact back_ok h e
  | again =>
    dsimp only [act]
    split
    · exact h
    · rename_i k r e
      have q := again_ok h e
      show DeskOk ⟨k, (d.now :: d.past).take PAST, r⟩
      rw [q.1]
      exact q.2
  | name y => exact h
  | years i => exact h
  | soonest => exact h
  | latest => exact h
  | count => exact h
  | sure => exact h
  | when_ i => exact h
  | apart i j => exact h
  | one => exact h
  | rounds i => exact h
  | could i y => exact h
  | told i => exact h
  | state => exact h
theorem step_ok {s : Km498Neutral.S} (h : DeskOk (desk s)) (c : List (List Int)) : DeskOk (desk (Km498Neutral.step s c).1) := by
  unfold Km498Neutral.step
  cases hc : Km498Neutral.callOf c with
  | none => exact h
  | some x =>
    cases s with
    | some a => exact act_ok h x
    | none =>
      dsimp only
      split
      · dsimp only
        split
        · exact fresh_ok
        · exact act_ok fresh_ok x
      · exact h
/-- what a call answers, and makes: of the object as the program has it -/
theorem step_act {s : Km498Neutral.S} {c : List (List Int)} {x : Call} (hx : Km498Neutral.callOf c = some x) (hn : (Km498Neutral.step s c).2 ≠ []) :
    (Km498Neutral.step s c).2 = Km498Neutral.told (act (desk s) x).2 ∧ desk (Km498Neutral.step s c).1 = (act (desk s) x).1 := by
  unfold Km498Neutral.step at hn ⊢
  rw [hx] at hn ⊢
  cases s with
  | some a => exact ⟨rfl, rfl⟩
  | none =>
    dsimp only at hn ⊢
    by_cases hs : Km498Neutral.isStart x = true
    · rw [if_pos hs] at hn ⊢
      refine ⟨rfl, ?_⟩
      dsimp only
      cases x with
      | start t n f z =>
        show desk (if (Km498Neutral.told (act (fresh 1 2 0 0) (.start t n f z)).2).headD 0 < 0 then none else some (act (fresh 1 2 0 0) (.start t n f z)).1) = (act (fresh 1 2 0 0) (.start t n f z)).1
        dsimp only [act]
        split
        · rfl
        · rfl
      | _ => cases hs
    · rw [if_neg hs] at hn
      exact absurd rfl hn
end RyM

/-! Readings: the soonest and the latest are readings, none is sooner or later; an entry may be in a year just if it lies between. -/
namespace RyM
open Km498
/-- a reading of rows, all from y on -/
def Up : List (List Nat) → Nat → List Nat → Prop
  | [], _, [] => True
  | r :: rs, y, x :: xs => x ∈ r ∧ y ≤ x ∧ Up rs (x + 1) xs
  | _, _, _ => False
/-- a reading of rows from the last on, all before y -/
def Dn : List (List Nat) → Nat → List Nat → Prop
  | [], _, [] => True
  | r :: rs, y, x :: xs => x ∈ r ∧ x < y ∧ Dn rs x xs
  | _, _, _ => False
/-- item by item at most -/
def Le : List Nat → List Nat → Prop
  | [], [] => True
  | x :: xs, y :: ys => x ≤ y ∧ Le xs ys
  | _, _ => False
theorem Up.mono : ∀ {rs : List (List Nat)} {y y' : Nat} {xs : List Nat}, Up rs y xs → y' ≤ y → Up rs y' xs
  | [], _, _, [], _, _ => trivial
  | _ :: _, _, _, _ :: _, h, l => ⟨h.1, Nat.le_trans l h.2.1, h.2.2⟩
  | [], _, _, _ :: _, h, _ => h.elim
  | _ :: _, _, _, [], h, _ => h.elim
theorem Dn.mono : ∀ {rs : List (List Nat)} {y y' : Nat} {xs : List Nat}, Dn rs y xs → y ≤ y' → Dn rs y' xs
  | [], _, _, [], _, _ => trivial
  | _ :: _, _, _, _ :: _, h, l => ⟨h.1, Nat.lt_of_lt_of_le h.2.1 l, h.2.2⟩
  | [], _, _, _ :: _, h, _ => h.elim
  | _ :: _, _, _, [], h, _ => h.elim
theorem soonL_up : ∀ {rs : List (List Nat)} {y : Nat} {q : List Nat}, soonL rs y = some q → Up rs y q
  | [], _, q, h => by cases h; trivial
  | r :: rs, y, q, h => by
    unfold soonL at h
    cases e : r.find? fun x => decide (y ≤ x) with
    | none => rw [e] at h; cases h
    | some z =>
      rw [e] at h
      cases e2 : soonL rs (z + 1) with
      | none => simp only [e2, Option.map_none] at h; cases h
      | some q' =>
        simp only [e2, Option.map_some] at h
        cases h
        have h1 := List.find?_some e
        exact ⟨List.mem_of_find?_eq_some e, by simpa using h1, soonL_up e2⟩
/-- the first that's found is at most any that fits -/
theorem find_first {r : List Nat} (hs : r.Pairwise (· < ·)) {y x : Nat} (hx : x ∈ r) (hy : y ≤ x) : ∃ z, r.find? (fun x => decide (y ≤ x)) = some z ∧ z ≤ x := by
  induction r with
  | nil => cases hx
  | cons a r ih =>
    rw [List.pairwise_cons] at hs
    by_cases ha : y ≤ a
    · refine ⟨a, by rw [List.find?_cons, decide_eq_true ha], ?_⟩
      rcases List.mem_cons.mp hx with e | e
      · omega
      · exact Nat.le_of_lt (hs.1 x e)
    · rcases List.mem_cons.mp hx with e | e
      · omega
      · obtain ⟨z, h1, h2⟩ := ih hs.2 e
        exact ⟨z, by rw [List.find?_cons, decide_eq_false ha]; exact h1, h2⟩
theorem find_last {r : List Nat} (hs : r.Pairwise (· > ·)) {y x : Nat} (hx : x ∈ r) (hy : x < y) : ∃ z, r.find? (fun x => decide (x < y)) = some z ∧ x ≤ z := by
  induction r with
  | nil => cases hx
  | cons a r ih =>
    rw [List.pairwise_cons] at hs
    by_cases ha : a < y
    · refine ⟨a, by rw [List.find?_cons, decide_eq_true ha], ?_⟩
      rcases List.mem_cons.mp hx with e | e
      · omega
      · exact Nat.le_of_lt (hs.1 x e)
    · rcases List.mem_cons.mp hx with e | e
      · omega
      · obtain ⟨z, h1, h2⟩ := ih hs.2 e
        exact ⟨z, by rw [List.find?_cons, decide_eq_false ha]; exact h1, h2⟩
theorem soonL_least : ∀ {rs : List (List Nat)} {y : Nat} {xs : List Nat}, (∀ r ∈ rs, r.Pairwise (· < ·)) → Up rs y xs → ∃ q, soonL rs y = some q ∧ Le q xs
  | [], _, [], _, _ => ⟨[], rfl, trivial⟩
  | [], _, _ :: _, _, h => h.elim
  | _ :: _, _, [], _, h => h.elim
  | r :: rs, y, x :: xs, hs, h => by
    obtain ⟨z, h1, h2⟩ := find_first (hs r List.mem_cons_self) h.1 h.2.1
    obtain ⟨q, h3, h4⟩ := soonL_least (y := z + 1) (fun r' hr => hs r' (List.mem_cons_of_mem _ hr)) (h.2.2.mono (by omega))
    refine ⟨z :: q, ?_, h2, h4⟩
    unfold soonL
    rw [h1]
    simp only [h3, Option.map_some]
theorem lateL_dn : ∀ {rs : List (List Nat)} {y : Nat} {q : List Nat}, lateL rs y = some q → Dn rs y q.reverse
  | [], _, q, h => by cases h; trivial
  | r :: rs, y, q, h => by
    unfold lateL at h
    cases e : r.reverse.find? fun x => decide (x < y) with
    | none => rw [e] at h; cases h
    | some z =>
      rw [e] at h
      cases e2 : lateL rs z with
      | none => simp only [e2, Option.map_none] at h; cases h
      | some q' =>
        simp only [e2, Option.map_some] at h
        cases h
        have h1 := List.find?_some e
        rw [List.reverse_append]
        exact ⟨List.mem_reverse.mp (List.mem_of_find?_eq_some e), by simpa using h1, lateL_dn e2⟩
theorem lateL_most : ∀ {rs : List (List Nat)} {y : Nat} {xs : List Nat}, (∀ r ∈ rs, r.Pairwise (· < ·)) → Dn rs y xs → ∃ q, lateL rs y = some q ∧ Le xs q.reverse
  | [], _, [], _, _ => ⟨[], rfl, trivial⟩
  | [], _, _ :: _, _, h => h.elim
  | _ :: _, _, [], _, h => h.elim
  | r :: rs, y, x :: xs, hs, h => by
    have hr : r.reverse.Pairwise (· > ·) := List.pairwise_reverse.mpr (hs r List.mem_cons_self)
    obtain ⟨z, h1, h2⟩ := find_last hr (List.mem_reverse.mpr h.1) h.2.1
    obtain ⟨q, h3, h4⟩ := lateL_most (y := z) (fun r' hr => hs r' (List.mem_cons_of_mem _ hr)) (h.2.2.mono h2)
    refine ⟨q ++ [z], ?_, by rw [List.reverse_append]; exact ⟨h2, h4⟩⟩
    unfold lateL
    rw [h1]
    simp only [h3, Option.map_some]
/-! ### both ways alike -/
/-- a reading: one year of each row, each later than the one before -/
structure Rdg (rs : List (List Nat)) (xs : List Nat) : Prop where
  len : xs.length = rs.length
  mem : ∀ (i : Nat) (r : List Nat) (x : Nat), rs[i]? = some r → xs[i]? = some x → x ∈ r
  inc : xs.Pairwise (· < ·)
theorem up_iff : ∀ {rs : List (List Nat)} {y : Nat} {xs : List Nat}, Up rs y xs ↔ Rdg rs xs ∧ ∀ x ∈ xs, y ≤ x
  | [], y, [] => ⟨fun _ => ⟨⟨rfl, fun i r x h => by simp at h, .nil⟩, fun x h => by cases h⟩, fun _ => trivial⟩
  | [], _, _ :: _ => ⟨fun h => h.elim, fun h => by have := h.1.len; simp at this⟩
  | _ :: _, _, [] => ⟨fun h => h.elim, fun h => by have := h.1.len; simp at this⟩
  | r :: rs, y, x :: xs => by
    have ih := up_iff (rs := rs) (y := x + 1) (xs := xs)
    constructor
    · rintro ⟨h1, h2, h3⟩
      obtain ⟨g, b⟩ := ih.mp h3
      refine ⟨⟨by rw [List.length_cons, List.length_cons, g.len], fun i r' x' hr hx => ?_, List.pairwise_cons.mpr ⟨fun z hz => by have := b z hz; omega, g.inc⟩⟩, fun z hz => ?_⟩
      · cases i with
        | zero => cases hr; cases hx; exact h1
        | succ i => exact g.mem i r' x' (by simpa using hr) (by simpa using hx)
      · rcases List.mem_cons.mp hz with e | e
        · omega
        · have := b z e; omega
    · rintro ⟨g, b⟩
      have hi := List.pairwise_cons.mp g.inc
      refine ⟨g.mem 0 r x rfl rfl, b x List.mem_cons_self, ih.mpr ⟨⟨?_, fun i r' x' hr hx => g.mem (i + 1) r' x' (by simpa using hr) (by simpa using hx), hi.2⟩, fun z hz => hi.1 z hz⟩⟩
      have := g.len
      simpa using this
theorem dn_iff : ∀ {rs : List (List Nat)} {y : Nat} {xs : List Nat}, Dn rs y xs ↔ (xs.length = rs.length ∧ (∀ (i : Nat) (r : List Nat) (x : Nat), rs[i]? = some r → xs[i]? = some x → x ∈ r) ∧ xs.Pairwise (· > ·)) ∧ ∀ x ∈ xs, x < y
  | [], y, [] => ⟨fun _ => ⟨⟨rfl, fun i r x h => by simp at h, .nil⟩, fun x h => by cases h⟩, fun _ => trivial⟩
  | [], _, _ :: _ => ⟨fun h => h.elim, fun h => by have := h.1.1; simp at this⟩
  | _ :: _, _, [] => ⟨fun h => h.elim, fun h => by have := h.1.1; simp at this⟩
  | r :: rs, y, x :: xs => by
    have ih := dn_iff (rs := rs) (y := x) (xs := xs)
    constructor
    · rintro ⟨h1, h2, h3⟩
      obtain ⟨⟨g1, g2, g3⟩, b⟩ := ih.mp h3
      refine ⟨⟨by rw [List.length_cons, List.length_cons, g1], fun i r' x' hr hx => ?_, List.pairwise_cons.mpr ⟨fun z hz => b z hz, g3⟩⟩, fun z hz => ?_⟩
      · cases i with
        | zero => cases hr; cases hx; exact h1
        | succ i => exact g2 i r' x' (by simpa using hr) (by simpa using hx)
      · rcases List.mem_cons.mp hz with e | e
        · omega
        · have := b z e; omega
    · rintro ⟨⟨g1, g2, g3⟩, b⟩
      have hi := List.pairwise_cons.mp g3
      refine ⟨g2 0 r x rfl rfl, b x List.mem_cons_self, ih.mpr ⟨⟨?_, fun i r' x' hr hx => g2 (i + 1) r' x' (by simpa using hr) (by simpa using hx), hi.2⟩, fun z hz => hi.1 z hz⟩⟩
      simpa using g1
theorem dn_rdg {rs : List (List Nat)} {y : Nat} {xs : List Nat} : Dn rs.reverse y xs.reverse ↔ Rdg rs xs ∧ ∀ x ∈ xs, x < y := by
  rw [dn_iff]
  constructor
  · rintro ⟨⟨g1, g2, g3⟩, b⟩
    have hl : xs.length = rs.length := by simpa using g1
    refine ⟨⟨hl, fun i r x hr hx => ?_, List.pairwise_reverse.mp g3⟩, fun x hx => b x (List.mem_reverse.mpr hx)⟩
    have hi : i < xs.length := (List.getElem?_eq_some_iff.mp hx).1
    refine g2 (xs.length - 1 - i) r x ?_ ?_
    · rw [List.getElem?_reverse (by omega), ← hl]
      have : xs.length - 1 - (xs.length - 1 - i) = i := by omega
      rw [this]; exact hr
    · rw [List.getElem?_reverse (by omega)]
      have : xs.length - 1 - (xs.length - 1 - i) = i := by omega
      rw [this]; exact hx
  · rintro ⟨g, b⟩
    refine ⟨⟨by simpa using g.len, fun i r x hr hx => ?_, List.pairwise_reverse.mpr g.inc⟩, fun x hx => b x (List.mem_reverse.mp hx)⟩
    have hi : i < xs.length := by
      have := (List.getElem?_eq_some_iff.mp hx).1
      simpa using this
    rw [List.getElem?_reverse (by rw [← g.len]; exact hi)] at hr
    rw [List.getElem?_reverse hi] at hx
    rw [← g.len] at hr
    exact g.mem _ r x hr hx
theorem Le.get : ∀ {xs ys : List Nat}, Le xs ys → ∀ (i : Nat) (x y : Nat), xs[i]? = some x → ys[i]? = some y → x ≤ y
  | [], [], _, i, x, y, h, _ => by simp at h
  | _ :: _, _ :: _, h, 0, x, y, hx, hy => by cases hx; cases hy; exact h.1
  | _ :: _, _ :: _, h, i + 1, x, y, hx, hy => h.2.get i x y (by simpa using hx) (by simpa using hy)
  | [], _ :: _, h, _, _, _, _, _ => h.elim
  | _ :: _, [], h, _, _, _, _, _ => h.elim
theorem Le.length : ∀ {xs ys : List Nat}, Le xs ys → xs.length = ys.length
  | [], [], _ => rfl
  | _ :: _, _ :: _, h => by rw [List.length_cons, List.length_cons, h.2.length]
  | [], _ :: _, h => h.elim
  | _ :: _, [], h => h.elim
/-- the soonest and the latest of rows whose years are all at most e -/
structure Ends (rs : List (List Nat)) (e : Nat) : Prop where
  so : ∀ r ∈ rs, r.Pairwise (· < ·)
  le : ∀ r ∈ rs, ∀ x ∈ r, x ≤ e
theorem Rdg.le {rs : List (List Nat)} {xs : List Nat} {e : Nat} (g : Rdg rs xs) (E : Ends rs e) : ∀ x ∈ xs, x < e + 1 := fun x hx => by
  obtain ⟨i, hi⟩ := List.getElem?_of_mem hx
  have hl : i < rs.length := by rw [← g.len]; exact (List.getElem?_eq_some_iff.mp hi).1
  have hr : rs[i]? = some rs[i] := List.getElem?_eq_getElem hl
  have := E.le _ (List.getElem_mem hl) x (g.mem i _ x hr hi)
  omega
theorem soon_rdg {rs : List (List Nat)} {q : List Nat} (h : soonL rs 0 = some q) : Rdg rs q := (up_iff.mp (soonL_up h)).1
theorem late_rdg {rs : List (List Nat)} {e : Nat} {q : List Nat} (h : lateL rs.reverse e = some q) : Rdg rs q := (dn_rdg.mp (lateL_dn h)).1
theorem rdg_soon {rs : List (List Nat)} {e : Nat} {xs : List Nat} (E : Ends rs e) (g : Rdg rs xs) : ∃ q, soonL rs 0 = some q ∧ ∀ (i : Nat) (x y : Nat), q[i]? = some x → xs[i]? = some y → x ≤ y := by
  obtain ⟨q, h1, h2⟩ := soonL_least E.so (up_iff.mpr ⟨g, fun x _ => Nat.zero_le x⟩)
  exact ⟨q, h1, h2.get⟩
theorem rdg_late {rs : List (List Nat)} {e : Nat} {xs : List Nat} (E : Ends rs e) (g : Rdg rs xs) : ∃ q, lateL rs.reverse (e + 1) = some q ∧ ∀ (i : Nat) (x y : Nat), xs[i]? = some x → q[i]? = some y → x ≤ y := by
  obtain ⟨q, h1, h2⟩ := lateL_most (rs := rs.reverse) (fun r hr => E.so r (List.mem_reverse.mp hr)) (dn_rdg.mpr ⟨g, g.le E⟩)
  refine ⟨q, h1, fun i x y hx hy => ?_⟩
  have hl : xs.length = q.length := by simpa using h2.length
  have hi : i < xs.length := (List.getElem?_eq_some_iff.mp hx).1
  refine h2.get (xs.length - 1 - i) x y ?_ ?_
  · rw [List.getElem?_reverse (by omega)]
    have : xs.length - 1 - (xs.length - 1 - i) = i := by omega
    rw [this]; exact hx
  · rw [List.getElem?_reverse (by omega), ← hl]
    have : xs.length - 1 - (xs.length - 1 - i) = i := by omega
    rw [this]; exact hy
theorem none_both {rs : List (List Nat)} {e : Nat} (E : Ends rs e) : soonL rs 0 = none ↔ lateL rs.reverse (e + 1) = none := by
  constructor
  · intro h
    cases h2 : lateL rs.reverse (e + 1) with
    | none => rfl
    | some q =>
      obtain ⟨q', h3, _⟩ := rdg_soon E (late_rdg h2)
      rw [h] at h3; cases h3
  · intro h
    cases h2 : soonL rs 0 with
    | none => rfl
    | some q =>
      obtain ⟨q', h3, _⟩ := rdg_late E (soon_rdg h2)
      rw [h] at h3; cases h3
/-- between the soonest and the latest there's a reading, whichever of its years -/
theorem between {rs : List (List Nat)} {q p : List Nat} {i y s t : Nat} {r : List Nat} (gq : Rdg rs q) (gp : Rdg rs p) (hr : rs[i]? = some r) (hy : y ∈ r) (hq : q[i]? = some s) (hp : p[i]? = some t) (h1 : s ≤ y) (h2 : y ≤ t) :
    Rdg rs (q.take i ++ y :: p.drop (i + 1)) := by
  have hi : i < rs.length := (List.getElem?_eq_some_iff.mp hr).1
  have hiq : i < q.length := by rw [gq.len]; exact hi
  have hip : i < p.length := by rw [gp.len]; exact hi
  have hl : (q.take i).length = i := by rw [List.length_take]; omega
  refine ⟨?_, fun j r' x hr' hx => ?_, ?_⟩
  · rw [List.length_append, hl, List.length_cons, List.length_drop, gp.len]; omega
  · by_cases hj : j < i
    · rw [List.getElem?_append_left (by omega), List.getElem?_take_of_lt hj] at hx
      exact gq.mem j r' x hr' hx
    · rw [List.getElem?_append_right (by omega), hl] at hx
      by_cases hj2 : j = i
      · subst hj2
        rw [Nat.sub_self] at hx
        rw [hr] at hr'
        cases hr'; cases hx
        exact hy
      · have e : j - i = (j - i - 1) + 1 := by omega
        rw [e, List.getElem?_cons_succ, List.getElem?_drop] at hx
        have e2 : i + 1 + (j - i - 1) = j := by omega
        rw [e2] at hx
        exact gp.mem j r' x hr' hx
  · have iq := List.pairwise_iff_getElem.mp gq.inc
    have ip := List.pairwise_iff_getElem.mp gp.inc
    have es : q[i] = s := (List.getElem?_eq_some_iff.mp hq).2
    have et : p[i] = t := (List.getElem?_eq_some_iff.mp hp).2
    rw [List.pairwise_append, List.pairwise_cons]
    have lowq : ∀ x ∈ q.take i, x < s := fun x hx => by
      obtain ⟨j, hj⟩ := List.getElem?_of_mem hx
      have hj2 : j < i := by
        have := (List.getElem?_eq_some_iff.mp hj).1
        omega
      rw [List.getElem?_take_of_lt hj2] at hj
      have := iq j i (by omega) hiq hj2
      rw [(List.getElem?_eq_some_iff.mp hj).2, es] at this
      exact this
    have highp : ∀ x ∈ p.drop (i + 1), t < x := fun x hx => by
      obtain ⟨j, hj⟩ := List.getElem?_of_mem hx
      rw [List.getElem?_drop] at hj
      have hj2 : i + 1 + j < p.length := (List.getElem?_eq_some_iff.mp hj).1
      have := ip i (i + 1 + j) hip hj2 (by omega)
      rw [(List.getElem?_eq_some_iff.mp hj).2, et] at this
      exact this
    refine ⟨List.Pairwise.sublist (List.take_sublist _ _) gq.inc, ⟨fun x hx => by have := highp x hx; omega, List.Pairwise.sublist (List.drop_sublist _ _) gp.inc⟩, fun x hx z hz => ?_⟩
    have h3 := lowq x hx
    rcases List.mem_cons.mp hz with e | e
    · omega
    · have := highp z e; omega
/-- with the row of i made the one year y -/
theorem set_rdg {rs : List (List Nat)} {i y : Nat} {r xs : List Nat} (hr : rs[i]? = some r) : Rdg (rs.set i [y]) xs ↔ (xs[i]? = some y ∧ xs.length = rs.length ∧ (∀ (j : Nat) (r : List Nat) (x : Nat), j ≠ i → rs[j]? = some r → xs[j]? = some x → x ∈ r) ∧ xs.Pairwise (· < ·)) := by
  have hi : i < rs.length := (List.getElem?_eq_some_iff.mp hr).1
  constructor
  · intro g
    have hl : xs.length = rs.length := by have := g.len; rwa [List.length_set] at this
    have hx : xs[i]? = some (xs[i]'(by omega)) := List.getElem?_eq_getElem _
    have := g.mem i [y] _ (List.getElem?_set_self hi) hx
    rw [List.mem_singleton] at this
    rw [this] at hx
    exact ⟨hx, hl, fun j r' x hj hr' hx' => g.mem j r' x (by rw [List.getElem?_set_ne (Ne.symm hj)]; exact hr') hx', g.inc⟩
  · rintro ⟨h1, h2, h3, h4⟩
    refine ⟨by rw [List.length_set]; exact h2, fun j r' x hr' hx' => ?_, h4⟩
    by_cases hj : i = j
    · subst hj
      rw [List.getElem?_set_self hi] at hr'
      cases hr'
      rw [h1] at hx'
      cases hx'
      exact List.mem_singleton.mpr rfl
    · rw [List.getElem?_set_ne hj] at hr'
      exact h3 j r' x (Ne.symm hj) hr' hx'
/-- an entry may be in the year y of its row just if that lies from the soonest to the latest -/
theorem could_iff {rs : List (List Nat)} {e i y : Nat} {r : List Nat} (E : Ends rs e) (hr : rs[i]? = some r) (hy : y ∈ r) :
    soonL (rs.set i [y]) 0 ≠ none ↔ ∃ q p s t, soonL rs 0 = some q ∧ lateL rs.reverse (e + 1) = some p ∧ q[i]? = some s ∧ p[i]? = some t ∧ s ≤ y ∧ y ≤ t := by
  have hi : i < rs.length := (List.getElem?_eq_some_iff.mp hr).1
  constructor
  · intro h
    cases h2 : soonL (rs.set i [y]) 0 with
    | none => exact absurd h2 h
    | some xs =>
      obtain ⟨g1, g2, g3, g4⟩ := (set_rdg hr).mp (soon_rdg h2)
      have g : Rdg rs xs := ⟨g2, fun j r' x hr' hx => by
        by_cases hj : j = i
        · subst hj
          rw [hr] at hr'; cases hr'
          rw [g1] at hx; cases hx
          exact hy
        · exact g3 j r' x hj hr' hx, g4⟩
      obtain ⟨q, q1, q2⟩ := rdg_soon E g
      obtain ⟨p, p1, p2⟩ := rdg_late E g
      have lq := (soon_rdg q1).len
      have lp := (late_rdg p1).len
      exact ⟨q, p, q[i]'(by omega), p[i]'(by omega), q1, p1, List.getElem?_eq_getElem _, List.getElem?_eq_getElem _, q2 i _ y (List.getElem?_eq_getElem _) g1, p2 i y _ g1 (List.getElem?_eq_getElem _)⟩
  · rintro ⟨q, p, s, t, q1, p1, hq, hp, h1, h2⟩
    have g := between (soon_rdg q1) (late_rdg p1) hr hy hq hp h1 h2
    have g' : Rdg (rs.set i [y]) (q.take i ++ y :: p.drop (i + 1)) := by
      refine (set_rdg hr).mpr ⟨?_, g.len, fun j r' x _ hr' hx => g.mem j r' x hr' hx, g.inc⟩
      have hl : (q.take i).length = i := by rw [List.length_take, (soon_rdg q1).len]; omega
      rw [List.getElem?_append_right (by omega), hl, Nat.sub_self]
      rfl
    intro h3
    have E' : Ends (rs.set i [y]) e := by
      refine ⟨fun r' h => ?_, fun r' h x hx => ?_⟩
      · rcases List.mem_or_eq_of_mem_set h with h | h
        · exact E.so r' h
        · subst h; exact List.pairwise_singleton _ _
      · rcases List.mem_or_eq_of_mem_set h with h | h
        · exact E.le r' h x hx
        · subst h
          rw [List.mem_singleton.mp hx]
          exact E.le r (List.mem_of_getElem? hr) y hy
    obtain ⟨_, h4, _⟩ := rdg_soon E' g'
    rw [h3] at h4; cases h4
/-! ### of the object's own rows -/
theorem rows_ends (b : Book) : Ends (rows b) b.last := by
  refine ⟨fun r hr => ?_, fun r hr x hx => ?_⟩
  · obtain ⟨e, _, rfl⟩ := List.mem_map.mp hr
    exact years_sorted b e
  · obtain ⟨e, _, rfl⟩ := List.mem_map.mp hr
    exact (years_le hx).2
theorem rows_set (b : Book) (i : Nat) (e : Entry) : rows (b.set i e) = (rows b).set i (b.years e) := by
  unfold rows Book.set
  rw [List.map_set]
  rfl
theorem years_fit {b : Book} {e : Entry} {y : Nat} (h : b.fits e y = true) : b.years { e with known := some y } = [y] := by
  have h' := fits_iff.mp h
  rw [years_known (e := { e with known := some y }) rfl h'.1 h'.2.2.1 h'.2.2.2.1, if_pos h'.2.1]
end RyM

/-! So many readings as are told. -/
namespace RyM
open Km498
/-- all readings from y on -/
def allUp : List (List Nat) → Nat → List (List Nat)
  | [], _ => [[]]
  | r :: rs, y => (r.filter fun x => decide (y ≤ x)).flatMap fun x => (allUp rs (x + 1)).map fun q => x :: q
theorem mem_allUp : ∀ {rs : List (List Nat)} {y : Nat} {xs : List Nat}, xs ∈ allUp rs y ↔ Up rs y xs
  | [], _, [] => ⟨fun _ => trivial, fun _ => List.mem_singleton.mpr rfl⟩
  | [], _, _ :: _ => ⟨fun h => (by cases List.mem_singleton.mp h), fun h => h.elim⟩
  | r :: rs, y, [] => by
    refine ⟨fun h => ?_, fun h => h.elim⟩
    obtain ⟨x, _, h⟩ := List.mem_flatMap.mp h
    obtain ⟨q, _, h⟩ := List.mem_map.mp h
    cases h
  | r :: rs, y, x :: xs => by
    constructor
    · intro h
      obtain ⟨z, hz, h⟩ := List.mem_flatMap.mp h
      obtain ⟨q, hq, h⟩ := List.mem_map.mp h
      cases h
      rw [List.mem_filter, decide_eq_true_eq] at hz
      exact ⟨hz.1, hz.2, mem_allUp.mp hq⟩
    · rintro ⟨h1, h2, h3⟩
      exact List.mem_flatMap.mpr ⟨x, List.mem_filter.mpr ⟨h1, decide_eq_true h2⟩, List.mem_map.mpr ⟨xs, mem_allUp.mpr h3, rfl⟩⟩
theorem nodup_heads {g : Nat → List (List Nat)} : ∀ {l : List Nat}, l.Pairwise (· < ·) → (∀ x, (g x).Nodup) → (l.flatMap fun x => (g x).map fun q => x :: q).Nodup
  | [], _, _ => by simp
  | a :: l, hl, hg => by
    rw [List.pairwise_cons] at hl
    rw [List.flatMap_cons, List.nodup_append]
    refine ⟨?_, nodup_heads hl.2 hg, fun u hu v hv e => ?_⟩
    · exact List.Pairwise.map _ (fun x y h z => h (by injection z)) (hg a)
    · obtain ⟨q, _, rfl⟩ := List.mem_map.mp hu
      obtain ⟨x, hx, hv⟩ := List.mem_flatMap.mp hv
      obtain ⟨q', _, rfl⟩ := List.mem_map.mp hv
      injection e with e _
      have := hl.1 x hx
      omega
theorem allUp_nodup : ∀ {rs : List (List Nat)}, (∀ r ∈ rs, r.Pairwise (· < ·)) → ∀ y : Nat, (allUp rs y).Nodup
  | [], _, _ => by simp [allUp]
  | r :: rs, hs, y => nodup_heads ((hs r List.mem_cons_self).filter _) fun x => allUp_nodup (fun r' h => hs r' (List.mem_cons_of_mem _ h)) (x + 1)
def num (rs : List (List Nat)) (y : Nat) : Nat := (allUp rs y).length
theorem num_cons (r : List Nat) (rs : List (List Nat)) (y : Nat) : num (r :: rs) y = ((r.filter fun x => decide (y ≤ x)).map fun x => num rs (x + 1)).sum := by
  unfold num
  show ((r.filter fun x => decide (y ≤ x)).flatMap fun x => (allUp rs (x + 1)).map fun q => x :: q).length = _
  rw [List.length_flatMap]
  simp only [List.length_map]
/-- what is counted: the ways so far times what can still follow -/
def weigh (rs : List (List Nat)) : List Int → List Nat → Nat
  | z :: zs, w :: ws => w * num rs (z + 1).toNat + weigh rs zs ws
  | _, _ => 0
theorem weigh_nil : ∀ (zs : List Int) (ws : List Nat), zs.length = ws.length → weigh [] zs ws = ws.sum
  | [], [], _ => rfl
  | [], _ :: _, h => by cases h
  | _ :: _, [], h => by cases h
  | z :: zs, w :: ws, h => by
    unfold weigh
    rw [weigh_nil zs ws (by simpa using h), List.sum_cons]
    show w * 1 + _ = _
    rw [Nat.mul_one]
theorem weigh_map (rs : List (List Nat)) (g : Nat → Nat) : ∀ r : List Nat, weigh rs (r.map fun (x : Nat) => (x : Int)) (r.map g) = (r.map fun x => g x * num rs (x + 1)).sum
  | [] => rfl
  | x :: r => by
    rw [List.map_cons, List.map_cons, List.map_cons, List.sum_cons, ← weigh_map rs g r]
    rfl
theorem sum_add (r : List Nat) (f g : Nat → Nat) : (r.map fun x => f x + g x).sum = (r.map f).sum + (r.map g).sum := by
  induction r with
  | nil => rfl
  | cons x r ih => rw [List.map_cons, List.map_cons, List.map_cons, List.sum_cons, List.sum_cons, List.sum_cons, ih]; omega
theorem sum_pick (r : List Nat) (w : Nat) (p : Nat → Bool) (f : Nat → Nat) : (r.map fun x => (if p x = true then w else 0) * f x).sum = w * ((r.filter p).map f).sum := by
  induction r with
  | nil => rfl
  | cons x r ih =>
    rw [List.map_cons, List.sum_cons, ih, List.filter_cons]
    by_cases h : p x = true
    · rw [if_pos h, if_pos h, List.map_cons, List.sum_cons, Nat.mul_add]
    · rw [if_neg h, if_neg h, Nat.zero_mul, Nat.zero_add]
theorem weigh_cons (r : List Nat) (rs : List (List Nat)) : ∀ (zs : List Int) (ws : List Nat), (∀ z ∈ zs, -1 ≤ z) → weigh rs (r.map fun (x : Nat) => (x : Int)) (wayZ zs ws r) = weigh (r :: rs) zs ws
  | [], ws, _ => by
    unfold wayZ
    rw [weigh_map]
    have e : (r.map fun (x : Nat) => ((((([] : List Int).zip ws).filter fun p => decide (p.1 < (x : Int))).map fun p => p.2).sum) * num rs (x + 1)) = r.map fun _ => 0 := by
      refine List.map_congr_left fun x _ => ?_
      show 0 * _ = 0
      rw [Nat.zero_mul]
    rw [e]
    show (r.map fun _ => 0).sum = 0
    induction r with
    | nil => rfl
    | cons x r ih => rw [List.map_cons, List.sum_cons, ih (by refine List.map_congr_left fun x _ => ?_; show 0 * _ = 0; rw [Nat.zero_mul])]
  | z :: zs, [], _ => by
    unfold wayZ
    rw [weigh_map]
    have e : (r.map fun (x : Nat) => (((((z :: zs : List Int).zip ([] : List Nat)).filter fun p => decide (p.1 < (x : Int))).map fun p => p.2).sum) * num rs (x + 1)) = r.map fun _ => 0 := by
      refine List.map_congr_left fun x _ => ?_
      show 0 * _ = 0
      rw [Nat.zero_mul]
    rw [e]
    show (r.map fun _ => 0).sum = 0
    clear e
    induction r with
    | nil => rfl
    | cons x r ih => rw [List.map_cons, List.sum_cons, ih]
  | z :: zs, w :: ws, hz => by
    have ih := weigh_cons r rs zs ws fun z' h => hz z' (List.mem_cons_of_mem _ h)
    have hz0 := hz z List.mem_cons_self
    show _ = w * num (r :: rs) (z + 1).toNat + weigh (r :: rs) zs ws
    rw [← ih, num_cons]
    unfold wayZ
    rw [weigh_map, weigh_map, ← sum_pick, ← sum_add]
    refine congrArg List.sum (List.map_congr_left fun x _ => ?_)
    rw [List.zip_cons_cons, List.filter_cons]
    by_cases h : z < (x : Int)
    · rw [if_pos (by simpa using h), if_pos (decide_eq_true (by omega)), List.map_cons, List.sum_cons, Nat.add_mul]
    · rw [if_neg (by simpa using h), if_neg (by rw [decide_eq_true_eq]; omega), Nat.zero_mul, Nat.zero_add]
theorem countZ_weigh : ∀ (rs : List (List Nat)) (zs : List Int) (ws : List Nat), zs.length = ws.length → (∀ z ∈ zs, -1 ≤ z) → countZ rs zs ws = weigh rs zs ws
  | [], zs, ws, h, _ => (weigh_nil zs ws h).symm
  | r :: rs, zs, ws, h, hz => by
    show countZ rs (r.map fun (x : Nat) => (x : Int)) (wayZ zs ws r) = _
    rw [countZ_weigh rs _ _ (by rw [wayZ_length, List.length_map]) (fun z hz => by obtain ⟨x, _, rfl⟩ := List.mem_map.mp hz; omega), weigh_cons r rs zs ws hz]
theorem count_num (b : Book) : b.count = num (rows b) 0 := by
  rw [count_rows, countZ_weigh _ _ _ rfl (by intro z h; cases List.mem_singleton.mp h; decide)]
  show 1 * num (rows b) 0 + 0 = _
  omega
theorem count_zero (b : Book) : b.count = 0 ↔ b.first_ = none := by
  rw [count_num, first_eq]
  unfold num
  rw [List.length_eq_zero_iff]
  constructor
  · intro h
    cases e : soonL (rows b) 0 with
    | none => rfl
    | some q =>
      have := mem_allUp.mpr (soonL_up e)
      rw [h] at this; cases this
  · intro h
    cases e : allUp (rows b) 0 with
    | nil => rfl
    | cons q l =>
      have h1 : q ∈ allUp (rows b) 0 := by rw [e]; exact List.mem_cons_self
      obtain ⟨q', h2, _⟩ := soonL_least (rows_ends b).so (mem_allUp.mp h1)
      rw [h] at h2; cases h2
theorem rdg_ext {xs ys : List Nat} (hl : xs.length = ys.length) (h : ∀ (i : Nat) (x y : Nat), xs[i]? = some x → ys[i]? = some y → x = y) : xs = ys := by
  refine List.ext_getElem? fun i => ?_
  by_cases hi : i < xs.length
  · have h1 : xs[i]? = some xs[i] := List.getElem?_eq_getElem hi
    have h2 : ys[i]? = some (ys[i]'(by omega)) := List.getElem?_eq_getElem _
    rw [h1, h2, h i _ _ h1 h2]
  · rw [List.getElem?_eq_none (by omega), List.getElem?_eq_none (by omega)]
/-- just one reading just if the soonest is the latest -/
theorem count_one {b : Book} {q p : List Nat} (hq : b.first_ = some q) (hp : b.last_ = some p) : b.count = 1 ↔ q = p := by
  rw [first_eq] at hq
  rw [last_eq] at hp
  rw [count_num]
  unfold num
  have E := rows_ends b
  have mq : q ∈ allUp (rows b) 0 := mem_allUp.mpr (soonL_up hq)
  have mp : p ∈ allUp (rows b) 0 := mem_allUp.mpr (up_iff.mpr ⟨late_rdg hp, fun x _ => Nat.zero_le x⟩)
  constructor
  · intro h
    obtain ⟨z, hz⟩ := List.length_eq_one_iff.mp h
    rw [hz] at mq mp
    rw [List.mem_singleton.mp mq, List.mem_singleton.mp mp]
  · intro e
    subst e
    have all : ∀ xs ∈ allUp (rows b) 0, xs = q := fun xs hx => by
      have g := (up_iff.mp (mem_allUp.mp hx)).1
      obtain ⟨q', h1, h2⟩ := rdg_soon E g
      obtain ⟨p', h3, h4⟩ := rdg_late E g
      rw [hq] at h1; cases h1
      rw [hp] at h3; cases h3
      refine rdg_ext (by rw [g.len, (soon_rdg hq).len]) fun i x y hx hy => ?_
      have := h2 i y x hy hx
      have := h4 i x y hx hy
      omega
    have nd := allUp_nodup E.so 0
    cases e1 : allUp (rows b) 0 with
    | nil => rw [e1] at mq; cases mq
    | cons u l =>
      cases l with
      | nil => rfl
      | cons v l =>
        rw [e1] at nd all
        have h1 := all u List.mem_cons_self
        have h2 := all v (List.mem_cons_of_mem _ List.mem_cons_self)
        rw [List.nodup_cons] at nd
        exact absurd (by rw [h1, h2]; exact List.mem_cons_self) nd.1
end RyM

/-! Spans: of each entry its soonest and its latest year. -/
namespace RyM
open Km498
def spansL (rs : List (List Nat)) (e : Nat) : Option (List (Nat × Nat)) := match soonL rs 0, lateL rs.reverse (e + 1) with
  | some q, some p => some (q.zip p)
  | _, _ => none
def spansOf (b : Book) : Option (List (Nat × Nat)) := spansL (rows b) b.last
theorem spans_none {b : Book} (h : spansOf b = none) : b.first_ = none ∧ b.last_ = none := by
  unfold spansOf spansL at h
  rw [first_eq, last_eq]
  have nb := none_both (rows_ends b)
  cases e1 : soonL (rows b) 0 with
  | none => exact ⟨rfl, nb.mp e1⟩
  | some q =>
    cases e2 : lateL (rows b).reverse (b.last + 1) with
    | none => rw [nb.mpr e2] at e1; cases e1
    | some p => rw [e1, e2] at h; cases h
theorem spans_some {b : Book} {ss : List (Nat × Nat)} (h : spansOf b = some ss) : ∃ q p, soonL (rows b) 0 = some q ∧ lateL (rows b).reverse (b.last + 1) = some p ∧ ss = q.zip p ∧ Rdg (rows b) q ∧ Rdg (rows b) p := by
  unfold spansOf spansL at h
  cases e1 : soonL (rows b) 0 with
  | none => rw [e1] at h; cases h
  | some q =>
    cases e2 : lateL (rows b).reverse (b.last + 1) with
    | none => rw [e1, e2] at h; cases h
    | some p =>
      rw [e1, e2] at h
      cases h
      exact ⟨q, p, rfl, rfl, rfl, soon_rdg e1, late_rdg e2⟩
theorem rows_len (b : Book) : (rows b).length = b.entries.length := List.length_map _
theorem spans_length {b : Book} {ss : List (Nat × Nat)} (h : spansOf b = some ss) : ss.length = b.entries.length := by
  obtain ⟨q, p, _, _, rfl, g1, g2⟩ := spans_some h
  rw [List.length_zip, g1.len, g2.len, rows_len, Nat.min_self]
theorem getD_of {l : List Nat} {i x : Nat} (h : l[i]? = some x) : l.getD i 0 = x := by
  rw [List.getD_eq_getElem?_getD, h]; rfl
theorem span_at {b : Book} {ss : List (Nat × Nat)} {i : Nat} (h : spansOf b = some ss) (hi : i < b.entries.length) : ∃ s t, ss[i]? = some (s, t) ∧ b.range_ i = some (s, t) ∧ s ≤ t := by
  obtain ⟨q, p, e1, e2, rfl, g1, g2⟩ := spans_some h
  have l1 : i < q.length := by rw [g1.len, rows_len]; exact hi
  have l2 : i < p.length := by rw [g2.len, rows_len]; exact hi
  have h1 : q[i]? = some q[i] := List.getElem?_eq_getElem l1
  have h2 : p[i]? = some p[i] := List.getElem?_eq_getElem l2
  refine ⟨q[i], p[i], ?_, ?_, ?_⟩
  · rw [List.getElem?_zip_eq_some]
    exact ⟨h1, h2⟩
  · unfold Book.range_
    rw [first_eq, last_eq, e1, e2]
    show some (q.getD i 0, p.getD i 0) = _
    rw [getD_of h1, getD_of h2]
  · obtain ⟨q', e3, h3⟩ := rdg_soon (rows_ends b) g2
    rw [e1] at e3
    cases e3
    exact h3 i _ _ h1 h2
theorem span_inc {b : Book} {ss : List (Nat × Nat)} {i j : Nat} {x y : Nat × Nat} (h : spansOf b = some ss) (hij : i < j) (hx : ss[i]? = some x) (hy : ss[j]? = some y) : x.1 < y.1 := by
  obtain ⟨q, p, e1, e2, rfl, g1, g2⟩ := spans_some h
  obtain ⟨x1, x2⟩ := x
  obtain ⟨y1, y2⟩ := y
  rw [List.getElem?_zip_eq_some] at hx hy
  have l1 := (List.getElem?_eq_some_iff.mp hx.1)
  have l2 := (List.getElem?_eq_some_iff.mp hy.1)
  obtain ⟨a1, b1⟩ := l1
  obtain ⟨a2, b2⟩ := l2
  have := List.pairwise_iff_getElem.mp g1.inc i j a1 a2 hij
  dsimp only at b1 b2 ⊢
  omega
theorem range_none {b : Book} {i : Nat} (h : spansOf b = none) : b.range_ i = none := by
  unfold Book.range_
  rw [(spans_none h).1]
theorem first_some {b : Book} {ss : List (Nat × Nat)} (h : spansOf b = some ss) : b.first_ ≠ none := by
  obtain ⟨q, p, e1, e2, rfl, g1, g2⟩ := spans_some h
  rw [first_eq, e1]
  intro z; cases z
/-! ### just one -/
theorem zip_same : ∀ {q p : List Nat}, q.length = p.length → (((q.zip p).all fun z => decide (z.1 = z.2)) = true ↔ q = p)
  | [], [], _ => ⟨fun _ => rfl, fun _ => rfl⟩
  | [], _ :: _, h => by cases h
  | _ :: _, [], h => by cases h
  | x :: q, y :: p, h => by
    have ih := zip_same (q := q) (p := p) (by simpa using h)
    rw [List.zip_cons_cons, List.all_cons, Bool.and_eq_true, ih, decide_eq_true_eq]
    constructor
    · rintro ⟨e1, e2⟩; dsimp only at e1; rw [e1, e2]
    · intro e; injection e with e1 e2; exact ⟨e1, e2⟩
theorem one_none {d : Desk} (h : spansOf d.now = none) : act d .one = (d, only (-33)) := by
  have e := spans_none h
  show (d, match d.now.first_, d.now.last_ with | some r, some q => only (if r = q then 1 else 0) | _, _ => only (-33)) = _
  rw [e.1]
theorem one_some {d : Desk} {ss : List (Nat × Nat)} (h : spansOf d.now = some ss) : act d .one = (d, only (if (ss.all fun z => decide (z.1 = z.2)) = true then 1 else 0)) := by
  obtain ⟨q, p, e1, e2, rfl, g1, g2⟩ := spans_some h
  show (d, match d.now.first_, d.now.last_ with | some r, some q => only (if r = q then 1 else 0) | _, _ => only (-33)) = _
  rw [first_eq, last_eq, e1, e2]
  have z := zip_same (q := q) (p := p) (by rw [g1.len, g2.len])
  by_cases c : q = p
  · rw [if_pos (z.mpr c)]
    show (d, only (if q = p then 1 else 0)) = _
    rw [if_pos c]
  · rw [if_neg (fun w => c (z.mp w))]
    show (d, only (if q = p then 1 else 0)) = _
    rw [if_neg c]
/-! ### what's sure -/
def oneAt (b : Book) (i : Nat) : Bool := match b.range_ i with
  | none => false
  | some p => p.1 == p.2
def sureTo (b : Book) (i : Nat) : List Nat := (List.range i).filter (oneAt b)
theorem sureTo_yes {b : Book} {i : Nat} (h : oneAt b i = true) : sureTo b (i + 1) = sureTo b i ++ [i] := by
  unfold sureTo
  rw [List.range_succ, List.filter_append, List.filter_cons, if_pos h]
  rfl
theorem sureTo_no {b : Book} {i : Nat} (h : oneAt b i = false) : sureTo b (i + 1) = sureTo b i := by
  unfold sureTo
  rw [List.range_succ, List.filter_append, List.filter_cons, if_neg (by rw [h]; decide)]
  exact List.append_nil _
theorem bits_more (l : List Nat) (i : Nat) : bits (l ++ [i]) = bits l + 2 ^ i := by
  unfold bits
  rw [List.map_append, List.foldl_append]
  rfl
theorem sure_none {d : Desk} (h : spansOf d.now = none) : act d .sure = (d, only (-33)) := congrArg (Prod.mk d) (if_pos (spans_none h).1)
theorem sure_some {d : Desk} {ss : List (Nat × Nat)} (h : spansOf d.now = some ss) : act d .sure = (d, ⟨n2i (sureTo d.now d.now.entries.length).length, [bits (sureTo d.now d.now.entries.length)]⟩) := congrArg (Prod.mk d) (if_neg (first_some h))
theorem one_at {b : Book} {ss : List (Nat × Nat)} {i : Nat} {x : Nat × Nat} (h : spansOf b = some ss) (hx : ss[i]? = some x) : oneAt b i = decide (x.1 = x.2) := by
  have hi : i < b.entries.length := by rw [← spans_length h]; exact (List.getElem?_eq_some_iff.mp hx).1
  obtain ⟨s, t, h1, h2, _⟩ := span_at h hi
  rw [hx] at h1
  cases h1
  unfold oneAt
  rw [h2]
  exact Bool.eq_iff_iff.mpr (by rw [beq_iff_eq, decide_eq_true_eq])
/-! ### could be -/
theorem fits_mem {b : Book} {e : Entry} {y : Nat} : y ∈ b.years e ↔ b.fits e y = true := by
  rw [mem_years]
  exact ⟨fun h => h.2, fun h => ⟨(fits_iff.mp h).2.1, h⟩⟩
theorem could_first {b : Book} {i y : Nat} (hf : b.fits (b.e i) y = true) : (b.set i { b.e i with known := some y }).first_ = soonL ((rows b).set i [y]) 0 := by
  rw [first_eq, rows_set, years_fit hf]
theorem rows_at {b : Book} {i : Nat} (hi : i < b.entries.length) : (rows b)[i]? = some (b.years (b.e i)) := by
  unfold rows
  rw [List.getElem?_map, (e_mem hi).2]
  rfl
theorem could_none {b : Book} {i y : Nat} (hi : i < b.entries.length) (hf : b.fits (b.e i) y = true) (h : spansOf b = none) : (b.set i { b.e i with known := some y }).first_ = none := by
  rw [could_first hf]
  cases e : soonL ((rows b).set i [y]) 0 with
  | none => rfl
  | some z =>
    obtain ⟨q, p, s, t, e1, _⟩ := (could_iff (rows_ends b) (rows_at hi) (fits_mem.mpr hf)).mp (by rw [e]; intro z; cases z)
    have := (spans_none h).1
    rw [first_eq, e1] at this
    cases this
theorem could_some {b : Book} {i y s t : Nat} {ss : List (Nat × Nat)} (hi : i < b.entries.length) (hf : b.fits (b.e i) y = true) (h : spansOf b = some ss) (hx : ss[i]? = some (s, t)) : (b.set i { b.e i with known := some y }).first_ = none ↔ ¬ (s ≤ y ∧ y ≤ t) := by
  rw [could_first hf]
  have c := could_iff (rows_ends b) (rows_at hi) (fits_mem.mpr hf)
  obtain ⟨q, p, e1, e2, rfl, g1, g2⟩ := spans_some h
  rw [List.getElem?_zip_eq_some] at hx
  constructor
  · intro z w
    exact c.mpr ⟨q, p, s, t, e1, e2, hx.1, hx.2, w.1, w.2⟩ z
  · intro w
    cases e : soonL ((rows b).set i [y]) 0 with
    | none => rfl
    | some z =>
      obtain ⟨q', p', s', t', e1', e2', h1, h2, h3, h4⟩ := c.mp (by rw [e]; intro z; cases z)
      rw [e1] at e1'; cases e1'
      rw [e2] at e2'; cases e2'
      rw [hx.1] at h1; cases h1
      rw [hx.2] at h2; cases h2
      exact absurd ⟨h3, h4⟩ w
end RyM

set_option Elab.async false
set_option maxRecDepth 100000
set_option maxHeartbeats 2000000
namespace Ry
open PySem PySem.Spec PyProof.Rows L2
/-! ### the text by places -/
def top (i : Nat) : Stmt := PySem.Challenge.pw_reignyears_s01_answers.main.body.getD i (.Pass ⟨0, 0, 0, 0⟩)
abbrev s_History_init : Stmt := inClass (top 8) 0
abbrev s_History_note_change : Stmt := inClass (top 8) 1
abbrev s_History_take_back : Stmt := inClass (top 8) 2
abbrev s_History_do_again : Stmt := inClass (top 8) 3
abbrev s_Entry_init : Stmt := inClass (top 10) 0
abbrev s_Chronicle_init : Stmt := inClass (top 11) 0
abbrev s_Chronicle_begin : Stmt := inClass (top 11) 1
abbrev s_Chronicle_has_entry : Stmt := inClass (top 11) 2
abbrev s_Chronicle_state : Stmt := inClass (top 11) 3
abbrev s_Chronicle_return_to : Stmt := inClass (top 11) 4
abbrev s_Chronicle_change_entries : Stmt := inClass (top 11) 5
abbrev s_Chronicle_change_last_year : Stmt := inClass (top 11) 6
abbrev s_Chronicle_change_known : Stmt := inClass (top 11) 7
abbrev s_Chronicle_step_back : Stmt := inClass (top 11) 8
abbrev s_Chronicle_step_again : Stmt := inClass (top 11) 9
abbrev s_round_length : Stmt := top 19
abbrev s_year_name : Stmt := top 20
abbrev s_year_in_reign : Stmt := top 21
abbrev s_year_round : Stmt := top 22
abbrev s_told_years : Stmt := top 23
abbrev s_entry_years : Stmt := top 24
abbrev s_all_entry_years : Stmt := top 25
abbrev s_fits_as_last_year : Stmt := top 27
abbrev s_fits_as_start : Stmt := top 28
abbrev s_ny_start : Stmt := top 29
abbrev s_ny_tell : Stmt := top 30
abbrev s_ny_drop : Stmt := top 31
abbrev s_ny_know : Stmt := top 32
abbrev s_ny_forget : Stmt := top 33
abbrev s_ny_up_to : Stmt := top 34
abbrev s_ny_back : Stmt := top 35
abbrev s_ny_again : Stmt := top 36
abbrev s_ny_name : Stmt := top 38
abbrev s_ny_years : Stmt := top 39
abbrev s_ny_told : Stmt := top 40
abbrev s_ny_state : Stmt := top 41
abbrev s_Span_init : Stmt := inClass (top 43) 0
abbrev s_Span_is_one_year : Stmt := inClass (top 43) 1
abbrev s_first_later : Stmt := top 44
abbrev s_last_earlier : Stmt := top 45
abbrev s_soonest_reading : Stmt := top 46
abbrev s_latest_reading : Stmt := top 47
abbrev s_entry_spans : Stmt := top 48
abbrev s_ways_to_reach : Stmt := top 49
abbrev s_count_readings : Stmt := top 50
abbrev s_reading_answer : Stmt := top 53
abbrev s_all_spans : Stmt := top 54
abbrev s_ny_soonest : Stmt := top 55
abbrev s_ny_latest : Stmt := top 56
abbrev s_ny_count : Stmt := top 57
abbrev s_ny_sure : Stmt := top 58
abbrev s_ny_when : Stmt := top 59
abbrev s_ny_apart : Stmt := top 60
abbrev s_ny_one : Stmt := top 61
abbrev s_ny_rounds : Stmt := top 62
abbrev s_ny_could : Stmt := top 63
abbrev s_change_answer : Stmt := top 68
abbrev s_reading_question_answer : Stmt := top 69
abbrev s_question_answer : Stmt := top 70
abbrev s_call_answer : Stmt := top 71
abbrev s_answers : Stmt := top 72
abbrev n_History_init : List Str := ["self"]
abbrev p_History_init : List Str := ["self"]
theorem sc_History_init : FnScope n_History_init p_History_init (defScope s_History_init) := ⟨rfl, rfl, rfl, by decide +kernel, rfl, by decide +kernel, by decide +kernel⟩
abbrev n_History_note_change : List Str := ["self", "before", "kept"]
abbrev p_History_note_change : List Str := ["self", "before"]
theorem sc_History_note_change : FnScope n_History_note_change p_History_note_change (defScope s_History_note_change) := ⟨rfl, rfl, rfl, by decide +kernel, rfl, by decide +kernel, by decide +kernel⟩
abbrev n_History_take_back : List Str := ["self", "present"]
abbrev p_History_take_back : List Str := ["self", "present"]
theorem sc_History_take_back : FnScope n_History_take_back p_History_take_back (defScope s_History_take_back) := ⟨rfl, rfl, rfl, by decide +kernel, rfl, by decide +kernel, by decide +kernel⟩
abbrev n_History_do_again : List Str := ["self", "present"]
abbrev p_History_do_again : List Str := ["self", "present"]
theorem sc_History_do_again : FnScope n_History_do_again p_History_do_again (defScope s_History_do_again) := ⟨rfl, rfl, rfl, by decide +kernel, rfl, by decide +kernel, by decide +kernel⟩
abbrev n_Entry_init : List Str := ["self", "name", "reign_year", "known"]
abbrev p_Entry_init : List Str := ["self", "name", "reign_year", "known"]
theorem sc_Entry_init : FnScope n_Entry_init p_Entry_init (defScope s_Entry_init) := ⟨rfl, rfl, rfl, by decide +kernel, rfl, by decide +kernel, by decide +kernel⟩
abbrev n_Chronicle_init : List Str := ["self"]
abbrev p_Chronicle_init : List Str := ["self"]
theorem sc_Chronicle_init : FnScope n_Chronicle_init p_Chronicle_init (defScope s_Chronicle_init) := ⟨rfl, rfl, rfl, by decide +kernel, rfl, by decide +kernel, by decide +kernel⟩
abbrev n_Chronicle_begin : List Str := ["self", "reign_length", "name_total", "first_year", "last_year"]
abbrev p_Chronicle_begin : List Str := ["self", "reign_length", "name_total", "first_year", "last_year"]
theorem sc_Chronicle_begin : FnScope n_Chronicle_begin p_Chronicle_begin (defScope s_Chronicle_begin) := ⟨rfl, rfl, rfl, by decide +kernel, rfl, by decide +kernel, by decide +kernel⟩
abbrev n_Chronicle_has_entry : List Str := ["self", "i"]
abbrev p_Chronicle_has_entry : List Str := ["self", "i"]
theorem sc_Chronicle_has_entry : FnScope n_Chronicle_has_entry p_Chronicle_has_entry (defScope s_Chronicle_has_entry) := ⟨rfl, rfl, rfl, by decide +kernel, rfl, by decide +kernel, by decide +kernel⟩
abbrev n_Chronicle_state : List Str := ["self"]
abbrev p_Chronicle_state : List Str := ["self"]
theorem sc_Chronicle_state : FnScope n_Chronicle_state p_Chronicle_state (defScope s_Chronicle_state) := ⟨rfl, rfl, rfl, by decide +kernel, rfl, by decide +kernel, by decide +kernel⟩
abbrev n_Chronicle_return_to : List Str := ["self", "state"]
abbrev p_Chronicle_return_to : List Str := ["self", "state"]
theorem sc_Chronicle_return_to : FnScope n_Chronicle_return_to p_Chronicle_return_to (defScope s_Chronicle_return_to) := ⟨rfl, rfl, rfl, by decide +kernel, rfl, by decide +kernel, by decide +kernel⟩
abbrev n_Chronicle_change_entries : List Str := ["self", "entries"]
abbrev p_Chronicle_change_entries : List Str := ["self", "entries"]
theorem sc_Chronicle_change_entries : FnScope n_Chronicle_change_entries p_Chronicle_change_entries (defScope s_Chronicle_change_entries) := ⟨rfl, rfl, rfl, by decide +kernel, rfl, by decide +kernel, by decide +kernel⟩
abbrev n_Chronicle_change_last_year : List Str := ["self", "last_year"]
abbrev p_Chronicle_change_last_year : List Str := ["self", "last_year"]
theorem sc_Chronicle_change_last_year : FnScope n_Chronicle_change_last_year p_Chronicle_change_last_year (defScope s_Chronicle_change_last_year) := ⟨rfl, rfl, rfl, by decide +kernel, rfl, by decide +kernel, by decide +kernel⟩
abbrev n_Chronicle_change_known : List Str := ["self", "i", "known", "old", "new"]
abbrev p_Chronicle_change_known : List Str := ["self", "i", "known"]
theorem sc_Chronicle_change_known : FnScope n_Chronicle_change_known p_Chronicle_change_known (defScope s_Chronicle_change_known) := ⟨rfl, rfl, rfl, by decide +kernel, rfl, by decide +kernel, by decide +kernel⟩
abbrev n_Chronicle_step_back : List Str := ["self"]
abbrev p_Chronicle_step_back : List Str := ["self"]
theorem sc_Chronicle_step_back : FnScope n_Chronicle_step_back p_Chronicle_step_back (defScope s_Chronicle_step_back) := ⟨rfl, rfl, rfl, by decide +kernel, rfl, by decide +kernel, by decide +kernel⟩
abbrev n_Chronicle_step_again : List Str := ["self"]
abbrev p_Chronicle_step_again : List Str := ["self"]
theorem sc_Chronicle_step_again : FnScope n_Chronicle_step_again p_Chronicle_step_again (defScope s_Chronicle_step_again) := ⟨rfl, rfl, rfl, by decide +kernel, rfl, by decide +kernel, by decide +kernel⟩
abbrev n_round_length : List Str := ["chronicle"]
abbrev p_round_length : List Str := ["chronicle"]
theorem sc_round_length : FnScope n_round_length p_round_length (defScope s_round_length) := ⟨rfl, rfl, rfl, by decide +kernel, rfl, by decide +kernel, by decide +kernel⟩
abbrev n_year_name : List Str := ["chronicle", "year"]
abbrev p_year_name : List Str := ["chronicle", "year"]
theorem sc_year_name : FnScope n_year_name p_year_name (defScope s_year_name) := ⟨rfl, rfl, rfl, by decide +kernel, rfl, by decide +kernel, by decide +kernel⟩
abbrev n_year_in_reign : List Str := ["chronicle", "year"]
abbrev p_year_in_reign : List Str := ["chronicle", "year"]
theorem sc_year_in_reign : FnScope n_year_in_reign p_year_in_reign (defScope s_year_in_reign) := ⟨rfl, rfl, rfl, by decide +kernel, rfl, by decide +kernel, by decide +kernel⟩
abbrev n_year_round : List Str := ["chronicle", "year"]
abbrev p_year_round : List Str := ["chronicle", "year"]
theorem sc_year_round : FnScope n_year_round p_year_round (defScope s_year_round) := ⟨rfl, rfl, rfl, by decide +kernel, rfl, by decide +kernel, by decide +kernel⟩
abbrev n_told_years : List Str := ["chronicle", "entry", "first"]
abbrev p_told_years : List Str := ["chronicle", "entry"]
theorem sc_told_years : FnScope n_told_years p_told_years (defScope s_told_years) := ⟨rfl, rfl, rfl, by decide +kernel, rfl, by decide +kernel, by decide +kernel⟩
abbrev n_entry_years : List Str := ["chronicle", "entry"]
abbrev p_entry_years : List Str := ["chronicle", "entry"]
theorem sc_entry_years : FnScope n_entry_years p_entry_years (defScope s_entry_years) := ⟨rfl, rfl, rfl, by decide +kernel, rfl, by decide +kernel, by decide +kernel⟩
abbrev n_all_entry_years : List Str := ["chronicle", "entry"]
abbrev p_all_entry_years : List Str := ["chronicle"]
theorem sc_all_entry_years : FnScope n_all_entry_years p_all_entry_years (defScope s_all_entry_years) := ⟨rfl, rfl, rfl, by decide +kernel, rfl, by decide +kernel, by decide +kernel⟩
abbrev n_fits_as_last_year : List Str := ["first_year", "last_year"]
abbrev p_fits_as_last_year : List Str := ["first_year", "last_year"]
theorem sc_fits_as_last_year : FnScope n_fits_as_last_year p_fits_as_last_year (defScope s_fits_as_last_year) := ⟨rfl, rfl, rfl, by decide +kernel, rfl, by decide +kernel, by decide +kernel⟩
abbrev n_fits_as_start : List Str := ["t", "n", "f", "e"]
abbrev p_fits_as_start : List Str := ["t", "n", "f", "e"]
theorem sc_fits_as_start : FnScope n_fits_as_start p_fits_as_start (defScope s_fits_as_start) := ⟨rfl, rfl, rfl, by decide +kernel, rfl, by decide +kernel, by decide +kernel⟩
abbrev n_ny_start : List Str := ["chronicle", "t", "n", "f", "e"]
abbrev p_ny_start : List Str := ["chronicle", "t", "n", "f", "e"]
theorem sc_ny_start : FnScope n_ny_start p_ny_start (defScope s_ny_start) := ⟨rfl, rfl, rfl, by decide +kernel, rfl, by decide +kernel, by decide +kernel⟩
abbrev n_ny_tell : List Str := ["chronicle", "k", "j", "number"]
abbrev p_ny_tell : List Str := ["chronicle", "k", "j"]
theorem sc_ny_tell : FnScope n_ny_tell p_ny_tell (defScope s_ny_tell) := ⟨rfl, rfl, rfl, by decide +kernel, rfl, by decide +kernel, by decide +kernel⟩
abbrev n_ny_drop : List Str := ["chronicle", "left"]
abbrev p_ny_drop : List Str := ["chronicle"]
theorem sc_ny_drop : FnScope n_ny_drop p_ny_drop (defScope s_ny_drop) := ⟨rfl, rfl, rfl, by decide +kernel, rfl, by decide +kernel, by decide +kernel⟩
abbrev n_ny_know : List Str := ["chronicle", "i", "y", "entry"]
abbrev p_ny_know : List Str := ["chronicle", "i", "y"]
theorem sc_ny_know : FnScope n_ny_know p_ny_know (defScope s_ny_know) := ⟨rfl, rfl, rfl, by decide +kernel, rfl, by decide +kernel, by decide +kernel⟩
abbrev n_ny_forget : List Str := ["chronicle", "i", "known"]
abbrev p_ny_forget : List Str := ["chronicle", "i"]
theorem sc_ny_forget : FnScope n_ny_forget p_ny_forget (defScope s_ny_forget) := ⟨rfl, rfl, rfl, by decide +kernel, rfl, by decide +kernel, by decide +kernel⟩
abbrev n_ny_up_to : List Str := ["chronicle", "e", "before"]
abbrev p_ny_up_to : List Str := ["chronicle", "e"]
theorem sc_ny_up_to : FnScope n_ny_up_to p_ny_up_to (defScope s_ny_up_to) := ⟨rfl, rfl, rfl, by decide +kernel, rfl, by decide +kernel, by decide +kernel⟩
abbrev n_ny_back : List Str := ["chronicle"]
abbrev p_ny_back : List Str := ["chronicle"]
theorem sc_ny_back : FnScope n_ny_back p_ny_back (defScope s_ny_back) := ⟨rfl, rfl, rfl, by decide +kernel, rfl, by decide +kernel, by decide +kernel⟩
abbrev n_ny_again : List Str := ["chronicle"]
abbrev p_ny_again : List Str := ["chronicle"]
theorem sc_ny_again : FnScope n_ny_again p_ny_again (defScope s_ny_again) := ⟨rfl, rfl, rfl, by decide +kernel, rfl, by decide +kernel, by decide +kernel⟩
abbrev n_ny_name : List Str := ["chronicle", "y"]
abbrev p_ny_name : List Str := ["chronicle", "y"]
theorem sc_ny_name : FnScope n_ny_name p_ny_name (defScope s_ny_name) := ⟨rfl, rfl, rfl, by decide +kernel, rfl, by decide +kernel, by decide +kernel⟩
abbrev n_ny_years : List Str := ["chronicle", "i", "years"]
abbrev p_ny_years : List Str := ["chronicle", "i"]
theorem sc_ny_years : FnScope n_ny_years p_ny_years (defScope s_ny_years) := ⟨rfl, rfl, rfl, by decide +kernel, rfl, by decide +kernel, by decide +kernel⟩
abbrev n_ny_told : List Str := ["chronicle", "i", "entry", "known"]
abbrev p_ny_told : List Str := ["chronicle", "i"]
theorem sc_ny_told : FnScope n_ny_told p_ny_told (defScope s_ny_told) := ⟨rfl, rfl, rfl, by decide +kernel, rfl, by decide +kernel, by decide +kernel⟩
abbrev n_ny_state : List Str := ["chronicle", "reigns", "changes"]
abbrev p_ny_state : List Str := ["chronicle"]
theorem sc_ny_state : FnScope n_ny_state p_ny_state (defScope s_ny_state) := ⟨rfl, rfl, rfl, by decide +kernel, rfl, by decide +kernel, by decide +kernel⟩
abbrev n_Span_init : List Str := ["self", "soonest", "latest"]
abbrev p_Span_init : List Str := ["self", "soonest", "latest"]
theorem sc_Span_init : FnScope n_Span_init p_Span_init (defScope s_Span_init) := ⟨rfl, rfl, rfl, by decide +kernel, rfl, by decide +kernel, by decide +kernel⟩
abbrev n_Span_is_one_year : List Str := ["self"]
abbrev p_Span_is_one_year : List Str := ["self"]
theorem sc_Span_is_one_year : FnScope n_Span_is_one_year p_Span_is_one_year (defScope s_Span_is_one_year) := ⟨rfl, rfl, rfl, by decide +kernel, rfl, by decide +kernel, by decide +kernel⟩
abbrev n_first_later : List Str := ["years", "before", "year"]
abbrev p_first_later : List Str := ["years", "before"]
theorem sc_first_later : FnScope n_first_later p_first_later (defScope s_first_later) := ⟨rfl, rfl, rfl, by decide +kernel, rfl, by decide +kernel, by decide +kernel⟩
abbrev n_last_earlier : List Str := ["years", "behind", "year"]
abbrev p_last_earlier : List Str := ["years", "behind"]
theorem sc_last_earlier : FnScope n_last_earlier p_last_earlier (defScope s_last_earlier) := ⟨rfl, rfl, rfl, by decide +kernel, rfl, by decide +kernel, by decide +kernel⟩
abbrev n_soonest_reading : List Str := ["years_of_each", "reading", "before", "years", "year"]
abbrev p_soonest_reading : List Str := ["years_of_each"]
theorem sc_soonest_reading : FnScope n_soonest_reading p_soonest_reading (defScope s_soonest_reading) := ⟨rfl, rfl, rfl, by decide +kernel, rfl, by decide +kernel, by decide +kernel⟩
abbrev n_latest_reading : List Str := ["years_of_each", "last_year", "backwards", "behind", "years", "year"]
abbrev p_latest_reading : List Str := ["years_of_each", "last_year"]
theorem sc_latest_reading : FnScope n_latest_reading p_latest_reading (defScope s_latest_reading) := ⟨rfl, rfl, rfl, by decide +kernel, rfl, by decide +kernel, by decide +kernel⟩
abbrev n_entry_spans : List Str := ["years_of_each", "last_year", "soonest", "latest", "first", "last"]
abbrev p_entry_spans : List Str := ["years_of_each", "last_year"]
theorem sc_entry_spans : FnScope n_entry_spans p_entry_spans (defScope s_entry_spans) := ⟨rfl, rfl, rfl, by decide +kernel, rfl, by decide +kernel, by decide +kernel⟩
abbrev n_ways_to_reach : List Str := ["years", "years_before", "ways_before", "ways", "total", "at", "year"]
abbrev p_ways_to_reach : List Str := ["years", "years_before", "ways_before"]
theorem sc_ways_to_reach : FnScope n_ways_to_reach p_ways_to_reach (defScope s_ways_to_reach) := ⟨rfl, rfl, rfl, by decide +kernel, rfl, by decide +kernel, by decide +kernel⟩
abbrev n_count_readings : List Str := ["years_of_each", "years_before", "ways", "years"]
abbrev p_count_readings : List Str := ["years_of_each"]
theorem sc_count_readings : FnScope n_count_readings p_count_readings (defScope s_count_readings) := ⟨rfl, rfl, rfl, by decide +kernel, rfl, by decide +kernel, by decide +kernel⟩
abbrev n_reading_answer : List Str := ["reading"]
abbrev p_reading_answer : List Str := ["reading"]
theorem sc_reading_answer : FnScope n_reading_answer p_reading_answer (defScope s_reading_answer) := ⟨rfl, rfl, rfl, by decide +kernel, rfl, by decide +kernel, by decide +kernel⟩
abbrev n_all_spans : List Str := ["chronicle"]
abbrev p_all_spans : List Str := ["chronicle"]
theorem sc_all_spans : FnScope n_all_spans p_all_spans (defScope s_all_spans) := ⟨rfl, rfl, rfl, by decide +kernel, rfl, by decide +kernel, by decide +kernel⟩
abbrev n_ny_soonest : List Str := ["chronicle"]
abbrev p_ny_soonest : List Str := ["chronicle"]
theorem sc_ny_soonest : FnScope n_ny_soonest p_ny_soonest (defScope s_ny_soonest) := ⟨rfl, rfl, rfl, by decide +kernel, rfl, by decide +kernel, by decide +kernel⟩
abbrev n_ny_latest : List Str := ["chronicle"]
abbrev p_ny_latest : List Str := ["chronicle"]
theorem sc_ny_latest : FnScope n_ny_latest p_ny_latest (defScope s_ny_latest) := ⟨rfl, rfl, rfl, by decide +kernel, rfl, by decide +kernel, by decide +kernel⟩
abbrev n_ny_count : List Str := ["chronicle", "total"]
abbrev p_ny_count : List Str := ["chronicle"]
theorem sc_ny_count : FnScope n_ny_count p_ny_count (defScope s_ny_count) := ⟨rfl, rfl, rfl, by decide +kernel, rfl, by decide +kernel, by decide +kernel⟩
abbrev n_ny_sure : List Str := ["chronicle", "spans", "sure", "which", "power", "span"]
abbrev p_ny_sure : List Str := ["chronicle"]
theorem sc_ny_sure : FnScope n_ny_sure p_ny_sure (defScope s_ny_sure) := ⟨rfl, rfl, rfl, by decide +kernel, rfl, by decide +kernel, by decide +kernel⟩
abbrev n_ny_when : List Str := ["chronicle", "i", "spans"]
abbrev p_ny_when : List Str := ["chronicle", "i"]
theorem sc_ny_when : FnScope n_ny_when p_ny_when (defScope s_ny_when) := ⟨rfl, rfl, rfl, by decide +kernel, rfl, by decide +kernel, by decide +kernel⟩
abbrev n_ny_apart : List Str := ["chronicle", "i", "j", "spans", "least"]
abbrev p_ny_apart : List Str := ["chronicle", "i", "j"]
theorem sc_ny_apart : FnScope n_ny_apart p_ny_apart (defScope s_ny_apart) := ⟨rfl, rfl, rfl, by decide +kernel, rfl, by decide +kernel, by decide +kernel⟩
abbrev n_ny_one : List Str := ["chronicle", "spans", "span"]
abbrev p_ny_one : List Str := ["chronicle"]
theorem sc_ny_one : FnScope n_ny_one p_ny_one (defScope s_ny_one) := ⟨rfl, rfl, rfl, by decide +kernel, rfl, by decide +kernel, by decide +kernel⟩
abbrev n_ny_rounds : List Str := ["chronicle", "i", "spans"]
abbrev p_ny_rounds : List Str := ["chronicle", "i"]
theorem sc_ny_rounds : FnScope n_ny_rounds p_ny_rounds (defScope s_ny_rounds) := ⟨rfl, rfl, rfl, by decide +kernel, rfl, by decide +kernel, by decide +kernel⟩
abbrev n_ny_could : List Str := ["chronicle", "i", "y", "spans"]
abbrev p_ny_could : List Str := ["chronicle", "i", "y"]
theorem sc_ny_could : FnScope n_ny_could p_ny_could (defScope s_ny_could) := ⟨rfl, rfl, rfl, by decide +kernel, rfl, by decide +kernel, by decide +kernel⟩
abbrev n_change_answer : List Str := ["chronicle", "number", "given"]
abbrev p_change_answer : List Str := ["chronicle", "number", "given"]
theorem sc_change_answer : FnScope n_change_answer p_change_answer (defScope s_change_answer) := ⟨rfl, rfl, rfl, by decide +kernel, rfl, by decide +kernel, by decide +kernel⟩
abbrev n_reading_question_answer : List Str := ["chronicle", "number", "given"]
abbrev p_reading_question_answer : List Str := ["chronicle", "number", "given"]
theorem sc_reading_question_answer : FnScope n_reading_question_answer p_reading_question_answer (defScope s_reading_question_answer) := ⟨rfl, rfl, rfl, by decide +kernel, rfl, by decide +kernel, by decide +kernel⟩
abbrev n_question_answer : List Str := ["chronicle", "number", "given"]
abbrev p_question_answer : List Str := ["chronicle", "number", "given"]
theorem sc_question_answer : FnScope n_question_answer p_question_answer (defScope s_question_answer) := ⟨rfl, rfl, rfl, by decide +kernel, rfl, by decide +kernel, by decide +kernel⟩
abbrev n_call_answer : List Str := ["chronicle", "number", "given"]
abbrev p_call_answer : List Str := ["chronicle", "number", "given"]
theorem sc_call_answer : FnScope n_call_answer p_call_answer (defScope s_call_answer) := ⟨rfl, rfl, rfl, by decide +kernel, rfl, by decide +kernel, by decide +kernel⟩
abbrev n_answers : List Str := ["calls", "chronicle", "answered", "at", "number", "behind", "answer"]
abbrev p_answers : List Str := ["calls"]
theorem sc_answers : FnScope n_answers p_answers (defScope s_answers) := ⟨rfl, rfl, rfl, by decide +kernel, rfl, by decide +kernel, by decide +kernel⟩
/-- where each stands -/
structure Ad where
  c_History : Addr
  c_Entry : Addr
  c_Chronicle : Addr
  c_Span : Addr
  f_History_init : Addr
  f_History_note_change : Addr
  f_History_take_back : Addr
  f_History_do_again : Addr
  f_Entry_init : Addr
  f_Chronicle_init : Addr
  f_Chronicle_begin : Addr
  f_Chronicle_has_entry : Addr
  f_Chronicle_state : Addr
  f_Chronicle_return_to : Addr
  f_Chronicle_change_entries : Addr
  f_Chronicle_change_last_year : Addr
  f_Chronicle_change_known : Addr
  f_Chronicle_step_back : Addr
  f_Chronicle_step_again : Addr
  f_round_length : Addr
  f_year_name : Addr
  f_year_in_reign : Addr
  f_year_round : Addr
  f_told_years : Addr
  f_entry_years : Addr
  f_all_entry_years : Addr
  f_fits_as_last_year : Addr
  f_fits_as_start : Addr
  f_ny_start : Addr
  f_ny_tell : Addr
  f_ny_drop : Addr
  f_ny_know : Addr
  f_ny_forget : Addr
  f_ny_up_to : Addr
  f_ny_back : Addr
  f_ny_again : Addr
  f_ny_name : Addr
  f_ny_years : Addr
  f_ny_told : Addr
  f_ny_state : Addr
  f_Span_init : Addr
  f_Span_is_one_year : Addr
  f_first_later : Addr
  f_last_earlier : Addr
  f_soonest_reading : Addr
  f_latest_reading : Addr
  f_entry_spans : Addr
  f_ways_to_reach : Addr
  f_count_readings : Addr
  f_reading_answer : Addr
  f_all_spans : Addr
  f_ny_soonest : Addr
  f_ny_latest : Addr
  f_ny_count : Addr
  f_ny_sure : Addr
  f_ny_when : Addr
  f_ny_apart : Addr
  f_ny_one : Addr
  f_ny_rounds : Addr
  f_ny_could : Addr
  f_change_answer : Addr
  f_reading_question_answer : Addr
  f_question_answer : Addr
  f_call_answer : Addr
  f_answers : Addr
  t_CHANGES : Addr
  t_NUMBERS_BEHIND : Addr
  t_READING_QUESTIONS : Addr
structure Fd where
  d_History_init : FuncData
  d_History_note_change : FuncData
  d_History_take_back : FuncData
  d_History_do_again : FuncData
  d_Entry_init : FuncData
  d_Chronicle_init : FuncData
  d_Chronicle_begin : FuncData
  d_Chronicle_has_entry : FuncData
  d_Chronicle_state : FuncData
  d_Chronicle_return_to : FuncData
  d_Chronicle_change_entries : FuncData
  d_Chronicle_change_last_year : FuncData
  d_Chronicle_change_known : FuncData
  d_Chronicle_step_back : FuncData
  d_Chronicle_step_again : FuncData
  d_round_length : FuncData
  d_year_name : FuncData
  d_year_in_reign : FuncData
  d_year_round : FuncData
  d_told_years : FuncData
  d_entry_years : FuncData
  d_all_entry_years : FuncData
  d_fits_as_last_year : FuncData
  d_fits_as_start : FuncData
  d_ny_start : FuncData
  d_ny_tell : FuncData
  d_ny_drop : FuncData
  d_ny_know : FuncData
  d_ny_forget : FuncData
  d_ny_up_to : FuncData
  d_ny_back : FuncData
  d_ny_again : FuncData
  d_ny_name : FuncData
  d_ny_years : FuncData
  d_ny_told : FuncData
  d_ny_state : FuncData
  d_Span_init : FuncData
  d_Span_is_one_year : FuncData
  d_first_later : FuncData
  d_last_earlier : FuncData
  d_soonest_reading : FuncData
  d_latest_reading : FuncData
  d_entry_spans : FuncData
  d_ways_to_reach : FuncData
  d_count_readings : FuncData
  d_reading_answer : FuncData
  d_all_spans : FuncData
  d_ny_soonest : FuncData
  d_ny_latest : FuncData
  d_ny_count : FuncData
  d_ny_sure : FuncData
  d_ny_when : FuncData
  d_ny_apart : FuncData
  d_ny_one : FuncData
  d_ny_rounds : FuncData
  d_ny_could : FuncData
  d_change_answer : FuncData
  d_reading_question_answer : FuncData
  d_question_answer : FuncData
  d_call_answer : FuncData
  d_answers : FuncData
/-- what the top has written -/
structure Txt (K : PySem.W.Frag) (mg : Str → Option Value) (a : Ad) (d : Fd) : Prop where
  cl_History : Cls K a.c_History
  g_History : mg "History" = some (.ref a.c_History)
  no_History_past : NoAttr K a.c_History "past"
  no_History_undone : NoAttr K a.c_History "undone"
  mk_History : Mk K a.c_History a.f_History_init
  me_History_note_change : Meth K a.c_History "note_change" a.f_History_note_change
  me_History_take_back : Meth K a.c_History "take_back" a.f_History_take_back
  me_History_do_again : Meth K a.c_History "do_again" a.f_History_do_again
  cl_Entry : Cls K a.c_Entry
  g_Entry : mg "Entry" = some (.ref a.c_Entry)
  no_Entry_name : NoAttr K a.c_Entry "name"
  no_Entry_reign_year : NoAttr K a.c_Entry "reign_year"
  no_Entry_known : NoAttr K a.c_Entry "known"
  mk_Entry : Mk K a.c_Entry a.f_Entry_init
  cl_Chronicle : Cls K a.c_Chronicle
  g_Chronicle : mg "Chronicle" = some (.ref a.c_Chronicle)
  no_Chronicle_reign_length : NoAttr K a.c_Chronicle "reign_length"
  no_Chronicle_name_total : NoAttr K a.c_Chronicle "name_total"
  no_Chronicle_first_year : NoAttr K a.c_Chronicle "first_year"
  no_Chronicle_last_year : NoAttr K a.c_Chronicle "last_year"
  no_Chronicle_entries : NoAttr K a.c_Chronicle "entries"
  no_Chronicle_history : NoAttr K a.c_Chronicle "history"
  mk_Chronicle : Mk K a.c_Chronicle a.f_Chronicle_init
  me_Chronicle_begin : Meth K a.c_Chronicle "begin" a.f_Chronicle_begin
  me_Chronicle_has_entry : Meth K a.c_Chronicle "has_entry" a.f_Chronicle_has_entry
  me_Chronicle_state : Meth K a.c_Chronicle "state" a.f_Chronicle_state
  me_Chronicle_return_to : Meth K a.c_Chronicle "return_to" a.f_Chronicle_return_to
  me_Chronicle_change_entries : Meth K a.c_Chronicle "change_entries" a.f_Chronicle_change_entries
  me_Chronicle_change_last_year : Meth K a.c_Chronicle "change_last_year" a.f_Chronicle_change_last_year
  me_Chronicle_change_known : Meth K a.c_Chronicle "change_known" a.f_Chronicle_change_known
  me_Chronicle_step_back : Meth K a.c_Chronicle "step_back" a.f_Chronicle_step_back
  me_Chronicle_step_again : Meth K a.c_Chronicle "step_again" a.f_Chronicle_step_again
  cl_Span : Cls K a.c_Span
  g_Span : mg "Span" = some (.ref a.c_Span)
  no_Span_soonest : NoAttr K a.c_Span "soonest"
  no_Span_latest : NoAttr K a.c_Span "latest"
  mk_Span : Mk K a.c_Span a.f_Span_init
  me_Span_is_one_year : Meth K a.c_Span "is_one_year" a.f_Span_is_one_year
  F_History_init : Fun K "__init__" "History.__init__" s_History_init a.f_History_init d.d_History_init
  b_History_init : Binds K d.d_History_init p_History_init []
  F_History_note_change : Fun K "note_change" "History.note_change" s_History_note_change a.f_History_note_change d.d_History_note_change
  b_History_note_change : Binds K d.d_History_note_change p_History_note_change []
  F_History_take_back : Fun K "take_back" "History.take_back" s_History_take_back a.f_History_take_back d.d_History_take_back
  b_History_take_back : Binds K d.d_History_take_back p_History_take_back []
  F_History_do_again : Fun K "do_again" "History.do_again" s_History_do_again a.f_History_do_again d.d_History_do_again
  b_History_do_again : Binds K d.d_History_do_again p_History_do_again []
  F_Entry_init : Fun K "__init__" "Entry.__init__" s_Entry_init a.f_Entry_init d.d_Entry_init
  b_Entry_init : Binds K d.d_Entry_init p_Entry_init []
  F_Chronicle_init : Fun K "__init__" "Chronicle.__init__" s_Chronicle_init a.f_Chronicle_init d.d_Chronicle_init
  b_Chronicle_init : Binds K d.d_Chronicle_init p_Chronicle_init []
  F_Chronicle_begin : Fun K "begin" "Chronicle.begin" s_Chronicle_begin a.f_Chronicle_begin d.d_Chronicle_begin
  b_Chronicle_begin : Binds K d.d_Chronicle_begin p_Chronicle_begin []
  F_Chronicle_has_entry : Fun K "has_entry" "Chronicle.has_entry" s_Chronicle_has_entry a.f_Chronicle_has_entry d.d_Chronicle_has_entry
  b_Chronicle_has_entry : Binds K d.d_Chronicle_has_entry p_Chronicle_has_entry []
  F_Chronicle_state : Fun K "state" "Chronicle.state" s_Chronicle_state a.f_Chronicle_state d.d_Chronicle_state
  b_Chronicle_state : Binds K d.d_Chronicle_state p_Chronicle_state []
  F_Chronicle_return_to : Fun K "return_to" "Chronicle.return_to" s_Chronicle_return_to a.f_Chronicle_return_to d.d_Chronicle_return_to
  b_Chronicle_return_to : Binds K d.d_Chronicle_return_to p_Chronicle_return_to []
  F_Chronicle_change_entries : Fun K "change_entries" "Chronicle.change_entries" s_Chronicle_change_entries a.f_Chronicle_change_entries d.d_Chronicle_change_entries
  b_Chronicle_change_entries : Binds K d.d_Chronicle_change_entries p_Chronicle_change_entries []
  F_Chronicle_change_last_year : Fun K "change_last_year" "Chronicle.change_last_year" s_Chronicle_change_last_year a.f_Chronicle_change_last_year d.d_Chronicle_change_last_year
  b_Chronicle_change_last_year : Binds K d.d_Chronicle_change_last_year p_Chronicle_change_last_year []
  F_Chronicle_change_known : Fun K "change_known" "Chronicle.change_known" s_Chronicle_change_known a.f_Chronicle_change_known d.d_Chronicle_change_known
  b_Chronicle_change_known : Binds K d.d_Chronicle_change_known p_Chronicle_change_known []
  F_Chronicle_step_back : Fun K "step_back" "Chronicle.step_back" s_Chronicle_step_back a.f_Chronicle_step_back d.d_Chronicle_step_back
  b_Chronicle_step_back : Binds K d.d_Chronicle_step_back p_Chronicle_step_back []
  F_Chronicle_step_again : Fun K "step_again" "Chronicle.step_again" s_Chronicle_step_again a.f_Chronicle_step_again d.d_Chronicle_step_again
  b_Chronicle_step_again : Binds K d.d_Chronicle_step_again p_Chronicle_step_again []
  F_round_length : Fun K "round_length" "round_length" s_round_length a.f_round_length d.d_round_length
  b_round_length : Binds K d.d_round_length p_round_length []
  g_round_length : mg "round_length" = some (.ref a.f_round_length)
  F_year_name : Fun K "year_name" "year_name" s_year_name a.f_year_name d.d_year_name
  b_year_name : Binds K d.d_year_name p_year_name []
  g_year_name : mg "year_name" = some (.ref a.f_year_name)
  F_year_in_reign : Fun K "year_in_reign" "year_in_reign" s_year_in_reign a.f_year_in_reign d.d_year_in_reign
  b_year_in_reign : Binds K d.d_year_in_reign p_year_in_reign []
  g_year_in_reign : mg "year_in_reign" = some (.ref a.f_year_in_reign)
  F_year_round : Fun K "year_round" "year_round" s_year_round a.f_year_round d.d_year_round
  b_year_round : Binds K d.d_year_round p_year_round []
  g_year_round : mg "year_round" = some (.ref a.f_year_round)
  F_told_years : Fun K "told_years" "told_years" s_told_years a.f_told_years d.d_told_years
  b_told_years : Binds K d.d_told_years p_told_years []
  g_told_years : mg "told_years" = some (.ref a.f_told_years)
  F_entry_years : Fun K "entry_years" "entry_years" s_entry_years a.f_entry_years d.d_entry_years
  b_entry_years : Binds K d.d_entry_years p_entry_years []
  g_entry_years : mg "entry_years" = some (.ref a.f_entry_years)
  F_all_entry_years : Fun K "all_entry_years" "all_entry_years" s_all_entry_years a.f_all_entry_years d.d_all_entry_years
  b_all_entry_years : Binds K d.d_all_entry_years p_all_entry_years []
  g_all_entry_years : mg "all_entry_years" = some (.ref a.f_all_entry_years)
  F_fits_as_last_year : Fun K "fits_as_last_year" "fits_as_last_year" s_fits_as_last_year a.f_fits_as_last_year d.d_fits_as_last_year
  b_fits_as_last_year : Binds K d.d_fits_as_last_year p_fits_as_last_year []
  g_fits_as_last_year : mg "fits_as_last_year" = some (.ref a.f_fits_as_last_year)
  F_fits_as_start : Fun K "fits_as_start" "fits_as_start" s_fits_as_start a.f_fits_as_start d.d_fits_as_start
  b_fits_as_start : Binds K d.d_fits_as_start p_fits_as_start []
  g_fits_as_start : mg "fits_as_start" = some (.ref a.f_fits_as_start)
  F_ny_start : Fun K "ny_start" "ny_start" s_ny_start a.f_ny_start d.d_ny_start
  b_ny_start : Binds K d.d_ny_start p_ny_start []
  g_ny_start : mg "ny_start" = some (.ref a.f_ny_start)
  F_ny_tell : Fun K "ny_tell" "ny_tell" s_ny_tell a.f_ny_tell d.d_ny_tell
  b_ny_tell : Binds K d.d_ny_tell p_ny_tell []
  g_ny_tell : mg "ny_tell" = some (.ref a.f_ny_tell)
  F_ny_drop : Fun K "ny_drop" "ny_drop" s_ny_drop a.f_ny_drop d.d_ny_drop
  b_ny_drop : Binds K d.d_ny_drop p_ny_drop []
  g_ny_drop : mg "ny_drop" = some (.ref a.f_ny_drop)
  F_ny_know : Fun K "ny_know" "ny_know" s_ny_know a.f_ny_know d.d_ny_know
  b_ny_know : Binds K d.d_ny_know p_ny_know []
  g_ny_know : mg "ny_know" = some (.ref a.f_ny_know)
  F_ny_forget : Fun K "ny_forget" "ny_forget" s_ny_forget a.f_ny_forget d.d_ny_forget
  b_ny_forget : Binds K d.d_ny_forget p_ny_forget []
  g_ny_forget : mg "ny_forget" = some (.ref a.f_ny_forget)
  F_ny_up_to : Fun K "ny_up_to" "ny_up_to" s_ny_up_to a.f_ny_up_to d.d_ny_up_to
  b_ny_up_to : Binds K d.d_ny_up_to p_ny_up_to []
  g_ny_up_to : mg "ny_up_to" = some (.ref a.f_ny_up_to)
  F_ny_back : Fun K "ny_back" "ny_back" s_ny_back a.f_ny_back d.d_ny_back
  b_ny_back : Binds K d.d_ny_back p_ny_back []
  g_ny_back : mg "ny_back" = some (.ref a.f_ny_back)
  F_ny_again : Fun K "ny_again" "ny_again" s_ny_again a.f_ny_again d.d_ny_again
  b_ny_again : Binds K d.d_ny_again p_ny_again []
  g_ny_again : mg "ny_again" = some (.ref a.f_ny_again)
  F_ny_name : Fun K "ny_name" "ny_name" s_ny_name a.f_ny_name d.d_ny_name
  b_ny_name : Binds K d.d_ny_name p_ny_name []
  g_ny_name : mg "ny_name" = some (.ref a.f_ny_name)
  F_ny_years : Fun K "ny_years" "ny_years" s_ny_years a.f_ny_years d.d_ny_years
  b_ny_years : Binds K d.d_ny_years p_ny_years []
  g_ny_years : mg "ny_years" = some (.ref a.f_ny_years)
  F_ny_told : Fun K "ny_told" "ny_told" s_ny_told a.f_ny_told d.d_ny_told
  b_ny_told : Binds K d.d_ny_told p_ny_told []
  g_ny_told : mg "ny_told" = some (.ref a.f_ny_told)
  F_ny_state : Fun K "ny_state" "ny_state" s_ny_state a.f_ny_state d.d_ny_state
  b_ny_state : Binds K d.d_ny_state p_ny_state []
  g_ny_state : mg "ny_state" = some (.ref a.f_ny_state)
  F_Span_init : Fun K "__init__" "Span.__init__" s_Span_init a.f_Span_init d.d_Span_init
  b_Span_init : Binds K d.d_Span_init p_Span_init []
  F_Span_is_one_year : Fun K "is_one_year" "Span.is_one_year" s_Span_is_one_year a.f_Span_is_one_year d.d_Span_is_one_year
  b_Span_is_one_year : Binds K d.d_Span_is_one_year p_Span_is_one_year []
  F_first_later : Fun K "first_later" "first_later" s_first_later a.f_first_later d.d_first_later
  b_first_later : Binds K d.d_first_later p_first_later []
  g_first_later : mg "first_later" = some (.ref a.f_first_later)
  F_last_earlier : Fun K "last_earlier" "last_earlier" s_last_earlier a.f_last_earlier d.d_last_earlier
  b_last_earlier : Binds K d.d_last_earlier p_last_earlier []
  g_last_earlier : mg "last_earlier" = some (.ref a.f_last_earlier)
  F_soonest_reading : Fun K "soonest_reading" "soonest_reading" s_soonest_reading a.f_soonest_reading d.d_soonest_reading
  b_soonest_reading : Binds K d.d_soonest_reading p_soonest_reading []
  g_soonest_reading : mg "soonest_reading" = some (.ref a.f_soonest_reading)
  F_latest_reading : Fun K "latest_reading" "latest_reading" s_latest_reading a.f_latest_reading d.d_latest_reading
  b_latest_reading : Binds K d.d_latest_reading p_latest_reading []
  g_latest_reading : mg "latest_reading" = some (.ref a.f_latest_reading)
  F_entry_spans : Fun K "entry_spans" "entry_spans" s_entry_spans a.f_entry_spans d.d_entry_spans
  b_entry_spans : Binds K d.d_entry_spans p_entry_spans []
  g_entry_spans : mg "entry_spans" = some (.ref a.f_entry_spans)
  F_ways_to_reach : Fun K "ways_to_reach" "ways_to_reach" s_ways_to_reach a.f_ways_to_reach d.d_ways_to_reach
  b_ways_to_reach : Binds K d.d_ways_to_reach p_ways_to_reach []
  g_ways_to_reach : mg "ways_to_reach" = some (.ref a.f_ways_to_reach)
  F_count_readings : Fun K "count_readings" "count_readings" s_count_readings a.f_count_readings d.d_count_readings
  b_count_readings : Binds K d.d_count_readings p_count_readings []
  g_count_readings : mg "count_readings" = some (.ref a.f_count_readings)
  F_reading_answer : Fun K "reading_answer" "reading_answer" s_reading_answer a.f_reading_answer d.d_reading_answer
  b_reading_answer : Binds K d.d_reading_answer p_reading_answer []
  g_reading_answer : mg "reading_answer" = some (.ref a.f_reading_answer)
  F_all_spans : Fun K "all_spans" "all_spans" s_all_spans a.f_all_spans d.d_all_spans
  b_all_spans : Binds K d.d_all_spans p_all_spans []
  g_all_spans : mg "all_spans" = some (.ref a.f_all_spans)
  F_ny_soonest : Fun K "ny_soonest" "ny_soonest" s_ny_soonest a.f_ny_soonest d.d_ny_soonest
  b_ny_soonest : Binds K d.d_ny_soonest p_ny_soonest []
  g_ny_soonest : mg "ny_soonest" = some (.ref a.f_ny_soonest)
  F_ny_latest : Fun K "ny_latest" "ny_latest" s_ny_latest a.f_ny_latest d.d_ny_latest
  b_ny_latest : Binds K d.d_ny_latest p_ny_latest []
  g_ny_latest : mg "ny_latest" = some (.ref a.f_ny_latest)
  F_ny_count : Fun K "ny_count" "ny_count" s_ny_count a.f_ny_count d.d_ny_count
  b_ny_count : Binds K d.d_ny_count p_ny_count []
  g_ny_count : mg "ny_count" = some (.ref a.f_ny_count)
  F_ny_sure : Fun K "ny_sure" "ny_sure" s_ny_sure a.f_ny_sure d.d_ny_sure
  b_ny_sure : Binds K d.d_ny_sure p_ny_sure []
  g_ny_sure : mg "ny_sure" = some (.ref a.f_ny_sure)
  F_ny_when : Fun K "ny_when" "ny_when" s_ny_when a.f_ny_when d.d_ny_when
  b_ny_when : Binds K d.d_ny_when p_ny_when []
  g_ny_when : mg "ny_when" = some (.ref a.f_ny_when)
  F_ny_apart : Fun K "ny_apart" "ny_apart" s_ny_apart a.f_ny_apart d.d_ny_apart
  b_ny_apart : Binds K d.d_ny_apart p_ny_apart []
  g_ny_apart : mg "ny_apart" = some (.ref a.f_ny_apart)
  F_ny_one : Fun K "ny_one" "ny_one" s_ny_one a.f_ny_one d.d_ny_one
  b_ny_one : Binds K d.d_ny_one p_ny_one []
  g_ny_one : mg "ny_one" = some (.ref a.f_ny_one)
  F_ny_rounds : Fun K "ny_rounds" "ny_rounds" s_ny_rounds a.f_ny_rounds d.d_ny_rounds
  b_ny_rounds : Binds K d.d_ny_rounds p_ny_rounds []
  g_ny_rounds : mg "ny_rounds" = some (.ref a.f_ny_rounds)
  F_ny_could : Fun K "ny_could" "ny_could" s_ny_could a.f_ny_could d.d_ny_could
  b_ny_could : Binds K d.d_ny_could p_ny_could []
  g_ny_could : mg "ny_could" = some (.ref a.f_ny_could)
  F_change_answer : Fun K "change_answer" "change_answer" s_change_answer a.f_change_answer d.d_change_answer
  b_change_answer : Binds K d.d_change_answer p_change_answer []
  g_change_answer : mg "change_answer" = some (.ref a.f_change_answer)
  F_reading_question_answer : Fun K "reading_question_answer" "reading_question_answer" s_reading_question_answer a.f_reading_question_answer d.d_reading_question_answer
  b_reading_question_answer : Binds K d.d_reading_question_answer p_reading_question_answer []
  g_reading_question_answer : mg "reading_question_answer" = some (.ref a.f_reading_question_answer)
  F_question_answer : Fun K "question_answer" "question_answer" s_question_answer a.f_question_answer d.d_question_answer
  b_question_answer : Binds K d.d_question_answer p_question_answer []
  g_question_answer : mg "question_answer" = some (.ref a.f_question_answer)
  F_call_answer : Fun K "call_answer" "call_answer" s_call_answer a.f_call_answer d.d_call_answer
  b_call_answer : Binds K d.d_call_answer p_call_answer []
  g_call_answer : mg "call_answer" = some (.ref a.f_call_answer)
  F_answers : Fun K "answers" "answers" s_answers a.f_answers d.d_answers
  b_answers : Binds K d.d_answers p_answers []
  g_answers : mg "answers" = some (.ref a.f_answers)
  g_ALREADY_SO : ∃ t, mg "ALREADY_SO" = some (.int (-17) t)
  g_CANNOT_BE : ∃ t, mg "CANNOT_BE" = some (.int (-33) t)
  g_COUNTED_UP_TO : ∃ t, mg "COUNTED_UP_TO" = some (.int (1000000007) t)
  g_FEWEST_NAMES : ∃ t, mg "FEWEST_NAMES" = some (.int (2) t)
  g_FULL : ∃ t, mg "FULL" = some (.int (-28) t)
  g_HIGHEST_FIRST_YEAR : ∃ t, mg "HIGHEST_FIRST_YEAR" = some (.int (500) t)
  g_HIGHEST_YEAR : ∃ t, mg "HIGHEST_YEAR" = some (.int (2000) t)
  g_MOST_CHANGES : ∃ t, mg "MOST_CHANGES" = some (.int (20) t)
  g_MOST_ENTRIES : ∃ t, mg "MOST_ENTRIES" = some (.int (10) t)
  g_MOST_NAMES : ∃ t, mg "MOST_NAMES" = some (.int (16) t)
  g_MOST_REIGN_YEARS : ∃ t, mg "MOST_REIGN_YEARS" = some (.int (40) t)
  g_NOTHING_TO_END : ∃ t, mg "NOTHING_TO_END" = some (.int (-6) t)
  g_NOT_THERE : ∃ t, mg "NOT_THERE" = some (.int (-2) t)
  g_OUT_OF_BOUNDS : ∃ t, mg "OUT_OF_BOUNDS" = some (.int (-22) t)
  g_CHANGES : mg "CHANGES" = some (.ref a.t_CHANGES)
  v_CHANGES : ∀ H : Hp, SqT K H a.t_CHANGES [.int 0, .int 1, .int 2, .int 3, .int 4, .int 5, .int 18, .int 19]
  g_NUMBERS_BEHIND : mg "NUMBERS_BEHIND" = some (.ref a.t_NUMBERS_BEHIND)
  v_NUMBERS_BEHIND : ∀ H : Hp, SqT K H a.t_NUMBERS_BEHIND [.int 4, .int 2, .int 0, .int 2, .int 1, .int 1, .int 1, .int 1, .int 0, .int 0, .int 0, .int 0, .int 1, .int 2, .int 0, .int 1, .int 2, .int 1, .int 0, .int 0, .int 0]
  g_READING_QUESTIONS : mg "READING_QUESTIONS" = some (.ref a.t_READING_QUESTIONS)
  v_READING_QUESTIONS : ∀ H : Hp, SqT K H a.t_READING_QUESTIONS [.int 8, .int 9, .int 10, .int 11, .int 12, .int 13, .int 14, .int 15, .int 16]
  z_all : mg "all" = none
  z_len : mg "len" = none
  z_list : mg "list" = none
  z_max : mg "max" = none
  z_range : mg "range" = none
  z_reversed : mg "reversed" = none
  z_sum : mg "sum" = none
  z_zip : mg "zip" = none

end Ry

set_option Elab.async false
set_option maxRecDepth 100000
set_option maxHeartbeats 2000000
namespace Ry
open PySem PySem.Spec PyProof.Rows L2 RT
/-! ### list(range(a, b, c)), c > 0 -/
def stepV (a c : Int) (n : Nat) : List V := (List.range n).map fun i => V.int (a + (i : Nat) * c)
def tLstRg3 (ta : TA) : TE := fun σ H Q => ta σ H fun vs H1 => ∃ (i j c : Int) (n : Nat), vs = [.int i, .int j, .int c] ∧ RgC i j c n ∧ n ≤ 2 ^ 24 ∧
  ∀ q, H1 q = none → Q (.ref q) (upd H1 q (.lst (stepV i c n)))
theorem vals_step {a c : Int} {n : Nat} {acc : Array Value} (h : ItemsOf (fun i v => ∃ t, v = .int (a + i * c) t) acc n) : Vals (stepV a c n) acc.toList := by
  have e : acc.toList.length = n := by rw [Array.length_toList]; exact h.1
  unfold stepV; rw [← e]
  exact vals_of_get acc.toList _ fun j u hj => h.2 j u (by rw [← hj, Array.getElem?_toList])
theorem pe_listRg3 {X : Cx} {a b c : Expr} {ta : TA} {p p2 pos pos2 : Pos} (hc : X.calm = true) (hg : Gl X "list") (hm : X.mg "list" = none) (hg2 : Gl X "range") (hm2 : X.mg "range" = none) (ha : PA X [a, b, c] ta)
    (hs : starEach [a, b, c] X.env = (false, eval a X.env) :: starEach [b, c] X.env := by rfl) (hpl : (backTo pos2 (starEach [b, c] X.env)).any (·.1) = false := by rfl)
    (hs2 : starEach [.Call (.Name "range" p2) [a, b, c] [] pos2] X.env = (false, eval (.Call (.Name "range" p2) [a, b, c] [] pos2) X.env) :: starEach [] X.env := by rfl) :
    PE X (.Call (.Name "list" p) [.Call (.Name "range" p2) [a, b, c] [] pos2] [] pos) (tLstRg3 ta) := by
  refine ⟨fun pins s σ H Q I h => ?_⟩
  refine Call_ (ld_blt I hg hm boot_list (PyProof.Rows.callWith_type1 (args_cons (Call_ (ld_blt I hg2 hm2 boot_range (PyProof.Rows.callWith_type1 (thn (ha.run pos2 pins s σ H _ I h) fun us s1 ⟨vs, H1, I1, r1, q1⟩ => ?_) hs hpl))) hs2) hs2))
  obtain ⟨i, j, k, n, e, ⟨c0, c1, c2, c3⟩, hn, q⟩ := q1; subst e
  cases r1 with
  | cons r rr => cases rr with
    | cons r' rr => cases rr with
      | cons r'' rr =>
        cases rr
        obtain ⟨t, rfl⟩ := r; obtain ⟨t', rfl⟩ := r'; obtain ⟨t'', rfl⟩ := r''
        refine call_range_3 c0 (args_nil ?_) (.inl (PyProof.noPylong_small c1))
        have I2 : Inv X pins σ H1 { s1 with heap := s1.heap.push { cls := .type "range", data := .fields #[.int i t, .int j t', .int k t''] }, toks := s1.toks } := I1.kept (t' := s1.toks) fun b u e => Heap.get?_push_of_some _ e
        refine call_list_range (n := n) (I2.ok.hd hc) (IsRange.new _ _ _ _ _ _ _) c2 c3 hn fun h' tk acc c' hk e' hi => ?_
        refine ⟨.ref _, upd H1 _ (.lst (stepV i k n)), I2.laid hk (Nat.le_refl _) (show ObjOk X.prog X.w _ _ _ (.lst (stepV i k n)) from ⟨?_, acc.toList, c', vals_step hi, ?_⟩), rfl, q _ (I2.hok.fresh (Nat.le_refl _))⟩
        · unfold stepV; rw [List.length_map, List.length_range, sizeLine_eq]; omega
        · rw [Array.toArray_toList]; exact e'
/-! ### list(reversed(xs)) -/
section
variable {prog : Program} {w : World} {A : Around} {E : Value → Shared → Prop} {s : Shared}
theorem extend_rev {it l S : Addr} {items : Array Value} {res : Value} {c0 : Nat} {R : Result → Shared → Prop} (hh : A.handled = none) (hit : s.heap.IsRevIter it l ((items.size : Int) - 1)) (hl : s.heap.IsList l items) (hne : l ≠ it) (hn : items.size ≤ sizeLine)
    (hSi : S ≠ it) (hSl : S ≠ l) (hS : s.heap.get? S = some { cls := .type "list", data := .seq #[] c0 })
    (hR : ∀ s' acc c', Moved (S :: [it]) (fun a b => b = a) s s' → s'.heap.get? S = some { cls := .type "list", dict := none, data := .seq acc c', slots := #[] } → ItemsOf (fun i v => items[items.size - 1 - i]? = some v) acc items.size → R (.ok (.ret res)) s') :
    wpAny (model prog w) A.in1 (Builtin.List.listExtendWith (.ref S) (.ref it) res) (fun fin s' => match fin with | .done f => R (.ok f) s' | .again c' => c'.quiet = true ∧ codeAny (model prog w) A c' R s') (fun e s' => R (.error e) s') s := by
  have W := (Walks.listRev (prog := prog) (w := w) (A := A.in1) hh it l hne items).toS
  have hSf : S ∉ [it, l] := by simp only [List.mem_cons, List.not_mem_nil, or_false, not_or]; exact ⟨hSi, hSl⟩
  have hT : s.TypeIs (.ref it) "list_reverseiterator" := hit.typeIs
  have h1 : Builtin.List.listSameRef (.ref S) (.ref it) = false := by simp [Builtin.List.listSameRef, hSi]
  unfold Builtin.List.listExtendWith; refine wpAny_bind (wpAny_typeOf hT ?_); rw [if_neg (by rw [h1]; decide)]
  refine wpAny_bind (wpAny_pyIter_revIter (s := s) hit ?_); refine wpAny_bind (wpAny_holding ?_); unfold Builtin.List.listLengthHint
  refine wpAny_bind (wpAny_specialOf hT nolen_lri ?_); show wpAny _ A.in1 (specialOf (Value.ref it) (Str.ofString "__length_hint__") >>= _) _ _ _
  refine wpAny_bind (wpAny_specialOf hT hint_lri ?_); generalize hid : ("list_reverseiterator.__length_hint__" : String) = id0; wp_delta
  rw [show splitId id0 = some ("list_reverseiterator", "__length_hint__") from by subst hid; decide +kernel]; subst hid
  refine wpAny_bind (wpAny_isInstance (b := true) hT (by rw [isSubtype_type]; kernel_rfl) ?_); refine wpAny_pure ?_; rw [if_neg (by decide)]
  have e0 : ((items.size : Nat) : Int) - 1 - ((0 : Nat) : Int) = (items.size : Int) - 1 := by omega
  refine wpAny_pure ⟨plainId_quiet F.plain_extend_loop _, codeAny_extend_loopS W hn _ hSf _ items.size 0 _ _ _ rfl (Nat.zero_le _) ⟨Nat.zero_le _, by rw [e0]; exact hit, hl⟩ hS (ItemsOf.nil _) fun s' acc' c' hm hS' hacc => hR s' acc' c' hm hS' hacc⟩
theorem init_rev {it l S : Addr} {items : Array Value} {R : Result → Shared → Prop} (hh : A.handled = none) (hit : s.heap.IsRevIter it l ((items.size : Int) - 1)) (hl : s.heap.IsList l items) (hne : l ≠ it) (hn : items.size ≤ sizeLine)
    (hSi : S ≠ it) (hSl : S ≠ l) (hS : s.heap.get? S = some { cls := .type "list", data := .seq #[] })
    (hR : ∀ s' acc c', Moved (S :: [it]) (fun a b => b = a) s s' → s'.heap.get? S = some { cls := .type "list", dict := none, data := .seq acc c', slots := #[] } → ItemsOf (fun i v => items[items.size - 1 - i]? = some v) acc items.size → R (.ok (.ret .none)) s') :
    wpAny (model prog w) A.in1 (Builtin.«list.__init__» ⟨[.ref S, .ref it], []⟩) (fun fin s' => match fin with | .done f => R (.ok f) s' | .again c' => c'.quiet = true ∧ codeAny (model prog w) A c' R s') (fun e s' => R (.error e) s') s := by
  show wpAny _ A.in1 (do let old ← Builtin.List.listItems (.ref S); Builtin.List.listUpdate (.ref S) (fun _ => #[]); letGo old.toList.reverse; Builtin.List.listExtendWith (.ref S) (.ref it) .none) _ _ s
  refine wpAny_bind ?_; unfold Builtin.List.listItems; refine wpAny_bind (wpAny_seqItems hS rfl (wpAny_pure ?_))
  show wpAny _ A.in1 (updateSeq S (fun _ => #[]) >>= fun _ => letGo (#[] : Array Value).toList.reverse >>= fun _ => Builtin.List.listExtendWith (.ref S) (.ref it) .none) _ _ s
  refine wpAny_bind (wpAny_updateSeq hS rfl ?_); have hS2 := Heap.get?_update_self (Obj.mapSeq (fun _ => (#[] : Array Value))) hS rfl
  have oth : ∀ b o, b ≠ S → s.heap.get? b = some o → (s.heap.update S (Obj.mapSeq (fun _ => (#[] : Array Value)))).get? b = some o := fun b o hb e => (Heap.get?_update_other _ _ (Ne.symm hb)).trans e
  refine wpAny_bind (wpAny_letGo ?_)
  refine extend_rev (items := items) hh (hit.at fun o e => oth it o hSi.symm e) ?_ hne hn hSi hSl hS2 fun s' acc c' hm hS' hacc => hR s' acc c' ⟨fun b o hb e => hm.heap b o hb (oth b o (fun h => hb (h ▸ List.mem_cons_self)) e), hm.gens, hm.drawn, hm.os, hm.toks⟩ hS' hacc
  obtain ⟨o, ho, r⟩ := hl
  exact ⟨o, oth l o hSl.symm ho, r⟩
theorem call_list_rev {it l : Addr} {items : Array Value} {Q : Value → Shared → Prop} (hh : A.handled = none) (hit : s.heap.IsRevIter it l ((items.size : Int) - 1)) (hl : s.heap.IsList l items) (hne : l ≠ it) (hn : items.size ≤ sizeLine)
    (hQ : ∀ (h' : Heap) (tk : Nat) (acc : Array Value) (c' : Nat), (∀ b o, b ≠ it → s.heap.get? b = some o → h'.get? b = some o) → h'.get? s.heap.objs.size = some { cls := .type "list", dict := none, data := .seq acc c', slots := #[] } →
      ItemsOf (fun i v => items[items.size - 1 - i]? = some v) acc items.size → Q (.ref s.heap.objs.size) { s with heap := h', toks := tk }) : wpAny (model prog w) A (call (.type "list") [.ref it]) Q E s := by
  obtain ⟨oi, hoi, _⟩ := id hit; obtain ⟨ol, hol, _⟩ := id hl
  have hSi : s.heap.objs.size ≠ it := Nat.ne_of_gt (Heap.lt_size hoi); have hSl : s.heap.objs.size ≠ l := Nat.ne_of_gt (Heap.lt_size hol)
  refine callType_codes (Q₁ := fun obj s₁ => obj = .ref s.heap.objs.size ∧ s₁ = { s with heap := s.heap.push { cls := .type "list", data := .seq #[] } }) F.called_list (F.typeCall_list_1 _) F.entry_list_init (code_list_new _ ⟨rfl, rfl⟩) fun obj s₁ h₁ => ?_
  obtain ⟨rfl, rfl⟩ := h₁
  have hS : (s.heap.push { cls := .type "list", data := .seq #[] }).get? s.heap.objs.size = some { cls := .type "list", data := .seq #[] } := Heap.get?_push_size _ rfl
  refine ⟨⟨_, hS, rfl⟩, F.args_list_init_2 _ _, init_rev (A := A.in1) (items := items) hh (hit.at fun o e => Heap.get?_push_of_some _ e) (hl.push _) hne hn hSi hSl hS fun s' acc c' hm hS' hacc => ⟨rfl, ?_⟩⟩
  rw [Moved.eq_with hm]
  refine hQ s'.heap s'.toks acc c' (fun b o hb e => hm.heap b o (fun hmem => ?_) (Heap.get?_push_of_some _ e)) hS' hacc
  rcases List.mem_cons.mp hmem with e' | hmem
  · exact absurd (Heap.lt_size e) (by rw [e']; exact Nat.lt_irrefl _)
  · exact hb (List.mem_singleton.mp hmem)
end
def tLstRev (K : PySem.W.Frag) (te : TE) : TE := fun σ H Q => te σ H fun v H1 => ∃ (a : Addr) (xs : List V), v = .ref a ∧ SqL K H1 a xs ∧ ∀ q, H1 q = none → Q (.ref q) (upd H1 q (.lst xs.reverse))
theorem pe_listRev {X : Cx} {e : Expr} {te : TE} {p p2 pos pos2 : Pos} (hc : X.calm = true) (hg : Gl X "list") (hm : X.mg "list" = none) (hg2 : Gl X "reversed") (hm2 : X.mg "reversed" = none) (he : PE X e te)
    (hs : starEach [e] X.env = (false, eval e X.env) :: starEach [] X.env := by rfl)
    (hs2 : starEach [.Call (.Name "reversed" p2) [e] [] pos2] X.env = (false, eval (.Call (.Name "reversed" p2) [e] [] pos2) X.env) :: starEach [] X.env := by rfl) :
    PE X (.Call (.Name "list" p) [.Call (.Name "reversed" p2) [e] [] pos2] [] pos) (tLstRev X.K te) := by
  refine ⟨fun pins s σ H Q I h => ?_⟩
  refine Call_ (ld_blt I hg hm boot_list (PyProof.Rows.callWith_type1 (args_cons (Call_ (ld_blt I hg2 hm2 PyProof.Rows.boot_reversed (PyProof.Rows.callWith_type1 (args_cons (thn (he.run pins s σ H _ I h) fun u s1 ⟨v, H1, I1, r1, q1⟩ => args_nil ?_) hs) hs rfl))) hs2) hs2 rfl))
  obtain ⟨a, xs, ev, hq, q⟩ := q1; subst ev; obtain rfl : u = Value.ref a := r1; obtain ⟨its, rv, p', hz⟩ := I1.list hq
  refine call_reversed_list p'.isList (args_nil ?_)
  have k0 : ∀ b o, s1.heap.get? b = some o → (s1.heap.push (revObj a ((its.toArray.size : Int) - 1))).get? b = some o := fun b o e => Heap.get?_push_of_some _ e
  have I2 : Inv X pins σ H1 { s1 with heap := s1.heap.push (revObj a ((its.toArray.size : Int) - 1)) } := I1.kept (t' := s1.toks) k0
  have fp := I1.fpOk (H' := H1) (b := s1.heap.objs.size) (Nat.le_refl _) (I1.hok.fresh (Nat.le_refl _))
  have hl := p'.isList; obtain ⟨ol, hol, _⟩ := id hl
  have hne : a ≠ s1.heap.objs.size := Nat.ne_of_lt (Heap.lt_size hol)
  have hn : its.toArray.size ≤ sizeLine := by rw [List.size_toArray, ← rv.length]; exact hz
  refine call_list_rev (s := { s1 with heap := s1.heap.push (revObj a ((its.toArray.size : Int) - 1)) }) (I1.ok.hd hc) ⟨_, Heap.get?_push_size _ rfl, rfl, rfl⟩ (hl.push _) hne hn fun h' tk acc c' hk hS hi => ?_
  have hfr : H1 (s1.heap.push (revObj a ((its.toArray.size : Int) - 1))).objs.size = none := I2.hok.fresh (Nat.le_refl _)
  refine ⟨.ref _, upd H1 _ (.lst xs.reverse), I2.turnedNew (t' := tk) (ch := [s1.heap.objs.size]) (fun b o hb e => hk b o (fun z => hb (by rw [z]; exact List.mem_singleton.mpr rfl)) e) (fun b hb => by rw [List.mem_singleton.mp hb]; exact fp) (Nat.le_refl _)
    (show ObjOk X.prog X.w _ _ _ (.lst xs.reverse) from ⟨by rw [List.length_reverse]; exact hz, acc.toList, c', vals_rev rv hi, ?_⟩), rfl, q _ hfr⟩
  rw [Array.toArray_toList]; exact hS
end Ry

set_option Elab.async false
set_option maxRecDepth 100000
set_option maxHeartbeats 2000000
namespace Ry
open PySem PySem.Spec PyProof.Rows L2 RyM
/-! ### how the object lies in the heap -/
/-- two lists, item by item -/
def Pr {α β : Type} (R : α → β → Prop) (xs : List α) (ys : List β) : Prop := xs.length = ys.length ∧ ∀ (i : Nat) (x : α) (y : β), xs[i]? = some x → ys[i]? = some y → R x y
theorem Pr.nil {α β : Type} {R : α → β → Prop} : Pr R [] [] := ⟨rfl, fun i x y h => by simp at h⟩
theorem Pr.mono {α β : Type} {R R' : α → β → Prop} {xs : List α} {ys : List β} (h : Pr R xs ys) (f : ∀ x y, x ∈ xs → y ∈ ys → R x y → R' x y) : Pr R' xs ys :=
  ⟨h.1, fun i x y hx hy => f x y (List.mem_of_getElem? hx) (List.mem_of_getElem? hy) (h.2 i x y hx hy)⟩
theorem Pr.append {α β : Type} {R : α → β → Prop} {xs xs' : List α} {ys ys' : List β} (h : Pr R xs ys) (h' : Pr R xs' ys') : Pr R (xs ++ xs') (ys ++ ys') := by
  refine ⟨by rw [List.length_append, List.length_append, h.1, h'.1], fun i x y hx hy => ?_⟩
  by_cases c : i < xs.length
  · rw [List.getElem?_append_left c] at hx
    rw [List.getElem?_append_left (by rw [← h.1]; exact c)] at hy
    exact h.2 i x y hx hy
  · rw [List.getElem?_append_right (by omega)] at hx
    rw [List.getElem?_append_right (by rw [← h.1]; omega), ← h.1] at hy
    exact h'.2 _ x y hx hy
theorem Pr.one {α β : Type} {R : α → β → Prop} {x : α} {y : β} (h : R x y) : Pr R [x] [y] := by
  refine ⟨rfl, fun i x' y' hx hy => ?_⟩
  cases i with
  | zero => cases hx; cases hy; exact h
  | succ i => simp at hx
theorem Pr.take {α β : Type} {R : α → β → Prop} {xs : List α} {ys : List β} (h : Pr R xs ys) (n : Nat) : Pr R (xs.take n) (ys.take n) := by
  refine ⟨by rw [List.length_take, List.length_take, h.1], fun i x y hx hy => ?_⟩
  rw [List.getElem?_take] at hx hy
  split at hx
  · rename_i c
    rw [if_pos c] at hy
    exact h.2 i x y hx hy
  · cases hx
theorem Pr.drop {α β : Type} {R : α → β → Prop} {xs : List α} {ys : List β} (h : Pr R xs ys) (n : Nat) : Pr R (xs.drop n) (ys.drop n) := by
  refine ⟨by rw [List.length_drop, List.length_drop, h.1], fun i x y hx hy => ?_⟩
  rw [List.getElem?_drop] at hx hy
  exact h.2 _ x y hx hy
theorem Pr.get {α β : Type} {R : α → β → Prop} {xs : List α} {ys : List β} (h : Pr R xs ys) {i : Nat} {y : β} (hy : ys[i]? = some y) : ∃ x, xs[i]? = some x ∧ R x y := by
  have hl : i < ys.length := (List.getElem?_eq_some_iff.mp hy).1
  have hx : xs[i]? = some (xs[i]'(by rw [h.1]; exact hl)) := List.getElem?_eq_getElem _
  exact ⟨_, hx, h.2 i _ y hx hy⟩
theorem Pr.snoc {α β : Type} {R : α → β → Prop} {xs : List α} {ys : List β} {y : β} (h : Pr R xs (ys ++ [y])) : ∃ xs' x, xs = xs' ++ [x] ∧ Pr R xs' ys ∧ R x y := by
  have h1 := h.take ys.length
  have h2 := h.drop ys.length
  rw [List.take_left] at h1
  rw [List.drop_left] at h2
  cases e : xs.drop ys.length with
  | nil => rw [e] at h2; exact absurd h2.1 (by simp)
  | cons x r =>
    rw [e] at h2
    have hr : r = [] := List.eq_nil_of_length_eq_zero (by have := h2.1; simpa using this)
    subst hr
    exact ⟨xs.take ys.length, x, by rw [← e, List.take_append_drop], h1, h2.2 0 x y rfl rfl⟩
theorem Pr.mem {α β : Type} {R : α → β → Prop} {xs : List α} {ys : List β} (h : Pr R xs ys) {x : α} (hx : x ∈ xs) : ∃ y ∈ ys, R x y := by
  obtain ⟨i, hi⟩ := List.getElem?_of_mem hx
  have hl : i < ys.length := by rw [← h.1]; exact (List.getElem?_eq_some_iff.mp hi).1
  have hy : ys[i]? = some ys[i] := List.getElem?_eq_getElem hl
  exact ⟨_, List.getElem_mem hl, h.2 i x _ hi hy⟩

def nI (l : List Nat) : List V := l.map fun (x : Nat) => V.int (x : Int)
def knV : Option Nat → V
  | none => .non
  | some k => .int (k : Int)
def eF (e : Km498.Entry) : List (Str × V) := [("name", .int (e.name : Nat)), ("reign_year", .int (e.at_ : Nat)), ("known", knV e.known)]
def cF (b : Km498.Book) (l h : Addr) : List (Str × V) := [("reign_length", .int (b.term : Nat)), ("name_total", .int (b.names : Nat)), ("first_year", .int (b.first : Nat)), ("last_year", .int (b.last : Nat)), ("entries", .ref l), ("history", .ref h)]
def hF (p u : Addr) : List (Str × V) := [("past", .ref p), ("undone", .ref u)]
theorem lk_here {k : Str} {v : V} {r : List (Str × V)} : List.lookup k ((k, v) :: r) = some v := by
  have e : (k == k) = true := beq_self_eq_true k
  simp only [List.lookup, e]
theorem lk_past {k g : Str} {v : V} {r : List (Str × V)} (h : (k == g) = false) : List.lookup k ((g, v) :: r) = List.lookup k r := by
  simp only [List.lookup, h]
theorem put_here {f : Str} {v x : V} {r : List (Str × V)} : putF f v ((f, x) :: r) = (f, v) :: r := if_pos rfl
theorem put_past {f g : Str} {v x : V} {r : List (Str × V)} (h : ¬ g = f) : putF f v ((g, x) :: r) = (g, x) :: putF f v r := if_neg h
section
variable (b : Km498.Book) (l h : Addr)
theorem cF_t : (cF b l h).lookup ("reign_length" : Str) = some (.int (b.term : Nat)) := lk_here
theorem cF_n : (cF b l h).lookup ("name_total" : Str) = some (.int (b.names : Nat)) := (lk_past (by decide +kernel)).trans lk_here
theorem cF_f : (cF b l h).lookup ("first_year" : Str) = some (.int (b.first : Nat)) := (lk_past (by decide +kernel)).trans ((lk_past (by decide +kernel)).trans lk_here)
theorem cF_e : (cF b l h).lookup ("last_year" : Str) = some (.int (b.last : Nat)) := (lk_past (by decide +kernel)).trans ((lk_past (by decide +kernel)).trans ((lk_past (by decide +kernel)).trans lk_here))
theorem cF_l : (cF b l h).lookup ("entries" : Str) = some (.ref l) := (lk_past (by decide +kernel)).trans ((lk_past (by decide +kernel)).trans ((lk_past (by decide +kernel)).trans ((lk_past (by decide +kernel)).trans lk_here)))
theorem cF_h : (cF b l h).lookup ("history" : Str) = some (.ref h) := (lk_past (by decide +kernel)).trans ((lk_past (by decide +kernel)).trans ((lk_past (by decide +kernel)).trans ((lk_past (by decide +kernel)).trans ((lk_past (by decide +kernel)).trans lk_here))))
theorem cF_no {m : Str} (h1 : (m == ("reign_length" : Str)) = false) (h2 : (m == ("name_total" : Str)) = false) (h3 : (m == ("first_year" : Str)) = false) (h4 : (m == ("last_year" : Str)) = false) (h5 : (m == ("entries" : Str)) = false) (h6 : (m == ("history" : Str)) = false) : (cF b l h).lookup m = none :=
  (lk_past h1).trans ((lk_past h2).trans ((lk_past h3).trans ((lk_past h4).trans ((lk_past h5).trans ((lk_past h6).trans rfl)))))
theorem cF_put_l (l' : Addr) : putF "entries" (.ref l') (cF b l h) = cF b l' h :=
  (put_past (by decide +kernel)).trans (congrArg _ ((put_past (by decide +kernel)).trans (congrArg _ ((put_past (by decide +kernel)).trans (congrArg _ ((put_past (by decide +kernel)).trans (congrArg _ put_here)))))))
theorem cF_put_h (h' : Addr) : putF "history" (.ref h') (cF b l h) = cF b l h' :=
  (put_past (by decide +kernel)).trans (congrArg _ ((put_past (by decide +kernel)).trans (congrArg _ ((put_past (by decide +kernel)).trans (congrArg _ ((put_past (by decide +kernel)).trans (congrArg _ ((put_past (by decide +kernel)).trans (congrArg _ put_here)))))))))
theorem cF_put_e (z : Nat) : putF "last_year" (.int (z : Nat)) (cF b l h) = cF { b with last := z } l h :=
  (put_past (by decide +kernel)).trans (congrArg _ ((put_past (by decide +kernel)).trans (congrArg _ ((put_past (by decide +kernel)).trans (congrArg _ put_here)))))
theorem cF_put_f (z : Nat) : putF "first_year" (.int (z : Nat)) (cF b l h) = cF { b with first := z } l h :=
  (put_past (by decide +kernel)).trans (congrArg _ ((put_past (by decide +kernel)).trans (congrArg _ put_here)))
theorem cF_put_n (z : Nat) : putF "name_total" (.int (z : Nat)) (cF b l h) = cF { b with names := z } l h :=
  (put_past (by decide +kernel)).trans (congrArg _ put_here)
theorem cF_put_t (z : Nat) : putF "reign_length" (.int (z : Nat)) (cF b l h) = cF { b with term := z } l h := put_here
theorem cF_len : (cF b l h).length < 1000 := by show 6 < 1000; decide
end
theorem eF_n (e : Km498.Entry) : (eF e).lookup ("name" : Str) = some (.int (e.name : Nat)) := lk_here
theorem eF_r (e : Km498.Entry) : (eF e).lookup ("reign_year" : Str) = some (.int (e.at_ : Nat)) := (lk_past (by decide +kernel)).trans lk_here
theorem eF_k (e : Km498.Entry) : (eF e).lookup ("known" : Str) = some (knV e.known) := (lk_past (by decide +kernel)).trans ((lk_past (by decide +kernel)).trans lk_here)
theorem hF_p (p u : Addr) : (hF p u).lookup ("past" : Str) = some (.ref p) := lk_here
theorem hF_u (p u : Addr) : (hF p u).lookup ("undone" : Str) = some (.ref u) := (lk_past (by decide +kernel)).trans lk_here
theorem hF_no (p u : Addr) {m : Str} (h1 : (m == ("past" : Str)) = false) (h2 : (m == ("undone" : Str)) = false) : (hF p u).lookup m = none := (lk_past h1).trans ((lk_past h2).trans rfl)
theorem hF_put_p (p u p' : Addr) : putF "past" (.ref p') (hF p u) = hF p' u := put_here
theorem hF_put_u (p u u' : Addr) : putF "undone" (.ref u') (hF p u) = hF p u' := (put_past (by decide +kernel)).trans (congrArg _ put_here)

def sF (s t : Nat) : List (Str × V) := [("soonest", .int (s : Nat)), ("latest", .int (t : Nat))]
theorem sF_s (s t : Nat) : (sF s t).lookup ("soonest" : Str) = some (.int (s : Nat)) := lk_here
theorem sF_l (s t : Nat) : (sF s t).lookup ("latest" : Str) = some (.int (t : Nat)) := (lk_past (by decide +kernel)).trans lk_here
theorem sF_no (s t : Nat) {m : Str} (h1 : (m == ("soonest" : Str)) = false) (h2 : (m == ("latest" : Str)) = false) : (sF s t).lookup m = none := (lk_past h1).trans ((lk_past h2).trans rfl)

/-- what stays as it is once made; what may be changed -/
structure Rg where
  im : Addr → Prop
  mu : Addr → Prop
variable (a : Ad)
def EntAt (H : Hp) (x : Addr) (e : Km498.Entry) : Prop := ∃ dx, H x = some (.ins a.c_Entry dx (eF e))
def EntsAt (im : Addr → Prop) (H : Hp) (l : Addr) (es : List Km498.Entry) : Prop := im l ∧ ∃ xs : List Addr, H l = some (.lst (xs.map V.ref)) ∧ Pr (fun x e => im x ∧ EntAt a H x e) xs es
def StAt (im : Addr → Prop) (H : Hp) (p : Addr) (b : Km498.Book) : Prop := im p ∧ ∃ l, H p = some (.tup [.ref l, .int (b.last : Nat)]) ∧ EntsAt a im H l b.entries
structure HistAt (R : Rg) (H : Hp) (h dx P U : Addr) (ps us : List Addr) (past fut : List Km498.Book) : Prop where
  at' : H h = some (.ins a.c_History dx (hF P U))
  pl : H P = some (.lst (ps.map V.ref))
  ul : H U = some (.lst (us.map V.ref))
  pp : Pr (StAt a R.im H) ps past.reverse
  uu : Pr (StAt a R.im H) us fut.reverse
  mh : R.mu h
  mp : R.mu P
  mU : R.mu U
  ne : P ≠ U
structure Rep (R : Rg) (H : Hp) (c : Addr) (d : Km498.Desk) (dx l h dh P U : Addr) (ps us : List Addr) : Prop where
  at' : H c = some (.ins a.c_Chronicle dx (cF d.now l h))
  en : EntsAt a R.im H l d.now.entries
  hi : HistAt a R H h dh P U ps us d.past d.future
  mc : R.mu c
  dj : ∀ b, R.im b → ¬ R.mu b
  tr : ∀ b, R.im b ∨ R.mu b → H b ≠ none
/-- the object at c is d -/
def Chr (R : Rg) (H : Hp) (c : Addr) (d : Km498.Desk) : Prop := ∃ dx l h dh P U ps us, Rep a R H c d dx l h dh P U ps us
/-- all that isn't the object's stays, and stays outside -/
def Kept (R : Rg) (H : Hp) (R' : Rg) (H' : Hp) : Prop := ∀ b o, H b = some o → ¬ R.im b → ¬ R.mu b → H' b = some o ∧ ¬ R'.im b ∧ ¬ R'.mu b
theorem Kept.of_same {R : Rg} {H H' : Hp} (h : Same H H') : Kept R H R H' := fun b o e i m => ⟨h b o e, i, m⟩
theorem Kept.trans {R R1 R2 : Rg} {H H1 H2 : Hp} (p : Kept R H R1 H1) (q : Kept R1 H1 R2 H2) : Kept R H R2 H2 := fun b o e i m => by
  obtain ⟨e1, i1, m1⟩ := p b o e i m
  exact q b o e1 i1 m1
variable {a}
theorem EntAt.frame {H H' : Hp} {x : Addr} {e : Km498.Entry} (h : EntAt a H x e) (f : ∀ o, H x = some o → H' x = some o) : EntAt a H' x e := by
  obtain ⟨dx, h⟩ := h
  exact ⟨dx, f _ h⟩
theorem EntsAt.frame {im im' : Addr → Prop} {H H' : Hp} {l : Addr} {es : List Km498.Entry} (h : EntsAt a im H l es) (f : ∀ b o, im b → H b = some o → H' b = some o) (g : ∀ b, im b → im' b) : EntsAt a im' H' l es := by
  obtain ⟨hl, xs, hx, hp⟩ := h
  exact ⟨g l hl, xs, f _ _ hl hx, hp.mono fun x e _ _ q => ⟨g x q.1, q.2.frame fun o => f x o q.1⟩⟩
theorem StAt.frame {im im' : Addr → Prop} {H H' : Hp} {p : Addr} {b : Km498.Book} (h : StAt a im H p b) (f : ∀ b o, im b → H b = some o → H' b = some o) (g : ∀ b, im b → im' b) : StAt a im' H' p b := by
  obtain ⟨hp, l, h1, h2⟩ := h
  exact ⟨g p hp, l, f _ _ hp h1, h2.frame f g⟩
theorem HistAt.frame {R R' : Rg} {H H' : Hp} {h dx P U : Addr} {ps us : List Addr} {past fut : List Km498.Book} (q : HistAt a R H h dx P U ps us past fut) (f : ∀ b o, R.im b ∨ R.mu b → H b = some o → H' b = some o) (g : ∀ b, R.im b → R'.im b) (g' : ∀ b, R.mu b → R'.mu b) : HistAt a R' H' h dx P U ps us past fut :=
  ⟨f _ _ (.inr q.mh) q.at', f _ _ (.inr q.mp) q.pl, f _ _ (.inr q.mU) q.ul, q.pp.mono fun _ _ _ _ z => z.frame (fun b o i => f b o (.inl i)) g, q.uu.mono fun _ _ _ _ z => z.frame (fun b o i => f b o (.inl i)) g, g' _ q.mh, g' _ q.mp, g' _ q.mU, q.ne⟩
theorem Rep.frame {R : Rg} {H H' : Hp} {c : Addr} {d : Km498.Desk} {dx l h dh P U : Addr} {ps us : List Addr} (q : Rep a R H c d dx l h dh P U ps us) (f : ∀ b o, R.im b ∨ R.mu b → H b = some o → H' b = some o) : Rep a R H' c d dx l h dh P U ps us :=
  ⟨f _ _ (.inr q.mc) q.at', q.en.frame (fun b o i => f b o (.inl i)) fun _ z => z, q.hi.frame f (fun _ z => z) fun _ z => z, q.mc, q.dj, fun b z e => by
    cases g : H b with
    | none => exact q.tr b z g
    | some o => rw [f b o z g] at e; cases e⟩
theorem Chr.frame {R : Rg} {H H' : Hp} {c : Addr} {d : Km498.Desk} (q : Chr a R H c d) (f : ∀ b o, R.im b ∨ R.mu b → H b = some o → H' b = some o) : Chr a R H' c d := by
  obtain ⟨dx, l, h, dh, P, U, ps, us, q⟩ := q
  exact ⟨dx, l, h, dh, P, U, ps, us, q.frame f⟩
theorem Rep.grow {R : Rg} {N : Addr → Prop} {H : Hp} {c : Addr} {d : Km498.Desk} {dx l h dh P U : Addr} {ps us : List Addr} (q : Rep a R H c d dx l h dh P U ps us) (hn : ∀ b, N b → ¬ R.mu b) (hN : ∀ b, N b → H b ≠ none) : Rep a ⟨fun b => R.im b ∨ N b, R.mu⟩ H c d dx l h dh P U ps us :=
  ⟨q.at', q.en.frame (fun _ _ _ e => e) fun _ z => .inl z, q.hi.frame (fun _ _ _ e => e) (fun _ z => .inl z) fun _ z => z, q.mc, fun b z => z.elim (q.dj b) (hn b), fun b z => z.elim (fun y => y.elim (fun i => q.tr b (.inl i)) (hN b)) fun m => q.tr b (.inr m)⟩
theorem Chr.same {R : Rg} {H H' : Hp} {c : Addr} {d : Km498.Desk} (q : Chr a R H c d) (f : Same H H') : Chr a R H' c d := q.frame fun b o _ e => f b o e
theorem Rep.same {R : Rg} {H H' : Hp} {c : Addr} {d : Km498.Desk} {dx l h dh P U : Addr} {ps us : List Addr} (q : Rep a R H c d dx l h dh P U ps us) (f : Same H H') : Rep a R H' c d dx l h dh P U ps us := q.frame fun b o _ e => f b o e
theorem Same.new {H : Hp} {p : Addr} {o : HO} (h : H p = none) : Same H (upd H p o) := fun b u e => by rw [upd_ne (ne_of_none e h)]; exact e
end Ry

set_option Elab.async false
set_option maxRecDepth 100000
set_option maxHeartbeats 2000000
namespace Ry
open PySem PySem.Spec PyProof.Rows L2 RyM
/-! ### the promises -/
set_option linter.unusedVariables false
variable (a : Ad)
/-- only read: of the object d at c, with a number of its own, an int comes out, the heap as it was -/
def spRead (g : Km498.Desk → V) : Sp := fun vs H Q _ => ∃ (R : Rg) (c : Addr) (d : Km498.Desk), vs = [.ref c] ∧ Chr a R H c d ∧ DeskOk d ∧ Q (g d) H
def sp_round_length (K : PySem.W.Frag) (a : Ad) : Sp := fun vs H Q _ => ∃ (R : Rg) (c : Addr) (d : Km498.Desk), vs = [.ref c] ∧ Chr a R H c d ∧ DeskOk d ∧ Q (.int (d.now.round : Nat)) H
def sp_year_name (K : PySem.W.Frag) (a : Ad) : Sp := fun vs H Q _ => ∃ (R : Rg) (c : Addr) (d : Km498.Desk) (y : Nat), vs = [.ref c, .int (y : Nat)] ∧ Chr a R H c d ∧ DeskOk d ∧ d.now.first ≤ y ∧ Q (.int (d.now.nameOf y : Nat)) H
def sp_year_in_reign (K : PySem.W.Frag) (a : Ad) : Sp := fun vs H Q _ => ∃ (R : Rg) (c : Addr) (d : Km498.Desk) (y : Nat), vs = [.ref c, .int (y : Nat)] ∧ Chr a R H c d ∧ DeskOk d ∧ d.now.first ≤ y ∧ Q (.int (d.now.atOf y : Nat)) H
def sp_year_round (K : PySem.W.Frag) (a : Ad) : Sp := fun vs H Q _ => ∃ (R : Rg) (c : Addr) (d : Km498.Desk) (y : Nat), vs = [.ref c, .int (y : Nat)] ∧ Chr a R H c d ∧ DeskOk d ∧ d.now.first ≤ y ∧ Q (.int (((y - d.now.first) / d.now.round : Nat) : Int)) H
def sp_told_years (K : PySem.W.Frag) (a : Ad) : Sp := fun vs H Q _ => ∃ (R : Rg) (c x : Addr) (d : Km498.Desk) (e : Km498.Entry), vs = [.ref c, .ref x] ∧ Chr a R H c d ∧ DeskOk d ∧ EntAt a H x e ∧ EntOk d.now e ∧ e.known = none ∧
  ∀ q, H q = none → Q (.ref q) (upd H q (.lst (nI (d.now.years e))))
def sp_entry_years (K : PySem.W.Frag) (a : Ad) : Sp := fun vs H Q _ => ∃ (R : Rg) (c x : Addr) (d : Km498.Desk) (e : Km498.Entry), vs = [.ref c, .ref x] ∧ Chr a R H c d ∧ DeskOk d ∧ EntAt a H x e ∧ EntOk d.now e ∧
  ∀ q, H q = none → Q (.ref q) (upd H q (.lst (nI (d.now.years e))))
/-- a list of lists of years -/
def RowsAt (H : Hp) (D : Addr) (rs : List (List Nat)) : Prop := ∃ xs : List Addr, H D = some (.lst (xs.map V.ref)) ∧ Pr (fun x ys => H x = some (.lst (nI ys))) xs rs
def sp_all_entry_years (K : PySem.W.Frag) (a : Ad) : Sp := fun vs H Q _ => ∃ (R : Rg) (c : Addr) (d : Km498.Desk), vs = [.ref c] ∧ Chr a R H c d ∧ DeskOk d ∧
  ∀ (H' : Hp) (p : Addr), Same H H' → RowsAt H' p (rows d.now) → Q (.ref p) H'
def sp_fits_as_last_year (K : PySem.W.Frag) (a : Ad) : Sp := fun vs H Q _ => ∃ (f e : Nat), vs = [.int (f : Nat), .int (e : Nat)] ∧ Q (.bl (decide (f ≤ e ∧ e ≤ 2000))) H
def sp_fits_as_start (K : PySem.W.Frag) (a : Ad) : Sp := fun vs H Q _ => ∃ (t n f e : Nat), vs = [.int (t : Nat), .int (n : Nat), .int (f : Nat), .int (e : Nat)] ∧
  Q (.bl (!decide (t = 0 ∨ 40 < t ∨ n < 2 ∨ 16 < n ∨ 500 < f ∨ e < f ∨ Km498.LAST < e))) H
def sp_History_init (K : PySem.W.Frag) (a : Ad) : Sp := fun vs H Q _ => ∃ (p dx : Addr), vs = [.ref p] ∧ H p = some (.ins a.c_History dx []) ∧
  ∀ (H' : Hp) (P U : Addr), H P = none → H U = none → P ≠ U → H' p = some (.ins a.c_History dx (hF P U)) → H' P = some (.lst []) → H' U = some (.lst []) → (∀ b o, H b = some o → b ≠ p → H' b = some o) → Q .non H'
def sp_History_note_change (K : PySem.W.Frag) (a : Ad) : Sp := fun vs H Q _ => ∃ (h dx P U p : Addr) (ps : List Addr), vs = [.ref h, .ref p] ∧ H h = some (.ins a.c_History dx (hF P U)) ∧ H P = some (.lst (ps.map V.ref)) ∧ ps.length ≤ 20 ∧
  ∀ (H' : Hp) (P' U' : Addr), H P' = none → H U' = none → P' ≠ U' → H' h = some (.ins a.c_History dx (hF P' U')) → H' P' = some (.lst (((ps ++ [p]).drop (ps.length + 1 - 20)).map V.ref)) → H' U' = some (.lst []) →
    (∀ b o, H b = some o → b ≠ h → H' b = some o) → Q .non H'
def sp_Entry_init (K : PySem.W.Frag) (a : Ad) : Sp := fun vs H Q _ => ∃ (x dx : Addr) (e : Km498.Entry), vs = [.ref x, .int (e.name : Nat), .int (e.at_ : Nat), knV e.known] ∧ H x = some (.ins a.c_Entry dx []) ∧
  ∀ H' : Hp, H' x = some (.ins a.c_Entry dx (eF e)) → (∀ b o, H b = some o → b ≠ x → H' b = some o) → Q .non H'
/-- begun anew -/
def Begun (H : Hp) (c : Addr) (t n f e : Nat) (Q : VK) : Prop := ∀ (R' : Rg) (H' : Hp), Chr a R' H' c ⟨⟨t, n, f, e, []⟩, [], []⟩ → (∀ b o, H b = some o → b ≠ c → H' b = some o ∧ ¬ R'.im b ∧ ¬ R'.mu b) → Q .non H'
def sp_Chronicle_begin (K : PySem.W.Frag) (a : Ad) : Sp := fun vs H Q _ => ∃ (c dx : Addr) (fs : List (Str × V)) (t n f e : Nat), vs = [.ref c, .int (t : Nat), .int (n : Nat), .int (f : Nat), .int (e : Nat)] ∧ H c = some (.ins a.c_Chronicle dx fs) ∧
  (fs = [] ∨ ∃ b l h, fs = cF b l h) ∧ Begun a H c t n f e Q
def sp_Chronicle_init (K : PySem.W.Frag) (a : Ad) : Sp := fun vs H Q _ => ∃ (c dx : Addr), vs = [.ref c] ∧ H c = some (.ins a.c_Chronicle dx []) ∧ Begun a H c 1 2 0 0 Q
def sp_Chronicle_has_entry (K : PySem.W.Frag) (a : Ad) : Sp := fun vs H Q _ => ∃ (R : Rg) (c : Addr) (d : Km498.Desk) (i : Nat), vs = [.ref c, .int (i : Nat)] ∧ Chr a R H c d ∧ Q (.bl (decide (i < d.now.entries.length))) H
/-- changed -/
def Changed (R : Rg) (H : Hp) (c : Addr) (d' : Km498.Desk) (Q : VK) : Prop := ∀ (R' : Rg) (H' : Hp), Chr a R' H' c d' → Kept R H R' H' → Q .non H'
def sp_Chronicle_change_entries (K : PySem.W.Frag) (a : Ad) : Sp := fun vs H Q _ => ∃ (R : Rg) (c l : Addr) (d : Km498.Desk) (es : List Km498.Entry), vs = [.ref c, .ref l] ∧ Chr a R H c d ∧ DeskOk d ∧ EntsAt a R.im H l es ∧
  Changed a R H c (d.become { d.now with entries := es }) Q
def sp_Chronicle_change_last_year (K : PySem.W.Frag) (a : Ad) : Sp := fun vs H Q _ => ∃ (R : Rg) (c : Addr) (d : Km498.Desk) (z : Nat), vs = [.ref c, .int (z : Nat)] ∧ Chr a R H c d ∧ DeskOk d ∧
  Changed a R H c (d.become { d.now with last := z }) Q
def sp_Chronicle_change_known (K : PySem.W.Frag) (a : Ad) : Sp := fun vs H Q _ => ∃ (R : Rg) (c : Addr) (d : Km498.Desk) (i : Nat) (k : Option Nat), vs = [.ref c, .int (i : Nat), knV k] ∧ Chr a R H c d ∧ DeskOk d ∧ i < d.now.entries.length ∧
  Changed a R H c (d.become (d.now.set i { d.now.e i with known := k })) Q
/-- a call of the document: the object as it is then, its answer in a list -/
def Does (R : Rg) (H : Hp) (c : Addr) (d : Km498.Desk) (x : Km498.Call) (Q : VK) : Prop :=
  ∀ (R' : Rg) (H' : Hp) (p : Addr), Chr a R' H' c (Km498.act d x).1 → Kept R H R' H' → (∀ b o, H b = some o → ¬ R.im b → ¬ R.mu b → p ≠ b) → H' p = some (.lst ((Km498Neutral.told (Km498.act d x).2).map V.int)) → Q (.ref p) H'
def spCall (ns : List Nat) (x : Km498.Call) : Sp := fun vs H Q _ => ∃ (R : Rg) (c : Addr) (d : Km498.Desk), vs = .ref c :: nI ns ∧ Chr a R H c d ∧ DeskOk d ∧ Does a R H c d x Q
def sp_ny_start (K : PySem.W.Frag) (a : Ad) : Sp := fun vs H Q E => ∃ t n f e, spCall a [t, n, f, e] (.start t n f e) vs H Q E
def sp_ny_tell (K : PySem.W.Frag) (a : Ad) : Sp := fun vs H Q E => ∃ k j, spCall a [k, j] (.tell k j) vs H Q E
def sp_ny_drop (K : PySem.W.Frag) (a : Ad) : Sp := fun vs H Q E => spCall a [] .drop vs H Q E
def sp_ny_know (K : PySem.W.Frag) (a : Ad) : Sp := fun vs H Q E => ∃ i y, spCall a [i, y] (.know i y) vs H Q E
def sp_ny_forget (K : PySem.W.Frag) (a : Ad) : Sp := fun vs H Q E => ∃ i, spCall a [i] (.forget i) vs H Q E
def sp_ny_up_to (K : PySem.W.Frag) (a : Ad) : Sp := fun vs H Q E => ∃ e, spCall a [e] (.upTo e) vs H Q E
def sp_ny_name (K : PySem.W.Frag) (a : Ad) : Sp := fun vs H Q E => ∃ y, spCall a [y] (.name y) vs H Q E
def sp_ny_years (K : PySem.W.Frag) (a : Ad) : Sp := fun vs H Q E => ∃ i, spCall a [i] (.years i) vs H Q E
def sp_ny_soonest (K : PySem.W.Frag) (a : Ad) : Sp := fun vs H Q E => spCall a [] .soonest vs H Q E
def sp_ny_latest (K : PySem.W.Frag) (a : Ad) : Sp := fun vs H Q E => spCall a [] .latest vs H Q E
def sp_ny_count (K : PySem.W.Frag) (a : Ad) : Sp := fun vs H Q E => spCall a [] .count vs H Q E
def optV : Option Nat → V := knV
def sp_first_later (K : PySem.W.Frag) (a : Ad) : Sp := fun vs H Q _ => ∃ (r : Addr) (ys : List Nat) (b : Int), vs = [.ref r, .int b] ∧ H r = some (.lst (nI ys)) ∧ Q (knV (ys.find? fun x => decide (b < (x : Int)))) H
def sp_last_earlier (K : PySem.W.Frag) (a : Ad) : Sp := fun vs H Q _ => ∃ (r : Addr) (ys : List Nat) (b : Int), vs = [.ref r, .int b] ∧ H r = some (.lst (nI ys)) ∧ Q (knV (ys.reverse.find? fun x => decide ((x : Int) < b))) H
/-- a reading comes out, or None -/
def Reads (H : Hp) (o : Option (List Nat)) (Q : VK) : Prop := (o = none → ∀ H', Same H H' → Q .non H') ∧ ∀ r, o = some r → ∀ (H' : Hp) (p : Addr), Same H H' → H' p = some (.lst (nI r)) → Q (.ref p) H'
def sp_soonest_reading (K : PySem.W.Frag) (a : Ad) : Sp := fun vs H Q _ => ∃ (D : Addr) (rs : List (List Nat)), vs = [.ref D] ∧ RowsAt H D rs ∧ rs.length ≤ 10 ∧ Reads H (soonL rs 0) Q
def sp_latest_reading (K : PySem.W.Frag) (a : Ad) : Sp := fun vs H Q _ => ∃ (D : Addr) (rs : List (List Nat)) (e : Nat), vs = [.ref D, .int (e : Nat)] ∧ RowsAt H D rs ∧ rs.length ≤ 10 ∧ Reads H (lateL rs.reverse (e + 1)) Q
def sp_ways_to_reach (K : PySem.W.Frag) (a : Ad) : Sp := fun vs H Q _ => ∃ (r b w : Addr) (ys ws : List Nat) (zs : List Int), vs = [.ref r, .ref b, .ref w] ∧ H r = some (.lst (nI ys)) ∧ H b = some (.lst (zs.map V.int)) ∧ H w = some (.lst (nI ws)) ∧
  ys.length ≤ 2001 ∧ ys.Pairwise (· < ·) ∧ zs.Pairwise (· < ·) ∧ ws.length = zs.length ∧ ∀ (H' : Hp) (p : Addr), Same H H' → H' p = some (.lst (nI (wayZ zs ws ys))) → Q (.ref p) H'
def sp_count_readings (K : PySem.W.Frag) (a : Ad) : Sp := fun vs H Q _ => ∃ (D : Addr) (rs : List (List Nat)), vs = [.ref D] ∧ RowsAt H D rs ∧ (∀ r ∈ rs, r.length ≤ 2001 ∧ r.Pairwise (· < ·)) ∧
  ∀ H' : Hp, Same H H' → Q (.int ((countZ rs [-1] [1] : Nat) : Int)) H'
def sp_reading_answer (K : PySem.W.Frag) (a : Ad) : Sp := fun vs H Q _ => (vs = [.non] ∧ ∀ (H' : Hp) (p : Addr), Same H H' → H' p = none → Q (.ref p) (upd H' p (.lst [.int (-33)]))) ∨
  ∃ (q : Addr) (r : List Nat), vs = [.ref q] ∧ H q = some (.lst (nI r)) ∧ r.length ≤ 10 ∧ ∀ (H' : Hp) (p : Addr), Same H H' → H' p = none → Q (.ref p) (upd H' p (.lst (nI (r.length :: Km498.fill 10 r))))
def sp_Chronicle_state (K : PySem.W.Frag) (a : Ad) : Sp := fun vs H Q _ => ∃ (c dx l h : Addr) (b : Km498.Book), vs = [.ref c] ∧ H c = some (.ins a.c_Chronicle dx (cF b l h)) ∧ ∀ p, H p = none → Q (.ref p) (upd H p (.tup [.ref l, .int (b.last : Nat)]))
def sp_Chronicle_return_to (K : PySem.W.Frag) (a : Ad) : Sp := fun vs H Q _ => ∃ (c dx l h p l2 : Addr) (b : Km498.Book) (z : Nat), vs = [.ref c, .ref p] ∧ H c = some (.ins a.c_Chronicle dx (cF b l h)) ∧ H p = some (.tup [.ref l2, .int (z : Nat)]) ∧
  ∀ H' : Hp, H' c = some (.ins a.c_Chronicle dx (cF { b with last := z } l2 h)) → (∀ x, x ≠ c → H' x = H x) → Q .non H'
def sp_History_take_back (K : PySem.W.Frag) (a : Ad) : Sp := fun vs H Q _ => ∃ (h dx P U p y : Addr) (ps us : List Addr), vs = [.ref h, .ref p] ∧ H h = some (.ins a.c_History dx (hF P U)) ∧ H P = some (.lst ((ps ++ [y]).map V.ref)) ∧ H U = some (.lst (us.map V.ref)) ∧ us.length ≤ 20 ∧ P ≠ U ∧
  ∀ H' : Hp, H' P = some (.lst (ps.map V.ref)) → H' U = some (.lst ((us ++ [p]).map V.ref)) → (∀ x, x ≠ P → x ≠ U → H' x = H x) → Q (.ref y) H'
def sp_History_do_again (K : PySem.W.Frag) (a : Ad) : Sp := fun vs H Q _ => ∃ (h dx P U p y : Addr) (ps us : List Addr), vs = [.ref h, .ref p] ∧ H h = some (.ins a.c_History dx (hF P U)) ∧ H P = some (.lst (ps.map V.ref)) ∧ H U = some (.lst ((us ++ [y]).map V.ref)) ∧ ps.length ≤ 20 ∧ P ≠ U ∧
  ∀ H' : Hp, H' P = some (.lst ((ps ++ [p]).map V.ref)) → H' U = some (.lst (us.map V.ref)) → (∀ x, x ≠ P → x ≠ U → H' x = H x) → Q (.ref y) H'
def sp_Chronicle_step_back (K : PySem.W.Frag) (a : Ad) : Sp := fun vs H Q _ => ∃ (R : Rg) (c : Addr) (d : Km498.Desk) (k : Km498.Book) (r : List Km498.Book), vs = [.ref c] ∧ Chr a R H c d ∧ DeskOk d ∧ d.past = k :: r ∧ Changed a R H c ⟨k, r, d.now :: d.future⟩ Q
def sp_Chronicle_step_again (K : PySem.W.Frag) (a : Ad) : Sp := fun vs H Q _ => ∃ (R : Rg) (c : Addr) (d : Km498.Desk) (k : Km498.Book) (r : List Km498.Book), vs = [.ref c] ∧ Chr a R H c d ∧ DeskOk d ∧ d.future = k :: r ∧ Changed a R H c ⟨k, d.now :: d.past, r⟩ Q
def sp_ny_back (K : PySem.W.Frag) (a : Ad) : Sp := fun vs H Q E => spCall a [] .back vs H Q E
def sp_ny_again (K : PySem.W.Frag) (a : Ad) : Sp := fun vs H Q E => spCall a [] .again vs H Q E
def sp_ny_told (K : PySem.W.Frag) (a : Ad) : Sp := fun vs H Q E => ∃ i, spCall a [i] (.told i) vs H Q E
def sp_ny_state (K : PySem.W.Frag) (a : Ad) : Sp := fun vs H Q E => spCall a [] .state vs H Q E
def sp_ny_sure (K : PySem.W.Frag) (a : Ad) : Sp := fun vs H Q E => spCall a [] .sure vs H Q E
def sp_ny_one (K : PySem.W.Frag) (a : Ad) : Sp := fun vs H Q E => spCall a [] .one vs H Q E
def sp_ny_when (K : PySem.W.Frag) (a : Ad) : Sp := fun vs H Q E => ∃ i, spCall a [i] (.when_ i) vs H Q E
def sp_ny_rounds (K : PySem.W.Frag) (a : Ad) : Sp := fun vs H Q E => ∃ i, spCall a [i] (.rounds i) vs H Q E
def sp_ny_apart (K : PySem.W.Frag) (a : Ad) : Sp := fun vs H Q E => ∃ i j, spCall a [i, j] (.apart i j) vs H Q E
def sp_ny_could (K : PySem.W.Frag) (a : Ad) : Sp := fun vs H Q E => ∃ i y, spCall a [i, y] (.could i y) vs H Q E
def sp_Span_init (K : PySem.W.Frag) (a : Ad) : Sp := fun vs H Q _ => ∃ (x dx : Addr) (s t : Nat), vs = [.ref x, .int (s : Nat), .int (t : Nat)] ∧ H x = some (.ins a.c_Span dx []) ∧
  ∀ H' : Hp, H' x = some (.ins a.c_Span dx (sF s t)) → (∀ b o, H b = some o → b ≠ x → H' b = some o) → Q .non H'
def sp_Span_is_one_year (K : PySem.W.Frag) (a : Ad) : Sp := fun vs H Q _ => ∃ (x dx : Addr) (s t : Nat), vs = [.ref x] ∧ H x = some (.ins a.c_Span dx (sF s t)) ∧ Q (.bl (decide (s = t))) H
def SpnAt (H : Hp) (x : Addr) (z : Nat × Nat) : Prop := ∃ dx, H x = some (.ins a.c_Span dx (sF z.1 z.2))
def SpansAt (H : Hp) (D : Addr) (ss : List (Nat × Nat)) : Prop := ∃ xs : List Addr, H D = some (.lst (xs.map V.ref)) ∧ Pr (SpnAt a H) xs ss
/-- spans come out, or None -/
def Spans (H : Hp) (o : Option (List (Nat × Nat))) (Q : VK) : Prop := (o = none → ∀ H', Same H H' → Q .non H') ∧ ∀ ss, o = some ss → ∀ (H' : Hp) (p : Addr), Same H H' → SpansAt a H' p ss → Q (.ref p) H'
def sp_entry_spans (K : PySem.W.Frag) (a : Ad) : Sp := fun vs H Q _ => ∃ (D : Addr) (rs : List (List Nat)) (e : Nat), vs = [.ref D, .int (e : Nat)] ∧ RowsAt H D rs ∧ rs.length ≤ 10 ∧ Spans a H (spansL rs e) Q
def sp_all_spans (K : PySem.W.Frag) (a : Ad) : Sp := fun vs H Q _ => ∃ (R : Rg) (c : Addr) (d : Km498.Desk), vs = [.ref c] ∧ Chr a R H c d ∧ DeskOk d ∧ Spans a H (spansOf d.now) Q
def sp_answers (K : PySem.W.Frag) (a : Ad) : Sp := fun vs H Q _ => ∃ (l : Addr) (ns : List Int), vs = [.ref l] ∧ SqL K H l (ns.map V.int) ∧ ns.length ≤ 6000 ∧ PyKm498.answers_asked ns = true ∧
  ∀ (H' : Hp) (p : Addr), H' p = some (.lst ((PyKm498.answers ns).map V.int)) → Q (.ref p) H'
end Ry

set_option Elab.async false
set_option maxRecDepth 100000
set_option maxHeartbeats 2000000
namespace Ry
open PySem PySem.Spec PyProof.Rows L2 RyM
section
variable {P : Program} {w : World} {K : PySem.W.Frag} {mg : Str → Option Value} {base : Heap} {a : Ad} {D : Fd}
theorem ok_round_length (T : Txt K mg a D) : FnOk P w K mg base CX0 1 a.f_round_length D.d_round_length p_round_length (sp_round_length K a) := by
  refine T.F_round_length.ok sc_round_length (fun vs H Q E h => ?_) (fun cdv A outer s H vs Q E hr h => ?_)
  · obtain ⟨R, c, d, rfl, _⟩ := h; rfl
  · obtain ⟨R, c, d, rfl, ⟨dx, l, h, dh, P', U, ps, us, q⟩, ok, k⟩ := h
    refine ⟨_, (pss_one (ps_ret (pe_op op_mul (pe_fld (pv 0) rfl) (pe_fld (pv 0) rfl)))), ?_⟩
    have h1 := ok.now.t2
    refine ⟨_, rfl, c, _, dx, _, _, rfl, q.at', T.cl_Chronicle, T.no_Chronicle_reign_length, cF_t _ _ _, _, rfl, c, _, dx, _, _, rfl, q.at', T.cl_Chronicle, T.no_Chronicle_name_total, cF_n _ _ _, _, _, rfl, rfl, .inl ⟨by omega, by omega⟩, ?_⟩
    exact k
theorem ok_year_name (T : Txt K mg a D) : FnOk P w K mg base CX0 1 a.f_year_name D.d_year_name p_year_name (sp_year_name K a) := by
  refine T.F_year_name.ok sc_year_name (fun vs H Q E h => ?_) (fun cdv A outer s H vs Q E hr h => ?_)
  · obtain ⟨R, c, d, y, rfl, _⟩ := h; rfl
  · obtain ⟨R, c, d, y, rfl, ⟨dx, l, h, dh, P', U, ps, us, q⟩, ok, hy, k⟩ := h
    refine ⟨_, (pss_one (ps_ret (pe_op op_modN (pe_op op_fdivN (pe_op op_sub (pv 1) (pe_fld (pv 0) rfl)) (pe_fld (pv 0) rfl)) (pe_fld (pv 0) rfl)))), ?_⟩
    have h1 := ok.now.t1
    have h2 := ok.now.t2
    have h3 := ok.now.n1
    refine ⟨_, rfl, _, rfl, c, _, dx, _, _, rfl, q.at', T.cl_Chronicle, T.no_Chronicle_first_year, cF_f _ _ _, _, _, rfl, rfl, _, rfl, c, _, dx, _, _, rfl, q.at', T.cl_Chronicle, T.no_Chronicle_reign_length, cF_t _ _ _, _, _, rfl, rfl, ⟨by omega, by omega⟩,
      _, rfl, c, _, dx, _, _, rfl, q.at', T.cl_Chronicle, T.no_Chronicle_name_total, cF_n _ _ _, _, _, rfl, rfl, (by show ((d.now.names : Nat) : Int) ≠ 0; omega), ?_⟩
    have e : (((y : Int) - (d.now.first : Int)).fdiv (d.now.term : Int)).fmod (d.now.names : Int) = (d.now.nameOf y : Nat) := by
      have e0 : (y : Int) - (d.now.first : Int) = ((y - d.now.first : Nat) : Int) := by omega
      rw [e0, Int.fdiv_eq_ediv_of_nonneg _ (by omega), Int.fmod_eq_emod_of_nonneg _ (by omega)]
      rfl
    show Q (.int ((((y : Int) - (d.now.first : Int)).fdiv (d.now.term : Int)).fmod (d.now.names : Int))) H
    rw [e]
    exact k
theorem ok_year_in_reign (T : Txt K mg a D) : FnOk P w K mg base CX0 1 a.f_year_in_reign D.d_year_in_reign p_year_in_reign (sp_year_in_reign K a) := by
  refine T.F_year_in_reign.ok sc_year_in_reign (fun vs H Q E h => ?_) (fun cdv A outer s H vs Q E hr h => ?_)
  · obtain ⟨R, c, d, y, rfl, _⟩ := h; rfl
  · obtain ⟨R, c, d, y, rfl, ⟨dx, l, h, dh, P', U, ps, us, q⟩, ok, hy, k⟩ := h
    refine ⟨_, (pss_one (ps_ret (pe_op op_modN (pe_op op_sub (pv 1) (pe_fld (pv 0) rfl)) (pe_fld (pv 0) rfl)))), ?_⟩
    have h1 := ok.now.t1
    refine ⟨_, rfl, _, rfl, c, _, dx, _, _, rfl, q.at', T.cl_Chronicle, T.no_Chronicle_first_year, cF_f _ _ _, _, _, rfl, rfl, _, rfl, c, _, dx, _, _, rfl, q.at', T.cl_Chronicle, T.no_Chronicle_reign_length, cF_t _ _ _, _, _, rfl, rfl, (by show ((d.now.term : Nat) : Int) ≠ 0; omega), ?_⟩
    have e : ((y : Int) - (d.now.first : Int)).fmod (d.now.term : Int) = (d.now.atOf y : Nat) := by
      have e0 : (y : Int) - (d.now.first : Int) = ((y - d.now.first : Nat) : Int) := by omega
      rw [e0, Int.fmod_eq_emod_of_nonneg _ (by omega)]
      rfl
    show Q (.int (((y : Int) - (d.now.first : Int)).fmod (d.now.term : Int))) H
    rw [e]
    exact k
theorem round_pos {d : Km498.Desk} (ok : DeskOk d) : 2 ≤ d.now.round ∧ d.now.round ≤ 640 := by
  have h1 := ok.now.t1
  have h2 := ok.now.t2
  have h3 := ok.now.n1
  have h4 := ok.now.n2
  have e1 : 1 * 2 ≤ d.now.term * d.now.names := Nat.mul_le_mul h1 h3
  have e2 : d.now.term * d.now.names ≤ 40 * 16 := Nat.mul_le_mul h2 h4
  exact ⟨e1, e2⟩
theorem ok_year_round (T : Txt K mg a D) : FnOk P w K mg base CX0 2 a.f_year_round D.d_year_round p_year_round (sp_year_round K a) := by
  refine T.F_year_round.ok sc_year_round (fun vs H Q E h => ?_) (fun cdv A outer s H vs Q E hr h => ?_)
  · obtain ⟨R, c, d, y, rfl, _⟩ := h; rfl
  · obtain ⟨R, c, d, y, rfl, C, ok, hy, k⟩ := h
    obtain ⟨dx, l, h, dh, P', U, ps, us, q⟩ := id C
    refine ⟨_, (pss_one (ps_ret (pe_op op_fdivN (pe_op op_sub (pv 1) (pe_fld (pv 0) rfl)) (pe_call (ok_round_length T) (hr.mono (by decide)) rfl T.g_round_length T.F_round_length.kp T.b_round_length .nil pass0 (pa_cons (pv 0) pa_nil))))), ?_⟩
    have hr := round_pos ok
    refine ⟨_, rfl, _, rfl, c, _, dx, _, _, rfl, q.at', T.cl_Chronicle, T.no_Chronicle_first_year, cF_f _ _ _, _, _, rfl, rfl, _, rfl, R, c, d, rfl, C, ok, _, _, rfl, rfl, ⟨by omega, by omega⟩, ?_⟩
    have e : ((y : Int) - (d.now.first : Int)).fdiv (d.now.round : Int) = (((y - d.now.first) / d.now.round : Nat) : Int) := by
      have e0 : (y : Int) - (d.now.first : Int) = ((y - d.now.first : Nat) : Int) := by omega
      rw [e0, Int.fdiv_eq_ediv_of_nonneg _ (by omega)]
      rfl
    show Q (.int (((y : Int) - (d.now.first : Int)).fdiv (d.now.round : Int))) H
    rw [e]
    exact k
end
end Ry

set_option Elab.async false
set_option maxRecDepth 100000
set_option maxHeartbeats 2000000
namespace Ry
open PySem PySem.Spec PyProof.Rows L2 RyM
theorem dT {p : Prop} [Decidable p] (h : decide p = true) : p := of_decide_eq_true h
theorem dF {p : Prop} [Decidable p] (h : ¬ decide p = true) : ¬ p := fun q => h (decide_eq_true q)
theorem rgC_pos {a b c : Nat} (hc : 0 < c) (h1 : a ≤ 1000000) (h2 : b ≤ 1000000) (h3 : c ≤ 1000000) : RgC (a : Int) (b : Int) (c : Int) (rgN a b c) := by
  have hs : Builtin.Range.rangeSize (a : Int) (b : Int) (c : Int) = ((rgN a b c : Nat) : Int) := by
    unfold Builtin.Range.rangeSize rgN
    rw [if_pos (by omega)]
    by_cases h : a < b
    · rw [if_pos (by omega), if_pos h]
      have e : (b : Int) - (a : Int) - 1 = ((b - a - 1 : Nat) : Int) := by omega
      rw [e]
      rfl
    · rw [if_neg (by omega), if_neg h]
      rfl
  have hn : rgN a b c ≤ 1000000 := by
    unfold rgN
    split
    · have := Nat.div_le_self (b - a - 1) c
      omega
    · omega
  refine ⟨by omega, by omega, ?_, hs⟩
  unfold Builtin.Range.small
  rw [hs]
  simp only [Builtin.Range.rangeFitsLong, Bool.and_eq_true, Bool.or_eq_true, decide_eq_true_eq, beq_iff_eq]
  have hp : (c : Int) > 0 := by omega
  simp only [hp, if_true, Bool.and_eq_true, decide_eq_true_eq]
  omega
theorem stepV_nat (a c n : Nat) : stepV (a : Int) (c : Int) n = nI ((List.range n).map fun i => a + i * c) := by
  unfold stepV nI
  rw [List.map_map]
  refine List.map_congr_left fun i _ => ?_
  show V.int ((a : Int) + (i : Nat) * (c : Int)) = V.int ((a + i * c : Nat) : Int)
  rw [Int.natCast_add, Int.natCast_mul]
section
variable {P : Program} {w : World} {K : PySem.W.Frag} {mg : Str → Option Value} {base : Heap} {a : Ad} {D : Fd}
theorem ok_told_years (T : Txt K mg a D) : FnOk P w K mg base CX0 2 a.f_told_years D.d_told_years p_told_years (sp_told_years K a) := by
  refine T.F_told_years.ok sc_told_years (fun vs H Q E h => ?_) (fun cdv A outer s H vs Q E hr h => ?_)
  · obtain ⟨R, c, x, d, e, rfl, _⟩ := h; rfl
  · obtain ⟨R, c, x, d, e, rfl, C, ok, ⟨dE, hE⟩, eo, hk, k⟩ := h
    obtain ⟨dx, l, h, dh, P', U, ps, us, q⟩ := id C
    refine ⟨_, (pss_cons (ps_set (i := 2) sc_told_years.nd rfl (Or.inl rfl) (pe_op op_add (pe_op op_add (pe_fld (pv 0) rfl) (pe_op op_mul (pe_fld (pv 1) rfl) (pe_fld (pv 0) rfl))) (pe_fld (pv 1) rfl)))
        (pss_one (ps_ret (pe_listRg3 rfl (by rfl) T.z_list (by rfl) T.z_range (pa_cons (pv 2) (pa_cons (pe_op op_add (pe_fld (pv 0) rfl) pe_int) (pa_cons (pe_call (ok_round_length T) (hr.mono (by decide)) rfl T.g_round_length T.F_round_length.kp T.b_round_length .nil pass0 (pa_cons (pv 0) pa_nil)) pa_nil))))))), ?_⟩
    have hr := round_pos ok
    have h1 := eo.nm
    have h2 := eo.at'
    have h3 := ok.now.n2
    have h4 := ok.now.t2
    have h5 := ok.now.f2
    have h6 := ok.now.l2
    have h7 : e.name * d.now.term ≤ 16 * 40 := Nat.mul_le_mul (by omega) h4
    refine ⟨_, rfl, c, _, dx, _, _, rfl, q.at', T.cl_Chronicle, T.no_Chronicle_first_year, cF_f _ _ _,
      _, rfl, x, _, dE, _, _, rfl, hE, T.cl_Entry, T.no_Entry_name, eF_n _,
      _, rfl, c, _, dx, _, _, rfl, q.at', T.cl_Chronicle, T.no_Chronicle_reign_length, cF_t _ _ _, _, _, rfl, rfl, .inl ⟨by omega, by omega⟩, _, _, rfl, rfl,
      _, rfl, x, _, dE, _, _, rfl, hE, T.cl_Entry, T.no_Entry_reign_year, eF_r _, _, _, rfl, rfl, ?_⟩
    refine ⟨_, rfl, _, rfl, c, _, dx, _, _, rfl, q.at', T.cl_Chronicle, T.no_Chronicle_last_year, cF_e _ _ _, _, _, rfl, rfl, _, rfl, R, c, d, rfl, C, ok, _, _, _, rgN (d.now.first + e.name * d.now.term + e.at_) (d.now.last + 1) d.now.round, rfl, ?_, ?_, fun p hp => ?_⟩
    · have e1 : ((d.now.first : Nat) : Int) + ((e.name : Nat) : Int) * ((d.now.term : Nat) : Int) + ((e.at_ : Nat) : Int) = ((d.now.first + e.name * d.now.term + e.at_ : Nat) : Int) := by
        rw [Int.natCast_add, Int.natCast_add, Int.natCast_mul]
      rw [e1]
      exact rgC_pos (b := d.now.last + 1) (by omega) (by omega) (by omega) (by omega)
    · have := rgC_pos (a := d.now.first + e.name * d.now.term + e.at_) (b := d.now.last + 1) (c := d.now.round) (by omega) (by omega) (by omega) (by omega)
      unfold rgN
      split
      · have := Nat.div_le_self (d.now.last + 1 - (d.now.first + e.name * d.now.term + e.at_) - 1) d.now.round
        omega
      · omega
    · have e1 : ((d.now.first : Nat) : Int) + ((e.name : Nat) : Int) * ((d.now.term : Nat) : Int) + ((e.at_ : Nat) : Int) = ((d.now.first + e.name * d.now.term + e.at_ : Nat) : Int) := by
        rw [Int.natCast_add, Int.natCast_add, Int.natCast_mul]
      have := k p hp
      rw [years_none hk ok.now.t1 h1 h2] at this
      rw [e1, stepV_nat]
      exact this
theorem ok_entry_years (T : Txt K mg a D) : FnOk P w K mg base CX0 3 a.f_entry_years D.d_entry_years p_entry_years (sp_entry_years K a) := by
  refine T.F_entry_years.ok sc_entry_years (fun vs H Q E h => ?_) (fun cdv A outer s H vs Q E hr h => ?_)
  · obtain ⟨R, c, x, d, e, rfl, _⟩ := h; rfl
  · obtain ⟨R, c, x, d, e, rfl, C, ok, hx, eo, k⟩ := h
    obtain ⟨dE, hE⟩ := id hx
    obtain ⟨dx, l, h, dh, P', U, ps, us, q⟩ := id C
    refine ⟨_, (pss_cons (ps_if (pt_cmpR op_isN (pe_fld (pv 1) rfl) pe_non (nomark _))
        (pss_one (ps_ret (pe_call (ok_told_years T) (hr.mono (by decide)) rfl T.g_told_years T.F_told_years.kp T.b_told_years .nil pass0 (pa_cons (pv 0) (pa_cons (pv 1) pa_nil))))) pss_nil)
        (pss_cons (ps_if (pt_cmpR op_le (pe_fld (pv 1) rfl) (pe_fld (pv 0) rfl) (nomark _))
        (pss_one (ps_ret (pe_lst (pa_cons (pe_fld (pv 1) rfl) pa_nil)))) pss_nil)
        (pss_one (ps_ret (pe_lst pa_nil))))), ?_⟩
    refine ⟨_, rfl, x, _, dE, _, _, rfl, hE, T.cl_Entry, T.no_Entry_known, eF_k _, rfl, _, rfl, ?_⟩
    cases hk : e.known with
    | none =>
      refine ite2 (fun _ => ?_) (fun hn => absurd rfl hn)
      exact ⟨_, rfl, _, rfl, R, c, x, d, e, rfl, C, ok, hx, eo, hk, k⟩
    | some z =>
      refine ite2 (fun hn => absurd hn (by simp [knV])) (fun _ => ?_)
      obtain ⟨g1, g2, g3, g4⟩ := eo.kn z hk
      have hy := years_known hk g1 g3 g4
      have hE' := hE
      refine ⟨_, rfl, x, _, dE, _, _, rfl, hE, T.cl_Entry, T.no_Entry_known, (eF_k _).trans (by rw [hk]; rfl), _, rfl, c, _, dx, _, _, rfl, q.at', T.cl_Chronicle, T.no_Chronicle_last_year, cF_e _ _ _, _, _, rfl, rfl, _, rfl, ?_⟩
      refine ite2 (fun hle => ?_) (fun hle => ?_)
      · have hle' : z ≤ d.now.last := by simpa using hle
        refine ⟨_, rfl, x, _, dE, _, _, rfl, hE, T.cl_Entry, T.no_Entry_known, (eF_k _).trans (by rw [hk] <;> rfl), (by show 1 ≤ sizeLine; decide), fun p hp => ?_⟩
        have := k p hp
        rw [hy, if_pos hle'] at this
        exact this
      · have hle' : ¬ z ≤ d.now.last := by simpa using hle
        refine ⟨Nat.zero_le _, fun p hp => ?_⟩
        have := k p hp
        rw [hy, if_neg hle'] at this
        exact this
theorem ok_fits_as_last_year (T : Txt K mg a D) : FnOk P w K mg base CX0 1 a.f_fits_as_last_year D.d_fits_as_last_year p_fits_as_last_year (sp_fits_as_last_year K a) := by
  refine T.F_fits_as_last_year.ok sc_fits_as_last_year (fun vs H Q E h => ?_) (fun cdv A outer s H vs Q E hr h => ?_)
  · obtain ⟨f, e, rfl, _⟩ := h; rfl
  · obtain ⟨f, e, rfl, k⟩ := h
    refine ⟨_, (pss_one (ps_ret (pe_and (pe_cmpR op_le (pv 0) (pv 1) (nomark _)) (pe_one (pe_cmpR op_le (pv 1) (pe_glob (v := .int (2000)) rfl T.g_HIGHEST_YEAR.choose_spec ⟨_, rfl⟩) (nomark _)))))), ?_⟩
    refine ⟨_, rfl, _, rfl, _, _, rfl, rfl, _, rfl, ?_⟩
    refine ite2 (fun h1 => ?_) (fun h1 => ?_)
    · have h1' : f ≤ e := by simpa using h1
      refine ⟨_, rfl, _, _, rfl, rfl, ?_⟩
      have : decide ((e : Int) ≤ 2000) = decide (f ≤ e ∧ e ≤ 2000) := by
        by_cases h2 : e ≤ 2000
        · rw [decide_eq_true (by omega), decide_eq_true ⟨h1', h2⟩]
        · rw [decide_eq_false (by omega), decide_eq_false (by omega)]
      show Q (.bl (decide ((e : Int) ≤ 2000))) H
      rw [this]
      exact k
    · have h1' : ¬ f ≤ e := by simpa using h1
      have : false = decide (f ≤ e ∧ e ≤ 2000) := by rw [decide_eq_false (by omega)]
      rw [this]
      exact k
theorem ok_fits_as_start (T : Txt K mg a D) : FnOk P w K mg base CX0 2 a.f_fits_as_start D.d_fits_as_start p_fits_as_start (sp_fits_as_start K a) := by
  refine T.F_fits_as_start.ok sc_fits_as_start (fun vs H Q E h => ?_) (fun cdv A outer s H vs Q E hr h => ?_)
  · obtain ⟨t, n, f, e, rfl, _⟩ := h; rfl
  · obtain ⟨t, n, f, e, rfl, k⟩ := h
    refine ⟨_, (pss_cons (ps_if (PW.pt (pw_or (pt_cmpR op_lt (pv 0) pe_int (nomark _)) (pw_or1 (pt_cmpR op_gt (pv 0) (pe_glob (v := .int (40)) rfl T.g_MOST_REIGN_YEARS.choose_spec ⟨_, rfl⟩) (nomark _)))))
        (pss_one (ps_ret pe_bl)) pss_nil)
        (pss_cons (ps_if (PW.pt (pw_or (pt_cmpR op_lt (pv 1) (pe_glob (v := .int (2)) rfl T.g_FEWEST_NAMES.choose_spec ⟨_, rfl⟩) (nomark _)) (pw_or1 (pt_cmpR op_gt (pv 1) (pe_glob (v := .int (16)) rfl T.g_MOST_NAMES.choose_spec ⟨_, rfl⟩) (nomark _)))))
        (pss_one (ps_ret pe_bl)) pss_nil)
        (pss_one (ps_ret (pe_and (pe_cmpR op_le (pv 2) (pe_glob (v := .int (500)) rfl T.g_HIGHEST_FIRST_YEAR.choose_spec ⟨_, rfl⟩) (nomark _)) (pe_one (pe_call (ok_fits_as_last_year T) (hr.mono (by decide)) rfl T.g_fits_as_last_year T.F_fits_as_last_year.kp T.b_fits_as_last_year .nil pass0 (pa_cons (pv 2) (pa_cons (pv 3) pa_nil))))))))), ?_⟩
    have hL : Km498.LAST = 2000 := rfl
    rw [hL] at k
    have no : (t = 0 ∨ 40 < t ∨ n < 2 ∨ 16 < n ∨ 500 < f ∨ e < f ∨ 2000 < e) → Q (.bl false) H := fun hc => by
      rw [decide_eq_true hc] at k
      exact k
    refine ⟨_, rfl, _, _, rfl, rfl, _, rfl, ?_⟩
    refine ite2 (fun h1 => ?_) (fun h1 => ?_)
    · exact iteT (no (.inl (by have := dT h1; omega)))
    have h1' : 1 ≤ t := by have := dF h1; omega
    refine ⟨_, rfl, _, _, rfl, rfl, _, rfl, ?_⟩
    refine ite2 (fun h2 => ?_) (fun h2 => ?_)
    · exact no (by have := dT h2; omega)
    have h2' : t ≤ 40 := by have := dF h2; omega
    refine ⟨_, rfl, _, _, rfl, rfl, _, rfl, ?_⟩
    refine ite2 (fun h3 => ?_) (fun h3 => ?_)
    · exact iteT (no (by have := dT h3; omega))
    have h3' : 2 ≤ n := by have := dF h3; omega
    refine ⟨_, rfl, _, _, rfl, rfl, _, rfl, ?_⟩
    refine ite2 (fun h4 => ?_) (fun h4 => ?_)
    · exact no (by have := dT h4; omega)
    have h4' : n ≤ 16 := by have := dF h4; omega
    refine ⟨_, rfl, _, _, rfl, rfl, _, rfl, ?_⟩
    refine ite2 (fun h5 => ?_) (fun h5 => ?_)
    · have h5' : f ≤ 500 := by have := dT h5; omega
      refine ⟨_, rfl, _, rfl, f, e, rfl, ?_⟩
      have : (!decide (t = 0 ∨ 40 < t ∨ n < 2 ∨ 16 < n ∨ 500 < f ∨ e < f ∨ 2000 < e)) = decide (f ≤ e ∧ e ≤ 2000) := by
        by_cases h6 : f ≤ e ∧ e ≤ 2000
        · rw [decide_eq_true h6, decide_eq_false (by omega)]; rfl
        · rw [decide_eq_false h6, decide_eq_true (by omega)]; rfl
      rw [← this]
      exact k
    · exact no (by have := dF h5; omega)
end
end Ry

set_option Elab.async false
set_option maxRecDepth 100000
set_option maxHeartbeats 2000000
namespace Ry
open PySem PySem.Spec PyProof.Rows L2 RyM
theorem upd_none' {H : Hp} {p b : Addr} {o : HO} (h : upd H p o b = none) : b ≠ p ∧ H b = none := by
  by_cases e : b = p
  · rw [e, upd_same] at h; cases h
  · rw [upd_ne e] at h; exact ⟨e, h⟩
theorem last_of {ps : List Addr} {p : Addr} {m : Nat} (hm : m = ps.length + 1 - 20) : cutV ((ps.map V.ref) ++ [V.ref p]) (some (if ((((ps.map V.ref) ++ [V.ref p]).length : Nat) : Int) - 20 > 0 then ((((ps.map V.ref) ++ [V.ref p]).length : Nat) : Int) - 20 else 0)) none = ((ps ++ [p]).drop m).map V.ref := by
  have hl : ((ps.map V.ref) ++ [V.ref p]).length = ps.length + 1 := by rw [List.length_append, List.length_map, List.length_singleton]
  have hi : HT.sIx (ps.length + 1) 0 (some (if ((ps.length + 1 : Nat) : Int) - 20 > 0 then ((ps.length + 1 : Nat) : Int) - 20 else 0)) = m := by
    have hv : (if ((ps.length + 1 : Nat) : Int) - 20 > 0 then ((ps.length + 1 : Nat) : Int) - 20 else 0) = ((m : Nat) : Int) := by split <;> omega
    rw [hv]
    show (if ((m : Nat) : Int) < 0 then (((m : Nat) : Int) + ((ps.length + 1 : Nat) : Int)).toNat else min ((m : Nat) : Int).toNat (ps.length + 1)) = m
    rw [if_neg (by omega)]
    omega
  have hj : HT.sIx (ps.length + 1) (ps.length + 1) none = ps.length + 1 := rfl
  unfold cutV
  rw [hl, hi, hj, List.map_drop, List.map_append, List.map_singleton]
  refine List.take_of_length_le ?_
  rw [List.length_drop, hl]
  exact Nat.le_refl _
section
variable {P : Program} {w : World} {K : PySem.W.Frag} {mg : Str → Option Value} {base : Heap} {a : Ad} {D : Fd}
theorem ok_History_init (T : Txt K mg a D) : FnOk P w K mg base CX0 1 a.f_History_init D.d_History_init p_History_init (sp_History_init K a) := by
  refine T.F_History_init.ok sc_History_init (fun vs H Q E h => ?_) (fun cdv A outer s H vs Q E hr h => ?_)
  · obtain ⟨p, dx, rfl, _⟩ := h; rfl
  · obtain ⟨p, dx, rfl, hp, k⟩ := h
    refine ⟨_, (pss_cons (ps_fld (pv 0) (pe_lst pa_nil) rfl)
        (pss_one (ps_fld (pv 0) (pe_lst pa_nil) rfl))), ?_⟩
    refine ⟨Nat.zero_le _, fun P hP => ?_⟩
    have n1 : p ≠ P := ne_of_none hp hP
    refine ⟨_, rfl, p, _, dx, [], rfl, (by rw [upd_ne n1]; exact hp), T.cl_History, T.no_History_past, (by show 0 < 1000; decide), ?_⟩
    refine ⟨Nat.zero_le _, fun U hU => ?_⟩
    obtain ⟨n2, hU⟩ := upd_none' hU
    obtain ⟨n3, hU⟩ := upd_none' hU
    refine ⟨_, rfl, p, _, dx, _, rfl, (by rw [upd_ne n2.symm]; exact upd_same), T.cl_History, T.no_History_undone, (by show 1 < 1000; decide), ?_⟩
    refine k _ P U hP hU n3.symm (upd_same.trans ?_) ?_ ?_ fun b o e nb => ?_
    · rfl
    · rw [upd_ne n1.symm, upd_ne n3.symm, upd_ne n1.symm, upd_same]
    · rw [upd_ne n2, upd_same]
    · rw [upd_ne nb, upd_ne (ne_of_none e hU), upd_ne nb, upd_ne (ne_of_none e hP)]
      exact e
theorem ok_History_note_change (T : Txt K mg a D) : FnOk P w K mg base CX0 1 a.f_History_note_change D.d_History_note_change p_History_note_change (sp_History_note_change K a) := by
  refine T.F_History_note_change.ok sc_History_note_change (fun vs H Q E h => ?_) (fun cdv A outer s H vs Q E hr h => ?_)
  · obtain ⟨h, dx, P, U, p, ps, rfl, _⟩ := h; rfl
  · obtain ⟨h, dx, P, U, p, ps, rfl, hh, hP, hl, k⟩ := h
    refine ⟨_, (pss_cons (ps_set (i := 2) sc_History_note_change.nd rfl (Or.inl rfl) (pe_op op_cat (pe_fld (pv 0) rfl) (pe_lst (pa_cons (pv 1) pa_nil))))
        (pss_cons (ps_fld (pv 0) (pe_slice sl_list (pv 2) (po_some (pe_callB (call_max2 rfl) (by rfl) T.z_max (by decide +kernel) (pa_cons pe_int (pa_cons (pe_op op_sub (pe_callB call_len_seq (by rfl) T.z_len PySem.boot_len (pa_cons (pv 2) pa_nil)) (pe_glob (v := .int (20)) rfl T.g_MOST_CHANGES.choose_spec ⟨_, rfl⟩)) pa_nil)))) po_none) rfl)
        (pss_one (ps_fld (pv 0) (pe_lst pa_nil) rfl)))), ?_⟩
    have hsz : ps.length + 1 ≤ sizeLine := Nat.le_trans (show ps.length + 1 ≤ 21 by omega) (by decide)
    refine ⟨_, rfl, h, _, dx, _, _, rfl, hh, T.cl_History, T.no_History_past, hF_p _ _, _, rfl, (by show 1 ≤ sizeLine; decide), fun q1 h1 => ?_⟩
    have n1 : P ≠ q1 := ne_of_none hP h1
    refine ⟨P, q1, _, _, rfl, rfl, (upd_ne n1).trans hP, upd_same, (by rw [List.length_map, List.length_singleton]; exact hsz), fun q2 h2 => ?_⟩
    obtain ⟨n2, h2⟩ := upd_none' h2
    have nh2 : h ≠ q2 := ne_of_none hh h2
    have nh1 : h ≠ q1 := ne_of_none hh h1
    refine ⟨_, rfl, _, rfl, q2, _, rfl, .inl (SqL.of upd_same), _, _, rfl, rfl, _, _, rfl, _, rfl, q2, _, rfl, SqL.of upd_same, fun P2 h3 => ?_⟩
    obtain ⟨n3, h3⟩ := upd_none' h3
    obtain ⟨n4, h3⟩ := upd_none' h3
    have nhP2 : h ≠ P2 := ne_of_none hh h3
    refine ⟨_, rfl, h, _, dx, _, rfl, (by rw [upd_ne nhP2, upd_ne nh2, upd_ne nh1]; exact hh), T.cl_History, T.no_History_past, (by show 2 < 1000; decide), ?_⟩
    refine ⟨Nat.zero_le _, fun U2 h4 => ?_⟩
    obtain ⟨m1, h4⟩ := upd_none' h4
    obtain ⟨m2, h4⟩ := upd_none' h4
    obtain ⟨m3, h4⟩ := upd_none' h4
    obtain ⟨m4, h4⟩ := upd_none' h4
    refine ⟨_, rfl, h, _, dx, _, rfl, (by rw [upd_ne m1.symm]; exact upd_same), T.cl_History, T.no_History_undone, (by rw [hF_put_p]; show 2 < 1000; decide), ?_⟩
    refine k _ P2 U2 h3 h4 m2.symm (upd_same.trans ?_) ?_ ?_ fun b o e nb => ?_
    · rw [hF_put_p, hF_put_u]
    · rw [upd_ne nhP2.symm, upd_ne m2.symm, upd_ne nhP2.symm, upd_same]
      exact congrArg (fun z => some (HO.lst z)) (last_of rfl)
    · rw [upd_ne m1, upd_same]
    · rw [upd_ne nb, upd_ne (ne_of_none e h4), upd_ne nb, upd_ne (ne_of_none e h3), upd_ne (ne_of_none e h2), upd_ne (ne_of_none e h1)]
      exact e
theorem ok_Entry_init (T : Txt K mg a D) : FnOk P w K mg base CX0 1 a.f_Entry_init D.d_Entry_init p_Entry_init (sp_Entry_init K a) := by
  refine T.F_Entry_init.ok sc_Entry_init (fun vs H Q E h => ?_) (fun cdv A outer s H vs Q E hr h => ?_)
  · obtain ⟨x, dx, e, rfl, _⟩ := h; rfl
  · obtain ⟨x, dx, e, rfl, hx, k⟩ := h
    refine ⟨_, (pss_cons (ps_fld (pv 0) (pv 1) rfl)
        (pss_cons (ps_fld (pv 0) (pv 2) rfl)
        (pss_one (ps_fld (pv 0) (pv 3) rfl)))), ?_⟩
    refine ⟨_, rfl, _, rfl, x, _, dx, [], rfl, hx, T.cl_Entry, T.no_Entry_name, (by show 0 < 1000; decide), ?_⟩
    refine ⟨_, rfl, _, rfl, x, _, dx, _, rfl, upd_same, T.cl_Entry, T.no_Entry_reign_year, (by show 1 < 1000; decide), ?_⟩
    refine ⟨_, rfl, _, rfl, x, _, dx, _, rfl, upd_same, T.cl_Entry, T.no_Entry_known, (by show 2 < 1000; decide), ?_⟩
    refine k _ (upd_same.trans ?_) fun b o e' nb => ?_
    · rfl
    · rw [upd_ne nb, upd_ne nb, upd_ne nb]
      exact e'
end
end Ry

set_option Elab.async false
set_option maxRecDepth 100000
set_option maxHeartbeats 2000000
namespace Ry
open PySem PySem.Spec PyProof.Rows L2 RyM
theorem putF_len (f : Str) (v : V) : ∀ fs : List (Str × V), (putF f v fs).length ≤ fs.length + 1
  | [] => Nat.le_refl _
  | (g, x) :: r => by
    by_cases h : g = f
    · subst h
      rw [put_here, List.length_cons, List.length_cons]
      omega
    · rw [put_past h, List.length_cons, List.length_cons]
      have := putF_len f v r
      omega
theorem begun_fields {fs : List (Str × V)} {t n f e : Nat} {l x : Addr} (h : fs = [] ∨ ∃ b l h, fs = cF b l h) :
    putF "history" (.ref x) (putF "entries" (.ref l) (putF "last_year" (.int (e : Nat)) (putF "first_year" (.int (f : Nat)) (putF "name_total" (.int (n : Nat)) (putF "reign_length" (.int (t : Nat)) fs))))) = cF ⟨t, n, f, e, []⟩ l x := by
  rcases h with rfl | ⟨b, l', h', rfl⟩
  · rfl
  · rw [cF_put_t, cF_put_n, cF_put_f, cF_put_e, cF_put_l, cF_put_h]
    rfl
section
variable {P : Program} {w : World} {K : PySem.W.Frag} {mg : Str → Option Value} {base : Heap} {a : Ad} {D : Fd}
theorem ok_Chronicle_begin (T : Txt K mg a D) : FnOk P w K mg base CX0 3 a.f_Chronicle_begin D.d_Chronicle_begin p_Chronicle_begin (sp_Chronicle_begin K a) := by
  refine T.F_Chronicle_begin.ok sc_Chronicle_begin (fun vs H Q E h => ?_) (fun cdv A outer s H vs Q E hr h => ?_)
  · obtain ⟨c, dx, fs, t, n, f, e, rfl, _⟩ := h; rfl
  · obtain ⟨c, dx, fs, t, n, f, e, rfl, hc, hfs, k⟩ := h
    refine ⟨_, (pss_cons (ps_fld (pv 0) (pv 1) rfl)
        (pss_cons (ps_fld (pv 0) (pv 2) rfl)
        (pss_cons (ps_fld (pv 0) (pv 3) rfl)
        (pss_cons (ps_fld (pv 0) (pv 4) rfl)
        (pss_cons (ps_fld (pv 0) (pe_lst pa_nil) rfl)
        (pss_one (ps_fld (pv 0) (pe_make0 T.mk_History (ok_History_init T) (hr.mono (by decide)) rfl T.g_History T.b_History_init .nil pass0) rfl))))))), ?_⟩
    have hl0 : fs.length ≤ 6 := by
      rcases hfs with rfl | ⟨b, l, h, rfl⟩
      · exact Nat.zero_le _
      · exact Nat.le_refl _
    have hl1 := putF_len "reign_length" (.int (t : Nat)) fs
    have hl2 := putF_len "name_total" (.int (n : Nat)) (putF "reign_length" (.int (t : Nat)) fs)
    have hl3 := putF_len "first_year" (.int (f : Nat)) (putF "name_total" (.int (n : Nat)) (putF "reign_length" (.int (t : Nat)) fs))
    have hl4 := putF_len "last_year" (.int (e : Nat)) (putF "first_year" (.int (f : Nat)) (putF "name_total" (.int (n : Nat)) (putF "reign_length" (.int (t : Nat)) fs)))
    refine ⟨_, rfl, _, rfl, c, _, dx, _, rfl, hc, T.cl_Chronicle, T.no_Chronicle_reign_length, (by omega), ?_⟩
    refine ⟨_, rfl, _, rfl, c, _, dx, _, rfl, upd_same, T.cl_Chronicle, T.no_Chronicle_name_total, (by omega), ?_⟩
    refine ⟨_, rfl, _, rfl, c, _, dx, _, rfl, upd_same, T.cl_Chronicle, T.no_Chronicle_first_year, (by omega), ?_⟩
    refine ⟨_, rfl, _, rfl, c, _, dx, _, rfl, upd_same, T.cl_Chronicle, T.no_Chronicle_last_year, (by omega), ?_⟩
    refine ⟨Nat.zero_le _, fun l hl => ?_⟩
    have nlc : l ≠ c := (upd_none' hl).1
    have hl' : H l = none := (upd_none' (upd_none' (upd_none' (upd_none' hl).2).2).2).2
    have hl5 := putF_len "entries" (.ref l) (putF "last_year" (.int (e : Nat)) (putF "first_year" (.int (f : Nat)) (putF "name_total" (.int (n : Nat)) (putF "reign_length" (.int (t : Nat)) fs))))
    refine ⟨_, rfl, c, _, dx, _, rfl, (upd_ne nlc.symm).trans upd_same, T.cl_Chronicle, T.no_Chronicle_entries, (by omega), ?_⟩
    intro x dh nx ndh nex
    obtain ⟨nxc, nx1⟩ := upd_none' nx
    obtain ⟨nxl, nx2⟩ := upd_none' nx1
    obtain ⟨ndc, nd1⟩ := upd_none' ndh
    obtain ⟨ndl, nd2⟩ := upd_none' nd1
    have hx' : H x = none := (upd_none' (upd_none' (upd_none' (upd_none' nx2).2).2).2).2
    have hd' : H dh = none := (upd_none' (upd_none' (upd_none' (upd_none' nd2).2).2).2).2
    refine ⟨x, dh, rfl, upd_same, fun H' P' U hP hU nPU gx gP gU kp => ⟨rfl, ?_⟩⟩
    obtain ⟨nPx, hP1⟩ := upd_none' hP
    obtain ⟨nPd, hP2⟩ := upd_none' hP1
    obtain ⟨nPc, hP3⟩ := upd_none' hP2
    obtain ⟨nPl, hP4⟩ := upd_none' hP3
    have hP' : H P' = none := (upd_none' (upd_none' (upd_none' (upd_none' hP4).2).2).2).2
    obtain ⟨nUx, hU1⟩ := upd_none' hU
    obtain ⟨nUd, hU2⟩ := upd_none' hU1
    obtain ⟨nUc, hU3⟩ := upd_none' hU2
    obtain ⟨nUl, hU4⟩ := upd_none' hU3
    have hU' : H U = none := (upd_none' (upd_none' (upd_none' (upd_none' hU4).2).2).2).2
    have gc := kp c _ (by rw [upd_ne nxc.symm, upd_ne ndc.symm, upd_same]) nxc.symm
    have gl := kp l _ (by rw [upd_ne nxl.symm, upd_ne ndl.symm, upd_ne nlc, upd_same]) nxl.symm
    refine ⟨_, rfl, c, _, dx, _, rfl, gc, T.cl_Chronicle, T.no_Chronicle_history, (by omega), ?_⟩
    refine k ⟨fun b => b = l, fun b => b = c ∨ b = x ∨ b = P' ∨ b = U⟩ _ ?_ fun b o eb nb => ?_
    · refine ⟨dx, l, x, dh, P', U, [], [], upd_same.trans ?_, ⟨rfl, [], ?_, Pr.nil⟩, ⟨?_, ?_, ?_, Pr.nil, Pr.nil, .inr (.inl rfl), .inr (.inr (.inl rfl)), .inr (.inr (.inr rfl)), nPU⟩, .inl rfl, ?_, ?_⟩
      · rw [begun_fields hfs]
      · rw [upd_ne nlc]; exact gl
      · rw [upd_ne nxc]; exact gx
      · rw [upd_ne nPc]; exact gP
      · rw [upd_ne nUc]; exact gU
      · rintro b rfl
        rintro (q | q | q | q)
        · exact nlc q
        · exact nxl q.symm
        · exact nPl q.symm
        · exact nUl q.symm
      · rintro b (rfl | rfl | rfl | rfl | rfl) z
        · rw [upd_ne nlc, gl] at z; cases z
        · rw [upd_same] at z; cases z
        · rw [upd_ne nxc, gx] at z; cases z
        · rw [upd_ne nPc, gP] at z; cases z
        · rw [upd_ne nUc, gU] at z; cases z
    · have n1 := ne_of_none eb hl'
      have n2 := ne_of_none eb hx'
      have n3 := ne_of_none eb hd'
      have n4 := ne_of_none eb hP'
      have n5 := ne_of_none eb hU'
      refine ⟨?_, n1, by rintro (q | q | q | q) <;> contradiction⟩
      rw [upd_ne nb]
      refine kp b o ?_ n2
      rw [upd_ne n2, upd_ne n3, upd_ne nb, upd_ne n1, upd_ne nb, upd_ne nb, upd_ne nb, upd_ne nb]
      exact eb
theorem ok_Chronicle_init (T : Txt K mg a D) : FnOk P w K mg base CX0 4 a.f_Chronicle_init D.d_Chronicle_init p_Chronicle_init (sp_Chronicle_init K a) := by
  refine T.F_Chronicle_init.ok sc_Chronicle_init (fun vs H Q E h => ?_) (fun cdv A outer s H vs Q E hr h => ?_)
  · obtain ⟨c, dx, rfl, _⟩ := h; rfl
  · obtain ⟨c, dx, rfl, hc, k⟩ := h
    refine ⟨_, (pss_one (ps_expr (pe_meth (pv 0) T.cl_Chronicle T.me_Chronicle_begin (ok_Chronicle_begin T) (hr.mono (by decide)) T.b_Chronicle_begin .nil pass0 (pa_cons pe_int (pa_cons pe_int (pa_cons pe_int (pa_cons pe_int pa_nil))))))), ?_⟩
    refine ⟨_, rfl, c, dx, _, rfl, hc, rfl, c, dx, [], 1, 2, 0, 0, rfl, hc, .inl rfl, k⟩
theorem ok_Chronicle_has_entry (T : Txt K mg a D) : FnOk P w K mg base CX0 1 a.f_Chronicle_has_entry D.d_Chronicle_has_entry p_Chronicle_has_entry (sp_Chronicle_has_entry K a) := by
  refine T.F_Chronicle_has_entry.ok sc_Chronicle_has_entry (fun vs H Q E h => ?_) (fun cdv A outer s H vs Q E hr h => ?_)
  · obtain ⟨R, c, d, i, rfl, _⟩ := h; rfl
  · obtain ⟨R, c, d, i, rfl, ⟨dx, l, h, dh, P', U, ps, us, q⟩, k⟩ := h
    refine ⟨_, (pss_one (ps_ret (pe_cmpR op_lt (pv 1) (pe_callB call_len_seq (by rfl) T.z_len PySem.boot_len (pa_cons (pe_fld (pv 0) rfl) pa_nil)) (nomark _)))), ?_⟩
    obtain ⟨_, xs, hx, hp⟩ := q.en
    refine ⟨_, rfl, _, rfl, c, _, dx, _, _, rfl, q.at', T.cl_Chronicle, T.no_Chronicle_entries, cF_l _ _ _, l, _, rfl, .inl (SqL.of hx), _, _, rfl, rfl, ?_⟩
    have e : decide ((i : Int) < (((xs.map V.ref).length : Nat) : Int)) = decide (i < d.now.entries.length) := by
      rw [List.length_map, hp.1]
      by_cases h1 : i < d.now.entries.length
      · rw [decide_eq_true h1, decide_eq_true (by omega)]
      · rw [decide_eq_false h1, decide_eq_false (by omega)]
    show Q (.bl (decide ((i : Int) < (((xs.map V.ref).length : Nat) : Int)))) H
    rw [e]
    exact k
end
end Ry

set_option Elab.async false
set_option maxRecDepth 100000
set_option maxHeartbeats 2000000
namespace Ry
open PySem PySem.Spec PyProof.Rows L2 RyM
theorem past_cut (n : Km498.Book) (ps : List Km498.Book) : ((n :: ps).take 20).reverse = (ps.reverse ++ [n]).drop (ps.length + 1 - 20) := by
  rw [List.reverse_take, List.length_cons, List.reverse_cons]
/-- behind note_change: the object as it is then -/
theorem noted {a : Ad} {R : Rg} {H H' HF : Hp} {c : Addr} {d : Km498.Desk} {dx l h dh P U p P2 U2 l' : Addr} {ps us : List Addr} {b' : Km498.Book} (q : Rep a R H c d dx l h dh P U ps us) (hp : H p = none)
    (hP2 : upd H p (.tup [.ref l, .int (d.now.last : Nat)]) P2 = none) (hU2 : upd H p (.tup [.ref l, .int (d.now.last : Nat)]) U2 = none) (ne : P2 ≠ U2) (gh : H' h = some (.ins a.c_History dh (hF P2 U2)))
    (gP : H' P2 = some (.lst (((ps ++ [p]).drop (ps.length + 1 - 20)).map V.ref))) (gU : H' U2 = some (.lst [])) (kp : ∀ b o, upd H p (.tup [.ref l, .int (d.now.last : Nat)]) b = some o → b ≠ h → H' b = some o)
    (hl' : EntsAt a R.im H l' b'.entries) (eF : HF = upd H' c (.ins a.c_Chronicle dx (cF b' l' h))) :
    Chr a ⟨fun b => R.im b ∨ b = p, fun b => R.mu b ∨ b = P2 ∨ b = U2⟩ HF c (d.become b') ∧ Kept R H ⟨fun b => R.im b ∨ b = p, fun b => R.mu b ∨ b = P2 ∨ b = U2⟩ HF := by
  subst eF
  obtain ⟨nPp, hP⟩ := upd_none' hP2
  obtain ⟨nUp, hU⟩ := upd_none' hU2
  have nhc : h ≠ c := ne_of q.hi.at' q.at' (by intro z; injection z with _ _ z; exact absurd z (by unfold hF cF; intro z; injection z with z; injection z with z; exact absurd z (by decide +kernel)))
  have nPc : P2 ≠ c := (ne_of_none q.at' hP).symm
  have nUc : U2 ≠ c := (ne_of_none q.at' hU).symm
  have npc : p ≠ c := (ne_of_none q.at' hp).symm
  have nph : p ≠ h := (ne_of_none q.hi.at' hp).symm
  have keep : ∀ b o, H b = some o → b ≠ c → b ≠ h → upd H' c (.ins a.c_Chronicle dx (cF b' l' h)) b = some o := fun b o e n1 n2 => by
    rw [upd_ne n1]
    exact kp b o ((upd_ne (ne_of_none e hp)).trans e) n2
  have imc : ∀ b, R.im b → b ≠ c := fun b i z => q.dj b i (z ▸ q.mc)
  have imh : ∀ b, R.im b → b ≠ h := fun b i z => q.dj b i (z ▸ q.hi.mh)
  have kim : ∀ b o, R.im b → H b = some o → upd H' c (.ins a.c_Chronicle dx (cF b' l' h)) b = some o := fun b o i e => keep b o e (imc b i) (imh b i)
  have hlen : ps.length = d.past.length := by rw [q.hi.pp.1, List.length_reverse]
  refine ⟨⟨dx, l', h, dh, P2, U2, (ps ++ [p]).drop (ps.length + 1 - 20), [], upd_same, hl'.frame kim fun _ z => .inl z, ⟨(upd_ne nhc).trans gh, (upd_ne nPc).trans gP, (upd_ne nUc).trans gU, ?_, Pr.nil, .inl q.hi.mh, .inr (.inl rfl), .inr (.inr rfl), ne⟩, .inl q.mc, ?_, ?_⟩, ?_⟩
  · show Pr _ _ ((d.now :: d.past).take 20).reverse
    rw [past_cut, hlen]
    refine Pr.drop (Pr.append (q.hi.pp.mono fun _ _ _ _ z => z.frame kim fun _ z => .inl z) (Pr.one ⟨.inr rfl, l, ?_, q.en.frame kim fun _ z => .inl z⟩)) _
    rw [upd_ne npc]
    exact kp p _ upd_same nph
  · rintro b (i | rfl)
    · rintro (m | rfl | rfl)
      · exact q.dj b i m
      · exact q.tr _ (.inl i) hP
      · exact q.tr _ (.inl i) hU
    · rintro (m | z | z)
      · exact q.tr _ (.inr m) hp
      · exact nPp z.symm
      · exact nUp z.symm
  · have tr0 : ∀ b, R.im b ∨ R.mu b → upd H' c (.ins a.c_Chronicle dx (cF b' l' h)) b ≠ none := fun b z e => by
      by_cases n1 : b = c
      · subst n1; rw [upd_same] at e; cases e
      · by_cases n2 : b = h
        · subst n2; rw [upd_ne n1, gh] at e; cases e
        · cases g : H b with
          | none => exact q.tr b z g
          | some o => rw [keep b o g n1 n2] at e; cases e
    rintro b ((i | rfl) | (m | rfl | rfl)) e
    · exact tr0 b (.inl i) e
    · rw [upd_ne npc, kp _ _ upd_same nph] at e; cases e
    · exact tr0 b (.inr m) e
    · rw [upd_ne nPc, gP] at e; cases e
    · rw [upd_ne nUc, gU] at e; cases e
  · intro b o e i m
    refine ⟨keep b o e (fun z => m (z ▸ q.mc)) (fun z => m (z ▸ q.hi.mh)), ?_, ?_⟩
    · rintro (z | rfl)
      · exact i z
      · rw [hp] at e; cases e
    · rintro (z | rfl | rfl)
      · exact m z
      · rw [hP] at e; cases e
      · rw [hU] at e; cases e
theorem cut_to {xs : List V} {i : Nat} : cutV xs none (some (i : Int)) = xs.take i := by
  unfold cutV
  have h0 : HT.sIx xs.length 0 none = 0 := rfl
  have h1 : HT.sIx xs.length xs.length (some (i : Int)) = min i xs.length := by
    show (if ((i : Nat) : Int) < 0 then (((i : Nat) : Int) + ((xs.length : Nat) : Int)).toNat else min ((i : Nat) : Int).toNat xs.length) = min i xs.length
    rw [if_neg (by omega)]
    rfl
  rw [h0, h1, List.drop_zero, Nat.sub_zero]
  by_cases h : i ≤ xs.length
  · rw [Nat.min_eq_left h]
  · rw [Nat.min_eq_right (by omega), List.take_of_length_le (Nat.le_refl _), List.take_of_length_le (by omega)]
theorem cut_from {xs : List V} {i : Nat} : cutV xs (some (i : Int)) none = xs.drop i := by
  unfold cutV
  have h0 : HT.sIx xs.length xs.length none = xs.length := rfl
  have h1 : HT.sIx xs.length 0 (some (i : Int)) = min i xs.length := by
    show (if ((i : Nat) : Int) < 0 then (((i : Nat) : Int) + ((xs.length : Nat) : Int)).toNat else min ((i : Nat) : Int).toNat xs.length) = min i xs.length
    rw [if_neg (by omega)]
    rfl
  rw [h0, h1]
  by_cases h : i ≤ xs.length
  · rw [Nat.min_eq_left h, List.take_of_length_le (by rw [List.length_drop]; exact Nat.le_refl _)]
  · rw [Nat.min_eq_right (by omega), List.drop_of_length_le (Nat.le_refl _), List.drop_of_length_le (by omega), List.take_nil]
theorem set_cut {α : Type} : ∀ {xs : List α} {i : Nat} {x : α}, i < xs.length → xs.take i ++ [x] ++ xs.drop (i + 1) = xs.set i x
  | [], i, x, h => by simp at h
  | y :: xs, 0, x, h => rfl
  | y :: xs, i + 1, x, h => by
    have := set_cut (xs := xs) (i := i) (x := x) (by simpa using h)
    rw [List.take_succ_cons, List.drop_succ_cons, List.set_cons_succ, ← this]
    rfl
section
variable {P : Program} {w : World} {K : PySem.W.Frag} {mg : Str → Option Value} {base : Heap} {a : Ad} {D : Fd}
theorem ok_Chronicle_state (T : Txt K mg a D) : FnOk P w K mg base CX0 1 a.f_Chronicle_state D.d_Chronicle_state p_Chronicle_state (sp_Chronicle_state K a) := by
  refine T.F_Chronicle_state.ok sc_Chronicle_state (fun vs H Q E h => ?_) (fun cdv A outer s H vs Q E hr h => ?_)
  · obtain ⟨c, dx, l, h, b, rfl, _⟩ := h; rfl
  · obtain ⟨c, dx, l, h, b, rfl, hc, k⟩ := h
    refine ⟨_, (pss_one (ps_ret (pe_tup (pa_cons (pe_fld (pv 0) rfl) (pa_cons (pe_fld (pv 0) rfl) pa_nil))))), ?_⟩
    exact ⟨_, rfl, c, _, dx, _, _, rfl, hc, T.cl_Chronicle, T.no_Chronicle_entries, cF_l _ _ _, _, rfl, c, _, dx, _, _, rfl, hc, T.cl_Chronicle, T.no_Chronicle_last_year, cF_e _ _ _, (by show 2 ≤ sizeLine; decide), fun p hp => k p hp⟩
theorem ok_Chronicle_return_to (T : Txt K mg a D) : FnOk P w K mg base CX0 1 a.f_Chronicle_return_to D.d_Chronicle_return_to p_Chronicle_return_to (sp_Chronicle_return_to K a) := by
  refine T.F_Chronicle_return_to.ok sc_Chronicle_return_to (fun vs H Q E h => ?_) (fun cdv A outer s H vs Q E hr h => ?_)
  · obtain ⟨c, dx, l, h, p, l2, b, z, rfl, _⟩ := h; rfl
  · obtain ⟨c, dx, l, h, p, l2, b, z, rfl, hc, hp, k⟩ := h
    refine ⟨_, (pss_cons (ps_fld (pv 0) (pe_ix ix_tup (pv 1) pe_int (fun _ _ => rfl)) rfl)
        (pss_one (ps_fld (pv 0) (pe_ix ix_tup (pv 1) pe_int (fun _ _ => rfl)) rfl))), ?_⟩
    have ncp : p ≠ c := by rintro rfl; rw [hc] at hp; cases hp
    refine ⟨_, rfl, p, _, _, _, rfl, rfl, SqT.of hp, atI_nat (j := 0) rfl, _, rfl, c, _, dx, _, rfl, hc, T.cl_Chronicle, T.no_Chronicle_entries, cF_len _ _ _, ?_⟩
    refine ⟨_, rfl, p, _, _, _, rfl, rfl, SqT.of ((upd_ne ncp).trans hp), atI_nat (j := 1) rfl, _, rfl, c, _, dx, _, rfl, upd_same, T.cl_Chronicle, T.no_Chronicle_last_year, (by rw [cF_put_l]; exact cF_len _ _ _), ?_⟩
    refine k _ (upd_same.trans ?_) fun x nx => ?_
    · rw [cF_put_l, cF_put_e]
    · rw [upd_ne nx, upd_ne nx]
theorem ok_Chronicle_change_entries (T : Txt K mg a D) : FnOk P w K mg base CX0 2 a.f_Chronicle_change_entries D.d_Chronicle_change_entries p_Chronicle_change_entries (sp_Chronicle_change_entries K a) := by
  refine T.F_Chronicle_change_entries.ok sc_Chronicle_change_entries (fun vs H Q E h => ?_) (fun cdv A outer s H vs Q E hr h => ?_)
  · obtain ⟨R, c, l, d, es, rfl, _⟩ := h; rfl
  · obtain ⟨R, c, l', d, es, rfl, ⟨dx, l, h, dh, P', U, ps, us, q⟩, ok, hl', k⟩ := h
    refine ⟨_, (pss_cons (ps_expr (pe_meth (pe_fld (pv 0) rfl) T.cl_History T.me_History_note_change (ok_History_note_change T) (hr.mono (by decide)) T.b_History_note_change .nil pass0 (pa_cons (pe_meth0 (pv 0) T.cl_Chronicle T.me_Chronicle_state (ok_Chronicle_state T) (hr.mono (by decide)) T.b_Chronicle_state .nil pass0) pa_nil)))
        (pss_one (ps_fld (pv 0) (pv 1) rfl))), ?_⟩
    have hlen : ps.length ≤ 20 := by
      rw [q.hi.pp.1, List.length_reverse]
      have := ok.few
      omega
    refine ⟨_, rfl, c, _, dx, _, _, rfl, q.at', T.cl_Chronicle, T.no_Chronicle_history, cF_h _ _ _, h, dh, _, rfl, q.hi.at', hF_no _ _ (by decide +kernel) (by decide +kernel),
      _, rfl, c, dx, _, rfl, q.at', cF_no _ _ _ (by decide +kernel) (by decide +kernel) (by decide +kernel) (by decide +kernel) (by decide +kernel) (by decide +kernel), c, dx, l, h, d.now, rfl, q.at', fun p hp => ?_⟩
    refine ⟨h, dh, P', U, p, ps, rfl, (upd_ne (ne_of_none q.hi.at' hp)).trans q.hi.at', (upd_ne (ne_of_none q.hi.pl hp)).trans q.hi.pl, hlen, fun H' P2 U2 hP2 hU2 ne gh gP gU kp => ?_⟩
    have nhc : c ≠ h := ne_of q.at' q.hi.at' (by intro z; injection z with _ _ z; exact absurd z (by unfold hF cF; intro z; injection z with z; injection z with z; exact absurd z (by decide +kernel)))
    refine ⟨_, rfl, _, rfl, c, _, dx, _, rfl, kp c _ ((upd_ne (ne_of_none q.at' hp)).trans q.at') nhc, T.cl_Chronicle, T.no_Chronicle_entries, cF_len _ _ _, ?_⟩
    obtain ⟨g1, g2⟩ := noted (b' := { d.now with entries := es }) q hp hP2 hU2 ne gh gP gU kp hl' rfl
    refine k ⟨fun b => R.im b ∨ b = p, fun b => R.mu b ∨ b = P2 ∨ b = U2⟩ _ ?_ ?_
    · rw [cF_put_l]; exact g1
    · rw [cF_put_l]; exact g2
theorem ok_Chronicle_change_last_year (T : Txt K mg a D) : FnOk P w K mg base CX0 2 a.f_Chronicle_change_last_year D.d_Chronicle_change_last_year p_Chronicle_change_last_year (sp_Chronicle_change_last_year K a) := by
  refine T.F_Chronicle_change_last_year.ok sc_Chronicle_change_last_year (fun vs H Q E h => ?_) (fun cdv A outer s H vs Q E hr h => ?_)
  · obtain ⟨R, c, d, z, rfl, _⟩ := h; rfl
  · obtain ⟨R, c, d, z, rfl, ⟨dx, l, h, dh, P', U, ps, us, q⟩, ok, k⟩ := h
    refine ⟨_, (pss_cons (ps_expr (pe_meth (pe_fld (pv 0) rfl) T.cl_History T.me_History_note_change (ok_History_note_change T) (hr.mono (by decide)) T.b_History_note_change .nil pass0 (pa_cons (pe_meth0 (pv 0) T.cl_Chronicle T.me_Chronicle_state (ok_Chronicle_state T) (hr.mono (by decide)) T.b_Chronicle_state .nil pass0) pa_nil)))
        (pss_one (ps_fld (pv 0) (pv 1) rfl))), ?_⟩
    have hlen : ps.length ≤ 20 := by
      rw [q.hi.pp.1, List.length_reverse]
      have := ok.few
      omega
    refine ⟨_, rfl, c, _, dx, _, _, rfl, q.at', T.cl_Chronicle, T.no_Chronicle_history, cF_h _ _ _, h, dh, _, rfl, q.hi.at', hF_no _ _ (by decide +kernel) (by decide +kernel),
      _, rfl, c, dx, _, rfl, q.at', cF_no _ _ _ (by decide +kernel) (by decide +kernel) (by decide +kernel) (by decide +kernel) (by decide +kernel) (by decide +kernel), c, dx, l, h, d.now, rfl, q.at', fun p hp => ?_⟩
    refine ⟨h, dh, P', U, p, ps, rfl, (upd_ne (ne_of_none q.hi.at' hp)).trans q.hi.at', (upd_ne (ne_of_none q.hi.pl hp)).trans q.hi.pl, hlen, fun H' P2 U2 hP2 hU2 ne gh gP gU kp => ?_⟩
    have nhc : c ≠ h := ne_of q.at' q.hi.at' (by intro z; injection z with _ _ z; exact absurd z (by unfold hF cF; intro z; injection z with z; injection z with z; exact absurd z (by decide +kernel)))
    refine ⟨_, rfl, _, rfl, c, _, dx, _, rfl, kp c _ ((upd_ne (ne_of_none q.at' hp)).trans q.at') nhc, T.cl_Chronicle, T.no_Chronicle_last_year, cF_len _ _ _, ?_⟩
    obtain ⟨g1, g2⟩ := noted (b' := { d.now with last := z }) q hp hP2 hU2 ne gh gP gU kp q.en rfl
    refine k ⟨fun b => R.im b ∨ b = p, fun b => R.mu b ∨ b = P2 ∨ b = U2⟩ _ ?_ ?_
    · rw [cF_put_e]; exact g1
    · rw [cF_put_e]; exact g2
theorem ok_Chronicle_change_known (T : Txt K mg a D) : FnOk P w K mg base CX0 3 a.f_Chronicle_change_known D.d_Chronicle_change_known p_Chronicle_change_known (sp_Chronicle_change_known K a) := by
  refine T.F_Chronicle_change_known.ok sc_Chronicle_change_known (fun vs H Q E h => ?_) (fun cdv A outer s H vs Q E hr h => ?_)
  · obtain ⟨R, c, d, i, k, rfl, _⟩ := h; rfl
  · obtain ⟨R, c, d, i, kn, rfl, ⟨dx, l, h, dh, P', U, ps, us, q⟩, ok, hi, k⟩ := h
    refine ⟨_, (pss_cons (ps_set (i := 3) sc_Chronicle_change_known.nd rfl (Or.inl rfl) (pe_ix ix_list (pe_fld (pv 0) rfl) (pv 1) (fun _ _ => rfl)))
        (pss_cons (ps_set (i := 4) sc_Chronicle_change_known.nd rfl (Or.inl rfl) (pe_make T.mk_Entry (ok_Entry_init T) (hr.mono (by decide)) rfl T.g_Entry T.b_Entry_init .nil pass0 (pa_cons (pe_fld (pv 3) rfl) (pa_cons (pe_fld (pv 3) rfl) (pa_cons (pv 2) pa_nil)))))
        (pss_one (ps_expr (pe_meth (pv 0) T.cl_Chronicle T.me_Chronicle_change_entries (ok_Chronicle_change_entries T) (hr.mono (by decide)) T.b_Chronicle_change_entries .nil pass0 (pa_cons (pe_op op_cat (pe_op op_cat (pe_slice sl_list (pe_fld (pv 0) rfl) po_none (po_some (pv 1))) (pe_lst (pa_cons (pv 4) pa_nil))) (pe_slice sl_list (pe_fld (pv 0) rfl) (po_some (pe_op op_add (pv 1) pe_int)) po_none)) pa_nil)))))), ?_⟩
    obtain ⟨il, xs, hx, hp⟩ := id q.en
    have he := (e_mem hi).2
    obtain ⟨y, hy, iy, dE, hE⟩ := hp.get he
    have hxs : xs.length ≤ 10 := by rw [hp.1]; exact ok.now.en
    have hyV : (xs.map V.ref)[i]? = some (V.ref y) := by rw [List.getElem?_map, hy]; rfl
    have sz : ∀ n, n ≤ 100 → n ≤ sizeLine := fun n h => Nat.le_trans h (by decide)
    -- old = self.entries[i]
    refine ⟨_, rfl, c, _, dx, _, _, rfl, q.at', T.cl_Chronicle, T.no_Chronicle_entries, cF_l _ _ _, _, rfl, l, _, _, _, rfl, rfl, SqL.of hx, atI_nat hyV, ?_⟩
    -- new = Entry(old.name, old.reign_year, known)
    refine ⟨_, rfl, y, _, dE, _, _, rfl, hE, T.cl_Entry, T.no_Entry_name, eF_n _, _, rfl, y, _, dE, _, _, rfl, hE, T.cl_Entry, T.no_Entry_reign_year, eF_r _, _, rfl, ?_⟩
    intro x dn nx ndn nex
    refine ⟨x, dn, ⟨(d.now.e i).name, (d.now.e i).at_, kn⟩, rfl, upd_same, fun H1 gx kp => ⟨rfl, ?_⟩⟩
    have s1 : Same H H1 := Same.made nx ndn kp
    have q1 := q.same s1
    -- self.change_entries(self.entries[:i] + [new] + self.entries[i + 1:])
    refine ⟨_, rfl, c, dx, _, rfl, q1.at', cF_no _ _ _ (by decide +kernel) (by decide +kernel) (by decide +kernel) (by decide +kernel) (by decide +kernel) (by decide +kernel), ?_⟩
    refine ⟨_, rfl, c, _, dx, _, _, rfl, q1.at', T.cl_Chronicle, T.no_Chronicle_entries, cF_l _ _ _, _, rfl, _, rfl, l, _, rfl, SqL.of (s1 _ _ hx), fun p2 h2 => ?_⟩
    have s2 := s1.trans (Same.new (o := .lst (cutV (xs.map V.ref) none (some (i : Int)))) h2)
    refine ⟨_, rfl, (by show 1 ≤ sizeLine; decide), fun p3 h3 => ?_⟩
    have s3 := s2.trans (Same.new (o := .lst [V.ref x]) h3)
    have n32 : p2 ≠ p3 := (upd_none' h3).1.symm
    refine ⟨p2, p3, _, _, rfl, rfl, (upd_ne n32).trans upd_same, upd_same, (by rw [cut_to]; refine sz _ ?_; rw [List.length_take, List.length_map, List.length_singleton]; omega), fun p4 h4 => ?_⟩
    have s4 := s3.trans (Same.new (o := .lst (cutV (xs.map V.ref) none (some (i : Int)) ++ [V.ref x])) h4)
    refine ⟨_, rfl, c, _, dx, _, _, rfl, (q.same s4).at', T.cl_Chronicle, T.no_Chronicle_entries, cF_l _ _ _, _, rfl, _, _, rfl, rfl, _, rfl, l, _, rfl, SqL.of (s4 _ _ hx), fun p5 h5 => ?_⟩
    have s5 := s4.trans (Same.new (o := .lst (cutV (xs.map V.ref) (some ((i : Int) + 1)) none)) h5)
    have n54 : p4 ≠ p5 := (upd_none' h5).1.symm
    have e5 : cutV (xs.map V.ref) (some ((i : Int) + 1)) none = (xs.map V.ref).drop (i + 1) := cut_from (i := i + 1)
    refine ⟨p4, p5, _, _, rfl, rfl, (upd_ne n54).trans upd_same, upd_same, (by rw [cut_to, e5]; refine sz _ ?_; rw [List.length_append, List.length_take, List.length_drop, List.length_map, List.length_singleton]; omega), fun p6 h6 => ?_⟩
    have s6 := s5.trans (Same.new (o := .lst (cutV (xs.map V.ref) none (some (i : Int)) ++ [V.ref x] ++ cutV (xs.map V.ref) (some ((i : Int) + 1)) none)) h6)
    have f6 : H p6 = none := s5.free h6
    have gx6 : EntAt a (upd (upd (upd (upd (upd H1 p2 (.lst (cutV (xs.map V.ref) none (some (i : Int))))) p3 (.lst [V.ref x])) p4 (.lst (cutV (xs.map V.ref) none (some (i : Int)) ++ [V.ref x]))) p5 (.lst (cutV (xs.map V.ref) (some ((i : Int) + 1)) none))) p6 (.lst (cutV (xs.map V.ref) none (some (i : Int)) ++ [V.ref x] ++ cutV (xs.map V.ref) (some ((i : Int) + 1)) none))) x ⟨(d.now.e i).name, (d.now.e i).at_, kn⟩ := by
      refine ⟨dn, ?_⟩
      have g2 := Same.new (o := .lst (cutV (xs.map V.ref) none (some (i : Int)))) h2 _ _ gx
      have g3 := Same.new (o := .lst [V.ref x]) h3 _ _ g2
      have g4 := Same.new (o := .lst (cutV (xs.map V.ref) none (some (i : Int)) ++ [V.ref x])) h4 _ _ g3
      have g5 := Same.new (o := .lst (cutV (xs.map V.ref) (some ((i : Int) + 1)) none)) h5 _ _ g4
      exact Same.new h6 _ _ g5
    have q6 := (q.same s6).grow (N := fun b => b = x ∨ b = p6) (by
      rintro b (rfl | rfl) m
      · exact q.tr _ (.inr m) nx
      · exact q.tr _ (.inr m) f6) (by
      rintro b (rfl | rfl) z
      · obtain ⟨_, e⟩ := gx6; rw [e] at z; cases z
      · rw [upd_same] at z; cases z)
    refine ⟨⟨fun b => R.im b ∨ (b = x ∨ b = p6), R.mu⟩, c, p6, d, d.now.entries.set i ⟨(d.now.e i).name, (d.now.e i).at_, kn⟩, rfl, ⟨_, _, _, _, _, _, _, _, q6⟩, ok, ⟨.inr (.inr rfl), xs.set i x, ?_, ?_⟩, fun R' H' C' kp' => k R' H' C' fun b o e i' m => ?_⟩
    · rw [upd_same, cut_to, e5, ← List.map_take, ← List.map_drop]
      refine congrArg (fun z => some (HO.lst z)) ?_
      rw [← set_cut (by rw [hp.1]; exact hi), List.map_append, List.map_append, List.map_singleton]
    · refine ⟨by rw [List.length_set, List.length_set, hp.1], fun j u e hu hv => ?_⟩
      by_cases hj : i = j
      · subst hj
        rw [List.getElem?_set_self (by rw [hp.1]; exact hi)] at hu
        rw [List.getElem?_set_self hi] at hv
        cases hu; cases hv
        exact ⟨.inr (.inl rfl), gx6⟩
      · rw [List.getElem?_set_ne hj] at hu hv
        obtain ⟨i1, i2⟩ := hp.2 j u e hu hv
        exact ⟨.inl i1, i2.frame fun o => s6 u o⟩
    · refine kp' b o (s6 b o e) ?_ m
      rintro (z | rfl | rfl)
      · exact i' z
      · rw [nx] at e; cases e
      · rw [f6] at e; cases e
end
end Ry

set_option Elab.async false
set_option maxRecDepth 100000
set_option maxHeartbeats 2000000
namespace Ry
open PySem PySem.Spec PyProof.Rows L2 RyM
theorem take_more {α : Type} : ∀ {l : List α} {i : Nat} {x : α}, l[i]? = some x → l.take (i + 1) = l.take i ++ [x]
  | [], i, x, h => by simp at h
  | a :: l, 0, x, h => by cases h; rfl
  | a :: l, i + 1, x, h => by
    rw [List.take_succ_cons, List.take_succ_cons, take_more (l := l) (i := i) (x := x) h]
    rfl
theorem drop_more {α : Type} : ∀ {l : List α} {i : Nat} {x : α}, l[i]? = some x → l.drop i = x :: l.drop (i + 1)
  | [], i, x, h => by simp at h
  | a :: l, 0, x, h => by cases h; rfl
  | a :: l, i + 1, x, h => by
    rw [List.drop_succ_cons, List.drop_succ_cons, drop_more (l := l) (i := i) (x := x) h]
theorem find_yes {ys : List Nat} {p : Nat → Bool} {i z : Nat} (h : ys[i]? = some z) (hn : (ys.take i).find? p = none) (hp : p z = true) : ys.find? p = some z := by
  have e : ys = ys.take i ++ z :: ys.drop (i + 1) := by rw [← drop_more h, List.take_append_drop]
  rw [e, List.find?_append, hn, List.find?_cons, hp]
  rfl
theorem find_no {ys : List Nat} {p : Nat → Bool} {i z : Nat} (h : ys[i]? = some z) (hn : (ys.take i).find? p = none) (hp : p z = false) : (ys.take (i + 1)).find? p = none := by
  rw [take_more h, List.find?_append, hn, List.find?_cons, hp]
  rfl
theorem nI_get {ys : List Nat} {i : Nat} {x : V} (h : (nI ys)[i]? = some x) : ∃ z, ys[i]? = some z ∧ x = .int ((z : Nat) : Int) := by
  unfold nI at h
  rw [List.getElem?_map] at h
  cases e : ys[i]? with
  | none => rw [e] at h; cases h
  | some z => rw [e] at h; exact ⟨z, rfl, (Option.some.inj h).symm⟩
theorem nI_length (ys : List Nat) : (nI ys).length = ys.length := List.length_map _
theorem nI_append (xs ys : List Nat) : nI xs ++ nI ys = nI (xs ++ ys) := by unfold nI; rw [List.map_append]
theorem ref_get {xs : List Addr} {i : Nat} {x : V} (h : (xs.map V.ref)[i]? = some x) : ∃ z, xs[i]? = some z ∧ x = .ref z := by
  rw [List.getElem?_map] at h
  cases e : xs[i]? with
  | none => rw [e] at h; cases h
  | some z => rw [e] at h; exact ⟨z, rfl, (Option.some.inj h).symm⟩
section
variable {P : Program} {w : World} {K : PySem.W.Frag} {mg : Str → Option Value} {base : Heap} {a : Ad} {D : Fd}
theorem ok_first_later (T : Txt K mg a D) : FnOk P w K mg base CX0 1 a.f_first_later D.d_first_later p_first_later (sp_first_later K a) := by
  refine T.F_first_later.ok sc_first_later (fun vs H Q E h => ?_) (fun cdv A outer s H vs Q E hr h => ?_)
  · obtain ⟨r, ys, b, rfl, _⟩ := h; rfl
  · obtain ⟨r, ys, b, rfl, hr', k⟩ := h
    refine ⟨_, (pss_cons (ps_for PassesOwn.never rfl (pi_list (pv 0)) (pg_name (i := 2) sc_first_later.nd rfl (Or.inl rfl))
        (pss_one (ps_if (pt_cmpR op_gt (pv 2) (pv 1) (nomark _))
          (pss_one (ps_ret (pv 2))) pss_nil)))
        (pss_one (ps_ret pe_non))), ?_⟩
    refine ⟨_, rfl, r, rfl, ⟨_, SqL.of hr'⟩, for_list (K := K) (a := r) (xs := nI ys) (fun i σ H' => ∃ v, σ = [some (.ref r), some (.int b), v] ∧ H' = H ∧ (ys.take i).find? (fun (x : Nat) => decide (b < (x : Int))) = none)
      ⟨none, rfl, rfl, rfl⟩ (fun i σ H' _ ⟨_, _, e, _⟩ => by rw [e]; exact SqL.of hr') ?_ ?_⟩
    · rintro i x σ H' hi ⟨v, rfl, rfl, hn⟩
      obtain ⟨z, hz, rfl⟩ := nI_get hi
      refine ⟨_, rfl, _, rfl, _, _, rfl, rfl, _, rfl, ?_⟩
      refine ite2 (fun h1 => ?_) (fun h1 => ?_)
      · refine ⟨_, rfl, ?_⟩
        rw [find_yes hz hn h1] at k
        exact k
      · exact ⟨_, rfl, rfl, find_no hz hn (by simpa using h1)⟩
    · rintro σ H' ⟨v, rfl, rfl, hn⟩
      rw [nI_length, List.take_length] at hn
      rw [hn] at k
      exact k
theorem ok_last_earlier (T : Txt K mg a D) : FnOk P w K mg base CX0 1 a.f_last_earlier D.d_last_earlier p_last_earlier (sp_last_earlier K a) := by
  refine T.F_last_earlier.ok sc_last_earlier (fun vs H Q E h => ?_) (fun cdv A outer s H vs Q E hr h => ?_)
  · obtain ⟨r, ys, b, rfl, _⟩ := h; rfl
  · obtain ⟨r, ys, b, rfl, hr', k⟩ := h
    refine ⟨_, (pss_cons (ps_for PassesOwn.never rfl (pi_reversed (by rfl) T.z_reversed (pa_cons (pv 0) pa_nil)) (pg_name (i := 2) sc_last_earlier.nd rfl (Or.inl rfl))
        (pss_one (ps_if (pt_cmpR op_lt (pv 2) (pv 1) (nomark _))
          (pss_one (ps_ret (pv 2))) pss_nil)))
        (pss_one (ps_ret pe_non))), ?_⟩
    refine ⟨_, rfl, r, _, rfl, SqL.of hr', RT.for_Itv (K := K) (a := r) (xs := nI ys) (fun i σ H' => ∃ v, σ = [some (.ref r), some (.int b), v] ∧ H' = H ∧ (ys.reverse.take i).find? (fun (x : Nat) => decide ((x : Int) < b)) = none)
      ⟨none, rfl, rfl, rfl⟩ (fun i σ H' ⟨_, _, e, _⟩ => by rw [e]; exact SqL.of hr') ?_ ?_⟩
    · rintro i x σ H' hlt hi ⟨v, rfl, rfl, hn⟩
      obtain ⟨z, hz, rfl⟩ := nI_get hi
      have hz' : ys.reverse[i]? = some z := by
        rw [nI_length] at hlt hz
        rw [List.getElem?_reverse hlt]
        exact hz
      refine ⟨_, rfl, _, rfl, _, _, rfl, rfl, _, rfl, ?_⟩
      refine ite2 (fun h1 => ?_) (fun h1 => ?_)
      · refine ⟨_, rfl, ?_⟩
        rw [find_yes hz' hn h1] at k
        exact k
      · exact ⟨_, rfl, rfl, find_no hz' hn (by simpa using h1)⟩
    · rintro σ H' ⟨v, rfl, rfl, hn⟩
      rw [nI_length, ← List.length_reverse, List.take_length] at hn
      rw [hn] at k
      exact k
theorem soon_turn {rs : List (List Nat)} {i : Nat} {r : List Nat} {bf : Int} (h : rs[i]? = some r) (hb : -1 ≤ bf) : soonL (rs.drop i) (bf + 1).toNat = match r.find? (fun (x : Nat) => decide (bf < (x : Int))) with
    | none => none
    | some x => (soonL (rs.drop (i + 1)) (x + 1)).map fun q => x :: q := by
  rw [drop_more h]
  have e : (fun x : Nat => decide (bf < (x : Int))) = fun x => decide ((bf + 1).toNat ≤ x) := by
    funext x
    by_cases hx : bf < (x : Int)
    · rw [decide_eq_true hx, decide_eq_true (by omega)]
    · rw [decide_eq_false hx, decide_eq_false (by omega)]
  rw [e]
  rfl
theorem ok_soonest_reading (T : Txt K mg a D) : FnOk P w K mg base CX0 2 a.f_soonest_reading D.d_soonest_reading p_soonest_reading (sp_soonest_reading K a) := by
  refine T.F_soonest_reading.ok sc_soonest_reading (fun vs H Q E h => ?_) (fun cdv A outer s H vs Q E hr h => ?_)
  · obtain ⟨r, rs, rfl, _⟩ := h; rfl
  · obtain ⟨r, rs, rfl, ⟨xs, hx, hp⟩, hlen, k⟩ := h
    refine ⟨_, (pss_cons (ps_set (i := 1) sc_soonest_reading.nd rfl (Or.inl rfl) (pe_lst pa_nil))
        (pss_cons (ps_set (i := 2) sc_soonest_reading.nd rfl (Or.inl rfl) (pe_un un_neg pe_int))
        (pss_cons (ps_for PassesOwn.never rfl (pi_list (pv 0)) (pg_name (i := 3) sc_soonest_reading.nd rfl (Or.inl rfl))
        (pss_cons (ps_set (i := 4) sc_soonest_reading.nd rfl (Or.inl rfl) (pe_call (ok_first_later T) (hr.mono (by decide)) rfl T.g_first_later T.F_first_later.kp T.b_first_later .nil pass0 (pa_cons (pv 3) (pa_cons (pv 2) pa_nil))))
          (pss_cons (ps_if (pt_cmpR op_isN (pv 4) pe_non (nomark _))
          (pss_one (ps_ret pe_non)) pss_nil)
          (pss_cons (ps_expr (pe_bm PySem.F.plainAttrs_list PySem.F.slot_list_append PySem.F.type_list_append mt_append (pv 1) (pa_cons (pv 4) pa_nil)))
          (pss_one (ps_set (i := 2) sc_soonest_reading.nd rfl (Or.inl rfl) (pv 4)))))))
        (pss_one (ps_ret (pv 1)))))), ?_⟩
    refine ⟨Nat.zero_le _, fun L hL => ?_⟩
    refine ⟨_, rfl, ?_⟩
    refine ⟨_, rfl, r, rfl, ⟨_, SqL.of (Same.new hL _ _ hx)⟩, for_list (K := K) (a := r) (xs := xs.map V.ref) (fun i σ H' => ∃ v3 v4 acc bf, σ = [some (.ref r), some (.ref L), some (.int bf), v3, v4] ∧ Same H H' ∧ H' L = some (.lst (nI acc)) ∧ acc.length = i ∧ -1 ≤ bf ∧
        soonL rs 0 = (soonL (rs.drop i) (bf + 1).toNat).map fun q => acc ++ q)
      ⟨none, none, [], -1, rfl, Same.new hL, upd_same, rfl, Int.le_refl _, ?_⟩ (fun i σ H' _ ⟨_, _, _, _, _, s, _⟩ => SqL.of (s _ _ hx)) ?_ ?_⟩
    · show soonL rs 0 = (soonL rs 0).map fun q => q
      cases soonL rs 0 <;> rfl
    · rintro i x σ H' hi ⟨v3, v4, acc, bf, rfl, s, hL', hl, hb, he⟩
      obtain ⟨y, hy, rfl⟩ := ref_get hi
      have hil : i < rs.length := by rw [← hp.1]; exact (List.getElem?_eq_some_iff.mp hy).1
      have hrs : rs[i]? = some rs[i] := List.getElem?_eq_getElem hil
      have hyr := hp.2 i y _ hy hrs
      refine ⟨_, rfl, _, rfl, y, rs[i], bf, rfl, s _ _ hyr, ?_⟩
      have st := soon_turn hrs hb
      cases hf : rs[i].find? (fun (x : Nat) => decide (bf < (x : Int))) with
      | none =>
        refine ⟨_, rfl, rfl, _, rfl, ite2 (fun _ => ?_) (fun hn => absurd rfl hn)⟩
        rw [hf] at st
        rw [st] at he
        exact k.1 he _ s
      | some z =>
        rw [hf] at st
        rw [st] at he
        refine ⟨_, rfl, rfl, _, rfl, ite2 (fun hn => absurd hn (by simp [knV])) (fun _ => ?_)⟩
        refine ⟨_, rfl, .inl ⟨rfl, _, SqL.of hL'⟩, _, rfl, L, _, _, rfl, rfl, hL', (by rw [nI_length]; exact Nat.lt_of_lt_of_le (show acc.length < 100 by omega) (by decide)), ?_⟩
        refine ⟨_, rfl, ?_⟩
        refine ⟨_, _, acc ++ [z], (z : Int), rfl, fun b o e => ?_, ?_, (by rw [List.length_append, List.length_singleton, hl]), by omega, ?_⟩
        · rw [upd_ne (ne_of_none e hL)]
          exact s b o e
        · rw [upd_same, ← nI_append]
          rfl
        · rw [he, Option.map_map]
          refine congrFun (congrArg _ ?_) _
          funext q
          show acc ++ z :: q = acc ++ [z] ++ q
          rw [List.append_assoc]
          rfl
    · rintro σ H' ⟨v3, v4, acc, bf, rfl, s, hL', hl, hb, he⟩
      refine ⟨_, rfl, k.2 acc ?_ _ _ s hL'⟩
      rw [he, List.length_map, hp.1, List.drop_length]
      show some (acc ++ []) = some acc
      rw [List.append_nil]
theorem late_turn {rs : List (List Nat)} {i : Nat} {r : List Nat} {bf : Nat} (h : rs[i]? = some r) : lateL (rs.drop i) bf = match r.reverse.find? (fun (x : Nat) => decide ((x : Int) < (bf : Int))) with
    | none => none
    | some x => (lateL (rs.drop (i + 1)) x).map fun q => q ++ [x] := by
  rw [drop_more h]
  have e : (fun x : Nat => decide ((x : Int) < (bf : Int))) = fun x => decide (x < bf) := by
    funext x
    by_cases hx : x < bf
    · rw [decide_eq_true hx, decide_eq_true (by omega)]
    · rw [decide_eq_false hx, decide_eq_false (by omega)]
  rw [e]
  rfl
theorem ok_latest_reading (T : Txt K mg a D) : FnOk P w K mg base CX0 2 a.f_latest_reading D.d_latest_reading p_latest_reading (sp_latest_reading K a) := by
  refine T.F_latest_reading.ok sc_latest_reading (fun vs H Q E h => ?_) (fun cdv A outer s H vs Q E hr h => ?_)
  · obtain ⟨r, rs, e, rfl, _⟩ := h; rfl
  · obtain ⟨r, rs, e, rfl, ⟨xs, hx, hp⟩, hlen, k⟩ := h
    refine ⟨_, (pss_cons (ps_set (i := 2) sc_latest_reading.nd rfl (Or.inl rfl) (pe_lst pa_nil))
        (pss_cons (ps_set (i := 3) sc_latest_reading.nd rfl (Or.inl rfl) (pe_op op_add (pv 1) pe_int))
        (pss_cons (ps_for PassesOwn.never rfl (pi_reversed (by rfl) T.z_reversed (pa_cons (pv 0) pa_nil)) (pg_name (i := 4) sc_latest_reading.nd rfl (Or.inl rfl))
        (pss_cons (ps_set (i := 5) sc_latest_reading.nd rfl (Or.inl rfl) (pe_call (ok_last_earlier T) (hr.mono (by decide)) rfl T.g_last_earlier T.F_last_earlier.kp T.b_last_earlier .nil pass0 (pa_cons (pv 4) (pa_cons (pv 3) pa_nil))))
          (pss_cons (ps_if (pt_cmpR op_isN (pv 5) pe_non (nomark _))
          (pss_one (ps_ret pe_non)) pss_nil)
          (pss_cons (ps_expr (pe_bm PySem.F.plainAttrs_list PySem.F.slot_list_append PySem.F.type_list_append mt_append (pv 2) (pa_cons (pv 5) pa_nil)))
          (pss_one (ps_set (i := 3) sc_latest_reading.nd rfl (Or.inl rfl) (pv 5)))))))
        (pss_one (ps_ret (pe_listRev rfl (by rfl) T.z_list (by rfl) T.z_reversed (pv 2))))))), ?_⟩
    refine ⟨Nat.zero_le _, fun L hL => ?_⟩
    refine ⟨_, rfl, _, _, rfl, rfl, ?_⟩
    refine ⟨_, rfl, r, _, rfl, SqL.of (Same.new hL _ _ hx), RT.for_Itv (K := K) (a := r) (xs := xs.map V.ref) (fun i σ H' => ∃ v3 v4 acc bf, σ = [some (.ref r), some (.int (e : Nat)), some (.ref L), some (.int ((bf : Nat) : Int)), v3, v4] ∧ Same H H' ∧ H' L = some (.lst (nI acc)) ∧ acc.length = i ∧
        lateL rs.reverse (e + 1) = (lateL (rs.reverse.drop i) bf).map fun q => q ++ acc.reverse)
      ⟨none, none, [], e + 1, rfl, Same.new hL, upd_same, rfl, ?_⟩ (fun i σ H' ⟨_, _, _, _, _, s, _⟩ => SqL.of (s _ _ hx)) ?_ ?_⟩
    · show lateL rs.reverse (e + 1) = (lateL rs.reverse (e + 1)).map fun q => q ++ []
      cases lateL rs.reverse (e + 1) with
      | none => rfl
      | some q => show some q = some (q ++ []); rw [List.append_nil]
    · rintro i x σ H' hlt hi ⟨v3, v4, acc, bf, rfl, s, hL', hl, he⟩
      obtain ⟨y, hy, rfl⟩ := ref_get hi
      rw [List.length_map] at hlt hy
      have hil : i < rs.reverse.length := by rw [List.length_reverse, ← hp.1]; exact hlt
      have hrs : rs.reverse[i]? = some rs.reverse[i] := List.getElem?_eq_getElem hil
      have hrs' : rs[xs.length - 1 - i]? = some rs.reverse[i] := by
        rw [← hrs, List.getElem?_reverse (by rw [← hp.1]; exact hlt), hp.1]
      have hyr := hp.2 _ y _ hy hrs'
      refine ⟨_, rfl, _, rfl, y, rs.reverse[i], (bf : Int), rfl, s _ _ hyr, ?_⟩
      have st := late_turn (bf := bf) hrs
      cases hf : (rs.reverse[i]).reverse.find? (fun (x : Nat) => decide ((x : Int) < (bf : Int))) with
      | none =>
        refine ⟨_, rfl, rfl, _, rfl, ite2 (fun _ => ?_) (fun hn => absurd rfl hn)⟩
        rw [hf] at st
        rw [st] at he
        exact k.1 he _ s
      | some z =>
        rw [hf] at st
        rw [st] at he
        refine ⟨_, rfl, rfl, _, rfl, ite2 (fun hn => absurd hn (by simp [knV])) (fun _ => ?_)⟩
        refine ⟨_, rfl, .inl ⟨rfl, _, SqL.of hL'⟩, _, rfl, L, _, _, rfl, rfl, hL', (by rw [nI_length]; exact Nat.lt_of_lt_of_le (show acc.length < 100 by rw [List.length_reverse] at hil; omega) (by decide)), ?_⟩
        refine ⟨_, rfl, ?_⟩
        refine ⟨_, _, acc ++ [z], z, rfl, fun b o e => ?_, ?_, (by rw [List.length_append, List.length_singleton, hl]), ?_⟩
        · rw [upd_ne (ne_of_none e hL)]
          exact s b o e
        · rw [upd_same, ← nI_append]
          rfl
        · rw [he, Option.map_map]
          refine congrFun (congrArg _ ?_) _
          funext q
          show (q ++ [z]) ++ acc.reverse = q ++ (acc ++ [z]).reverse
          rw [List.append_assoc, List.reverse_append]
          rfl
    · rintro σ H' ⟨v3, v4, acc, bf, rfl, s, hL', hl, he⟩
      refine ⟨_, rfl, L, _, rfl, SqL.of hL', fun p hp' => k.2 acc.reverse ?_ _ _ (s.trans (Same.new hp')) ?_⟩
      · rw [he, List.length_map, hp.1, ← List.length_reverse, List.drop_length]
        rfl
      · rw [upd_same]
        unfold nI
        rw [List.map_reverse]
end
end Ry

set_option Elab.async false
set_option maxRecDepth 100000
set_option maxHeartbeats 2000000
namespace Ry
open PySem PySem.Spec PyProof.Rows L2 RyM
theorem wayZ_more {zs : List Int} {ws ys : List Nat} {i y at' : Nat} (hy : ys[i]? = some y) (hs : zs.Pairwise (· < ·)) (hw : ws.length = zs.length) (h1 : ∀ j x, j < at' → zs[j]? = some x → x < (y : Int)) (h2 : ∀ x, zs[at']? = some x → (y : Int) ≤ x) :
    wayZ zs ws (ys.take (i + 1)) = wayZ zs ws (ys.take i) ++ [(ws.take at').sum] := by
  rw [take_more hy]
  unfold wayZ
  rw [List.map_append, List.map_singleton, take_of_sorted hs h1 h2 hw]
theorem sum_more {ws : List Nat} {i x : Nat} (h : ws[i]? = some x) : (ws.take (i + 1)).sum = (ws.take i).sum + x := by
  rw [take_more h, List.sum_append, List.sum_singleton]
section
variable {P : Program} {w : World} {K : PySem.W.Frag} {mg : Str → Option Value} {base : Heap} {a : Ad} {D : Fd}
theorem ok_ways_to_reach (T : Txt K mg a D) : FnOk P w K mg base CX0 1 a.f_ways_to_reach D.d_ways_to_reach p_ways_to_reach (sp_ways_to_reach K a) := by
  refine T.F_ways_to_reach.ok sc_ways_to_reach (fun vs H Q E h => ?_) (fun cdv A outer s H vs Q E hr h => ?_)
  · obtain ⟨r, b, w', ys, ws, zs, rfl, _⟩ := h; rfl
  · obtain ⟨r, b, w', ys, ws, zs, rfl, hr', hb, hw', hys, sy, sz, hwz, k⟩ := h
    refine ⟨_, (pss_cons (ps_set (i := 3) sc_ways_to_reach.nd rfl (Or.inl rfl) (pe_lst pa_nil))
        (pss_cons (ps_set (i := 4) sc_ways_to_reach.nd rfl (Or.inl rfl) pe_int)
        (pss_cons (ps_set (i := 5) sc_ways_to_reach.nd rfl (Or.inl rfl) pe_int)
        (pss_cons (ps_for PassesOwn.never rfl (pi_list (pv 0)) (pg_name (i := 6) sc_ways_to_reach.nd rfl (Or.inl rfl))
        (pss_cons (ps_while PassesOwn.never (PW.pt (pw_and (pt_cmpR op_lt (pv 5) (pe_callB call_len_seq (by rfl) T.z_len PySem.boot_len (pa_cons (pv 1) pa_nil)) (nomark _)) (pw_and1 (pt_cmpR op_lt (pe_ix ix_list (pv 1) (pv 5) (fun _ _ => rfl)) (pv 6) (nomark _)))))
          (pss_cons (ps_set (i := 4) sc_ways_to_reach.nd rfl (Or.inl rfl) (pe_op op_add (pv 4) (pe_ix ix_list (pv 2) (pv 5) (fun _ _ => rfl))))
            (pss_one (ps_set (i := 5) sc_ways_to_reach.nd rfl (Or.inl rfl) (pe_op op_add (pv 5) pe_int)))))
          (pss_one (ps_expr (pe_bm PySem.F.plainAttrs_list PySem.F.slot_list_append PySem.F.type_list_append mt_append (pv 3) (pa_cons (pv 4) pa_nil))))))
        (pss_one (ps_ret (pv 3))))))), ?_⟩
    refine ⟨Nat.zero_le _, fun L hL => ?_⟩
    refine ⟨_, rfl, r, rfl, ⟨_, SqL.of (Same.new hL _ _ hr')⟩, for_list (K := K) (a := r) (xs := nI ys) (fun i σ H' => ∃ (v6 : Option V) (n : Nat), σ = [some (.ref r), some (.ref b), some (.ref w'), some (.ref L), some (.int (((ws.take n).sum : Nat) : Int)), some (.int ((n : Nat) : Int)), v6] ∧ Same H H' ∧
        H' L = some (.lst (nI (wayZ zs ws (ys.take i)))) ∧ n ≤ zs.length ∧ ∀ j x, j < n → zs[j]? = some x → ∀ (m : Nat) (y : Nat), i ≤ m → ys[m]? = some y → x < (y : Int))
      ⟨none, 0, rfl, Same.new hL, upd_same, Nat.zero_le _, fun j x h => by omega⟩ (fun i σ H' _ ⟨_, _, _, s, _⟩ => SqL.of (s _ _ hr')) ?_ ?_⟩
    · rintro i x σ H' hi ⟨v6, n, rfl, s, hL', hn, hlt⟩
      obtain ⟨y, hy, rfl⟩ := nI_get hi
      have hil : i < ys.length := (List.getElem?_eq_some_iff.mp hy).1
      -- while at < len(years_before) and years_before[at] < year
      refine ⟨fun m σ H2 => ∃ n, m = zs.length - n ∧ σ = [some (.ref r), some (.ref b), some (.ref w'), some (.ref L), some (.int (((ws.take n).sum : Nat) : Int)), some (.int ((n : Nat) : Int)), some (.int ((y : Nat) : Int))] ∧ H2 = H' ∧ n ≤ zs.length ∧ ∀ j x, j < n → zs[j]? = some x → x < (y : Int),
        ⟨_, n, rfl, rfl, rfl, hn, fun j x h e => hlt j x h e i y (Nat.le_refl _) hy⟩, ?_⟩
      rintro m σ H2 ⟨n, rfl, rfl, rfl, hn, hlt2⟩
      have done : (∀ x, zs[n]? = some x → (y : Int) ≤ x) → ∃ (v6 : Option V) (n' : Nat), [some (V.ref r), some (.ref b), some (.ref w'), some (.ref L), some (.int (((ws.take n).sum : Nat) : Int)), some (.int ((n : Nat) : Int)), some (.int ((y : Nat) : Int))] = [some (.ref r), some (.ref b), some (.ref w'), some (.ref L), some (.int (((ws.take n').sum : Nat) : Int)), some (.int ((n' : Nat) : Int)), v6] ∧
          Same H (upd H2 L (.lst (nI (wayZ zs ws (ys.take i)) ++ [V.int (((ws.take n).sum : Nat) : Int)]))) ∧ upd H2 L (.lst (nI (wayZ zs ws (ys.take i)) ++ [V.int (((ws.take n).sum : Nat) : Int)])) L = some (.lst (nI (wayZ zs ws (ys.take (i + 1))))) ∧ n' ≤ zs.length ∧
          ∀ j x, j < n' → zs[j]? = some x → ∀ (m : Nat) (y : Nat), i + 1 ≤ m → ys[m]? = some y → x < (y : Int) := fun h2 => by
        refine ⟨_, n, rfl, fun b o e => ?_, ?_, hn, fun j x hj hx m y' hm hy' => ?_⟩
        · rw [upd_ne (ne_of_none e hL)]
          exact s b o e
        · rw [upd_same, wayZ_more hy sz hwz hlt2 h2, ← nI_append]
          rfl
        · have h3 := hlt2 j x hj hx
          have hml : m < ys.length := (List.getElem?_eq_some_iff.mp hy').1
          have h4 := (List.pairwise_iff_getElem.mp sy) i m hil hml (by omega)
          have e1 : ys[i] = y := (List.getElem?_eq_some_iff.mp hy).2
          have e2 : ys[m] = y' := (List.getElem?_eq_some_iff.mp hy').2
          rw [e1, e2] at h4
          omega
      refine ⟨_, rfl, _, rfl, b, _, rfl, .inl (SqL.of (s _ _ hb)), _, _, rfl, rfl, _, rfl, ?_⟩
      refine ite2 (fun h1 => ?_) (fun h1 => ?_)
      · have h1' : n < zs.length := by
          have := dT h1
          rw [List.length_map] at this
          omega
        have hz : zs[n]? = some zs[n] := List.getElem?_eq_getElem h1'
        have hzV : (zs.map V.int)[n]? = some (V.int zs[n]) := by rw [List.getElem?_map, hz]; rfl
        have hwn : ws[n]? = some (ws[n]'(by omega)) := List.getElem?_eq_getElem _
        have hwV : (nI ws)[n]? = some (V.int (((ws[n]'(by omega)) : Nat) : Int)) := by unfold nI; rw [List.getElem?_map, hwn]; rfl
        refine ⟨_, rfl, _, rfl, b, _, _, _, rfl, rfl, SqL.of (s _ _ hb), atI_nat hzV, _, rfl, _, _, rfl, rfl, _, rfl, ?_⟩
        refine ite2 (fun h2 => ?_) (fun h2 => ?_)
        · refine ⟨fun σ' H3 => ∃ n', n' = n + 1 ∧ σ' = [some (.ref r), some (.ref b), some (.ref w'), some (.ref L), some (.int (((ws.take n').sum : Nat) : Int)), some (.int ((n' : Nat) : Int)), some (.int ((y : Nat) : Int))] ∧ H3 = H2, ?_, ?_⟩
          · rintro σ' H3 ⟨n', rfl, rfl, rfl⟩
            refine ⟨_, ?_, n + 1, rfl, rfl, rfl, by omega, fun j x hj hx => ?_⟩
            · omega
            · by_cases hjn : j = n
              · subst hjn
                rw [hz] at hx
                cases hx
                exact dT h2
              · exact hlt2 j x (by omega) hx
          · refine ⟨_, rfl, _, rfl, _, rfl, w', _, _, _, rfl, rfl, SqL.of (s _ _ hw'), atI_nat hwV, _, _, rfl, rfl, ?_⟩
            refine ⟨_, rfl, _, _, rfl, rfl, ?_⟩
            refine ⟨n + 1, rfl, ?_, rfl⟩
            rw [sum_more hwn]
            rfl
        · refine ⟨_, rfl, .inl ⟨rfl, _, SqL.of hL'⟩, _, rfl, L, _, _, rfl, rfl, hL', (by rw [nI_length, wayZ_length, List.length_take]; exact Nat.lt_of_lt_of_le (show min i ys.length < 3000 by omega) (by decide)), ?_⟩
          refine done fun x hx => ?_
          rw [hz] at hx
          cases hx
          have := dF h2
          omega
      · refine iteF ?_
        refine ⟨_, rfl, .inl ⟨rfl, _, SqL.of hL'⟩, _, rfl, L, _, _, rfl, rfl, hL', (by rw [nI_length, wayZ_length, List.length_take]; exact Nat.lt_of_lt_of_le (show min i ys.length < 3000 by omega) (by decide)), ?_⟩
        refine done fun x hx => ?_
        have h3 : n < zs.length := (List.getElem?_eq_some_iff.mp hx).1
        have := dF h1
        rw [List.length_map] at this
        omega
    · rintro σ H' ⟨v6, n, rfl, s, hL', _, _⟩
      rw [nI_length, List.take_length] at hL'
      exact ⟨_, rfl, k _ _ s hL'⟩
theorem countZ_turn {rs : List (List Nat)} {i : Nat} {r : List Nat} {zs : List Int} {ws : List Nat} (h : rs[i]? = some r) : countZ (rs.drop i) zs ws = countZ (rs.drop (i + 1)) (r.map fun (x : Nat) => (x : Int)) (wayZ zs ws r) := by
  rw [drop_more h]
  rfl
theorem nI_ints (r : List Nat) : nI r = (r.map fun (x : Nat) => (x : Int)).map V.int := by
  unfold nI
  rw [List.map_map]
  rfl
theorem sum_ints (r : List Nat) : (r.map fun (x : Nat) => (x : Int)).sum = ((r.sum : Nat) : Int) := by
  induction r with
  | nil => rfl
  | cons x r ih => rw [List.map_cons, List.sum_cons, List.sum_cons, ih, Int.natCast_add]
theorem ok_count_readings (T : Txt K mg a D) : FnOk P w K mg base CX0 2 a.f_count_readings D.d_count_readings p_count_readings (sp_count_readings K a) := by
  refine T.F_count_readings.ok sc_count_readings (fun vs H Q E h => ?_) (fun cdv A outer s H vs Q E hr h => ?_)
  · obtain ⟨r, rs, rfl, _⟩ := h; rfl
  · obtain ⟨r, rs, rfl, ⟨xs, hx, hp⟩, hrs, k⟩ := h
    refine ⟨_, (pss_cons (ps_set (i := 1) sc_count_readings.nd rfl (Or.inl rfl) (pe_lst (pa_cons (pe_un un_neg pe_int) pa_nil)))
        (pss_cons (ps_set (i := 2) sc_count_readings.nd rfl (Or.inl rfl) (pe_lst (pa_cons pe_int pa_nil)))
        (pss_cons (ps_for PassesOwn.never rfl (pi_list (pv 0)) (pg_name (i := 3) sc_count_readings.nd rfl (Or.inl rfl))
        (pss_cons (ps_set (i := 2) sc_count_readings.nd rfl (Or.inl rfl) (pe_call (ok_ways_to_reach T) (hr.mono (by decide)) rfl T.g_ways_to_reach T.F_ways_to_reach.kp T.b_ways_to_reach .nil pass0 (pa_cons (pv 3) (pa_cons (pv 1) (pa_cons (pv 2) pa_nil)))))
          (pss_one (ps_set (i := 1) sc_count_readings.nd rfl (Or.inl rfl) (pv 3)))))
        (pss_one (ps_ret (pe_callB (cr_sum rfl) (by rfl) T.z_sum (by decide +kernel) (pa_cons (pv 2) pa_nil))))))), ?_⟩
    refine ⟨_, rfl, (by show 1 ≤ sizeLine; decide), fun B hB => ?_⟩
    refine ⟨(by show 1 ≤ sizeLine; decide), fun W hW => ?_⟩
    obtain ⟨nWB, hW0⟩ := upd_none' hW
    have s2 := (Same.new (o := .lst [V.int (-1)]) hB).trans (Same.new (o := .lst [V.int 1]) hW)
    refine ⟨_, rfl, r, rfl, ⟨_, SqL.of (s2 _ _ hx)⟩, for_list (K := K) (a := r) (xs := xs.map V.ref) (fun i σ H' => ∃ v b w' zs ws, σ = [some (.ref r), some (.ref b), some (.ref w'), v] ∧ Same H H' ∧ H' b = some (.lst (zs.map V.int)) ∧ H' w' = some (.lst (nI ws)) ∧ ws.length = zs.length ∧ zs.Pairwise (· < ·) ∧
        countZ rs [-1] [1] = countZ (rs.drop i) zs ws)
      ⟨none, B, W, [-1], [1], rfl, s2, (upd_ne nWB.symm).trans upd_same, upd_same, rfl, List.pairwise_singleton _ _, rfl⟩ (fun i σ H' _ ⟨_, _, _, _, _, _, s, _⟩ => SqL.of (s _ _ hx)) ?_ ?_⟩
    · rintro i x σ H' hi ⟨v, b, w', zs, ws, rfl, s, hb, hw', hl, hz, he⟩
      obtain ⟨y, hy, rfl⟩ := ref_get hi
      have hil : i < rs.length := by rw [← hp.1]; exact (List.getElem?_eq_some_iff.mp hy).1
      have hr1 : rs[i]? = some rs[i] := List.getElem?_eq_getElem hil
      have hyr : H y = some (.lst (nI rs[i])) := hp.2 i y _ hy hr1
      obtain ⟨g1, g2⟩ := hrs _ (List.getElem_mem hil)
      refine ⟨_, rfl, _, rfl, _, rfl, y, b, w', rs[i], ws, zs, rfl, s _ _ hyr, hb, hw', g1, g2, hz, hl, fun H2 p s3 hp2 => ?_⟩
      refine ⟨_, rfl, ?_⟩
      refine ⟨_, y, p, rs[i].map fun (x : Nat) => (x : Int), wayZ zs ws rs[i], rfl, s.trans s3, ?_, hp2, ?_, ?_, ?_⟩
      · rw [← nI_ints]
        exact (s.trans s3) _ _ hyr
      · rw [wayZ_length, List.length_map]
      · rw [List.pairwise_map]
        exact g2.imp fun {a b} h => by omega
      · rw [he, countZ_turn hr1]
    · rintro σ H' ⟨v, b, w', zs, ws, rfl, s, hb, hw', hl, hz, he⟩
      refine ⟨_, rfl, w', ws.map fun (x : Nat) => (x : Int), rfl, (by rw [← nI_ints]; exact SqL.of hw'), ?_⟩
      rw [sum_ints]
      have := k H' s
      rw [he, List.length_map, hp.1, List.drop_length] at this
      exact this
theorem ok_all_entry_years (T : Txt K mg a D) : FnOk P w K mg base CX0 4 a.f_all_entry_years D.d_all_entry_years p_all_entry_years (sp_all_entry_years K a) := by
  refine T.F_all_entry_years.ok sc_all_entry_years (fun vs H Q E h => ?_) (fun cdv A outer s H vs Q E hr h => ?_)
  · obtain ⟨R, c, d, rfl, _⟩ := h; rfl
  · obtain ⟨R, c, d, rfl, C, ok, k⟩ := h
    obtain ⟨dx, l, h, dh, P', U, ps, us, q⟩ := id C
    obtain ⟨il, xs, hx, hp⟩ := id q.en
    refine ⟨_, (pss_one (ps_ret (pe_lc (own := [("entry", 1)]) (g := gName 1) rfl sc_all_entry_years.nd (pi_list (pe_fld (pv 0) rfl)) (blkOk_by (own := [("entry", 1)]) (N := n_all_entry_years) (sc := defScope s_all_entry_years) (by decide +kernel)) (fun _ _ _ _ _ => pg_name (i := 1) sc_all_entry_years.nd rfl (Or.inl rfl)) (fun _ _ _ _ _ => pts_nil) (fun _ _ _ _ _ => (pe_call (ok_entry_years T) (hr.mono (by decide)) rfl T.g_entry_years T.F_entry_years.kp T.b_entry_years .nil pass0 (pa_cons (pv 0) (pa_cons (pv 1) pa_nil))))))), ?_⟩
    have hxs : xs.length ≤ 10 := by rw [hp.1]; exact ok.now.en
    refine ⟨_, rfl, c, _, dx, _, _, rfl, q.at', T.cl_Chronicle, T.no_Chronicle_entries, cF_l _ _ _, l, rfl, ⟨_, SqL.of hx⟩, fun L hL => ?_⟩
    refine lc_list (K := K) (a := l) (xs := xs.map V.ref) (fun i H' => Same H H' ∧ ∃ rs : List Addr, H' L = some (.lst (rs.map V.ref)) ∧ Pr (fun x ys => x ≠ L ∧ H' x = some (.lst (nI ys))) rs ((rows d.now).take i))
      ⟨Same.new hL, [], upd_same, Pr.nil⟩ (fun i H' _ ⟨s, _⟩ => SqL.of (s _ _ hx)) ?_ ?_
    · rintro i x H' hi ⟨s, rs, hL', hrs⟩
      obtain ⟨y, hy, rfl⟩ := ref_get hi
      have hil : i < d.now.entries.length := by rw [← hp.1]; exact (List.getElem?_eq_some_iff.mp hy).1
      have he : d.now.entries[i]? = some d.now.entries[i] := List.getElem?_eq_getElem hil
      have hyE := (hp.2 i y _ hy he).2
      have hro : (rows d.now)[i]? = some (d.now.years d.now.entries[i]) := by
        unfold rows
        rw [List.getElem?_map, he]
        rfl
      refine ⟨rfl, ?_⟩
      dsimp only [tYes]
      refine ite2 (fun _ => ?_) (fun hn => absurd rfl hn)
      refine ⟨_, rfl, _, rfl, R, c, y, d, d.now.entries[i], rfl, C.same s, ok, hyE.frame fun o => s y o, ok.now.es _ (List.getElem_mem hil), fun p hp' => ?_⟩
      have nLp : L ≠ p := ne_of_none hL' hp'
      refine ⟨_, (upd_ne nLp).trans hL', (by rw [List.length_map, hrs.1, List.length_take]; exact Nat.lt_of_lt_of_le (show min i (rows d.now).length < 100 by have := hp.1; omega) (by decide)), fun b o e => ?_, rs ++ [p], ?_, ?_⟩
      · rw [upd_ne (ne_of_none e hL)]
        exact Same.new hp' _ _ (s b o e)
      · rw [upd_same, List.map_append]
        rfl
      · rw [take_more hro]
        refine Pr.append (hrs.mono fun x ys _ _ z => ⟨z.1, ?_⟩) (Pr.one ⟨nLp.symm, ?_⟩)
        · rw [upd_ne z.1]
          exact Same.new hp' _ _ z.2
        · rw [upd_ne nLp.symm]
          exact upd_same
    · rintro H' ⟨s, rs, hL', hrs⟩
      have e : (rows d.now).take (xs.map V.ref).length = rows d.now := by
        refine List.take_of_length_le ?_
        unfold rows
        rw [List.length_map, List.length_map, hp.1]
        exact Nat.le_refl _
      rw [e] at hrs
      exact k H' L s ⟨rs, hL', hrs.mono fun _ _ _ _ z => z.2⟩
end
end Ry

set_option Elab.async false
set_option maxRecDepth 100000
set_option maxHeartbeats 2000000
namespace Ry
open PySem PySem.Spec PyProof.Rows L2 RyM
/-- a question, or a refusal: the object stays -/
theorem Does.ask {a : Ad} {R : Rg} {H H' : Hp} {c p : Addr} {d : Km498.Desk} {x : Km498.Call} {Q : VK} {vs : List V} {ans : Km498.Ans} (k : Does a R H c d x Q) (C : Chr a R H c d) (e : Km498.act d x = (d, ans)) (s : Same H H') (hp : H' p = none) (hv : vs = (Km498Neutral.told ans).map V.int) : Q (.ref p) (upd H' p (.lst vs)) := by
  subst hv
  unfold Does at k
  rw [e] at k
  have s2 := s.trans (Same.new (o := .lst ((Km498Neutral.told ans).map V.int)) hp)
  exact k R _ p (C.same s2) (Kept.of_same s2) (fun b o eb _ _ => (ne_of_none (s b o eb) hp).symm) upd_same
/-- a change: the object is another, a new list tells it -/
theorem Does.did {a : Ad} {R R' : Rg} {H H' : Hp} {c p : Addr} {d d' : Km498.Desk} {x : Km498.Call} {Q : VK} {vs : List V} {ans : Km498.Ans} (k : Does a R H c d x Q) (e : Km498.act d x = (d', ans)) (C' : Chr a R' H' c d') (kp : Kept R H R' H') (hp : H' p = none) (hv : vs = (Km498Neutral.told ans).map V.int) : Q (.ref p) (upd H' p (.lst vs)) := by
  subst hv
  unfold Does at k
  rw [e] at k
  refine k R' _ p (C'.same (Same.new hp)) (fun b o eb i m => ?_) (fun b o eb i m => (ne_of_none (kp b o eb i m).1 hp).symm) upd_same
  obtain ⟨e1, e2, e3⟩ := kp b o eb i m
  exact ⟨Same.new hp _ _ e1, e2, e3⟩
section
variable {P : Program} {w : World} {K : PySem.W.Frag} {mg : Str → Option Value} {base : Heap} {a : Ad} {D : Fd}
theorem ok_ny_start (T : Txt K mg a D) : FnOk P w K mg base CX0 4 a.f_ny_start D.d_ny_start p_ny_start (sp_ny_start K a) := by
  refine T.F_ny_start.ok sc_ny_start (fun vs H Q E h => ?_) (fun cdv A outer s H vs Q E hr h => ?_)
  · obtain ⟨t, n, f, e, R, c, d, rfl, _⟩ := h; rfl
  · obtain ⟨t, n, f, e, R, c, d, rfl, C, ok, k⟩ := h
    obtain ⟨dx, l, h, dh, P', U, ps, us, q⟩ := id C
    refine ⟨_, (pss_cons (ps_if (pt_not (pt_val (pe_call (ok_fits_as_start T) (hr.mono (by decide)) rfl T.g_fits_as_start T.F_fits_as_start.kp T.b_fits_as_start .nil pass0 (pa_cons (pv 1) (pa_cons (pv 2) (pa_cons (pv 3) (pa_cons (pv 4) pa_nil)))))))
        (pss_one (ps_ret (pe_lst (pa_cons (pe_glob (v := .int (-22)) rfl T.g_OUT_OF_BOUNDS.choose_spec ⟨_, rfl⟩) pa_nil)))) pss_nil)
        (pss_cons (ps_expr (pe_meth (pv 0) T.cl_Chronicle T.me_Chronicle_begin (ok_Chronicle_begin T) (hr.mono (by decide)) T.b_Chronicle_begin .nil pass0 (pa_cons (pv 1) (pa_cons (pv 2) (pa_cons (pv 3) (pa_cons (pv 4) pa_nil))))))
        (pss_one (ps_ret (pe_lst (pa_cons pe_int pa_nil)))))), ?_⟩
    refine ⟨_, rfl, _, rfl, _, rfl, _, rfl, t, n, f, e, rfl, _, rfl, ?_⟩
    by_cases hC : t = 0 ∨ 40 < t ∨ n < 2 ∨ 16 < n ∨ 500 < f ∨ e < f ∨ Km498.LAST < e
    · refine ite2 (fun _ => ?_) (fun hn => absurd (by rw [decide_eq_true hC]; rfl) hn)
      exact ⟨by show 1 ≤ sizeLine; decide, fun p hp => k.ask C (if_pos hC) (Same.refl _) hp rfl⟩
    · refine ite2 (fun hn => absurd hn (by rw [decide_eq_false hC]; decide)) (fun _ => ?_)
      refine ⟨_, rfl, c, dx, _, rfl, q.at', cF_no _ _ _ (by decide +kernel) (by decide +kernel) (by decide +kernel) (by decide +kernel) (by decide +kernel) (by decide +kernel), _, rfl, _, rfl, _, rfl, _, rfl,
        c, dx, _, t, n, f, e, rfl, q.at', .inr ⟨_, _, _, rfl⟩, fun R' H' C' kp => ?_⟩
      exact ⟨by show 1 ≤ sizeLine; decide, fun p hp => k.did (if_neg hC) C' (fun b o eb i m => kp b o eb fun z => m (z ▸ q.mc)) hp rfl⟩
theorem ok_ny_tell (T : Txt K mg a D) : FnOk P w K mg base CX0 3 a.f_ny_tell D.d_ny_tell p_ny_tell (sp_ny_tell K a) := by
  refine T.F_ny_tell.ok sc_ny_tell (fun vs H Q E h => ?_) (fun cdv A outer s H vs Q E hr h => ?_)
  · obtain ⟨kk, j, R, c, d, rfl, _⟩ := h; rfl
  · obtain ⟨kk, j, R, c, d, rfl, C, ok, k⟩ := h
    obtain ⟨dx, l, h, dh, P', U, ps, us, q⟩ := id C
    obtain ⟨il, xs, hx, hp0⟩ := id q.en
    have hen := ok.now.en
    refine ⟨_, (pss_cons (ps_if (PW.pt (pw_or (pt_cmpR op_ge (pv 1) (pe_fld (pv 0) rfl) (nomark _)) (pw_or1 (pt_cmpR op_ge (pv 2) (pe_fld (pv 0) rfl) (nomark _)))))
        (pss_one (ps_ret (pe_lst (pa_cons (pe_glob (v := .int (-22)) rfl T.g_OUT_OF_BOUNDS.choose_spec ⟨_, rfl⟩) pa_nil)))) pss_nil)
        (pss_cons (ps_set (i := 3) sc_ny_tell.nd rfl (Or.inl rfl) (pe_callB call_len_seq (by rfl) T.z_len PySem.boot_len (pa_cons (pe_fld (pv 0) rfl) pa_nil)))
        (pss_cons (ps_if (pt_cmpR op_eq (pv 3) (pe_glob (v := .int (10)) rfl T.g_MOST_ENTRIES.choose_spec ⟨_, rfl⟩) (nomark _))
        (pss_one (ps_ret (pe_lst (pa_cons (pe_glob (v := .int (-28)) rfl T.g_FULL.choose_spec ⟨_, rfl⟩) pa_nil)))) pss_nil)
        (pss_cons (ps_expr (pe_meth (pv 0) T.cl_Chronicle T.me_Chronicle_change_entries (ok_Chronicle_change_entries T) (hr.mono (by decide)) T.b_Chronicle_change_entries .nil pass0 (pa_cons (pe_op op_cat (pe_fld (pv 0) rfl) (pe_lst (pa_cons (pe_make T.mk_Entry (ok_Entry_init T) (hr.mono (by decide)) rfl T.g_Entry T.b_Entry_init .nil pass0 (pa_cons (pv 1) (pa_cons (pv 2) (pa_cons pe_non pa_nil)))) pa_nil))) pa_nil)))
        (pss_one (ps_ret (pe_lst (pa_cons (pv 3) pa_nil)))))))), ?_⟩
    refine ⟨_, rfl, _, rfl, c, _, dx, _, _, rfl, q.at', T.cl_Chronicle, T.no_Chronicle_name_total, cF_n _ _ _, _, _, rfl, rfl, _, rfl, ?_⟩
    refine ite2 (fun h1 => iteT ?_) (fun h1 => ?_)
    · have h1' : d.now.names ≤ kk := by have := dT h1; omega
      exact ⟨by show 1 ≤ sizeLine; decide, fun p hp => k.ask C (if_pos (.inl h1')) (Same.refl _) hp rfl⟩
    refine ⟨_, rfl, _, rfl, c, _, dx, _, _, rfl, q.at', T.cl_Chronicle, T.no_Chronicle_reign_length, cF_t _ _ _, _, _, rfl, rfl, _, rfl, ?_⟩
    refine ite2 (fun h2 => ?_) (fun h2 => ?_)
    · have h2' : d.now.term ≤ j := by have := dT h2; omega
      exact ⟨by show 1 ≤ sizeLine; decide, fun p hp => k.ask C (if_pos (.inr h2')) (Same.refl _) hp rfl⟩
    have hno : ¬ (d.now.names ≤ kk ∨ d.now.term ≤ j) := by
      have := dF h1
      have := dF h2
      omega
    refine ⟨_, rfl, c, _, dx, _, _, rfl, q.at', T.cl_Chronicle, T.no_Chronicle_entries, cF_l _ _ _, l, _, rfl, .inl (SqL.of hx), ?_⟩
    have hlen : (xs.map V.ref).length = d.now.entries.length := by rw [List.length_map, hp0.1]
    refine ⟨_, rfl, rfl, _, rfl, ?_⟩
    by_cases h3 : d.now.entries.length = 10
    · refine ite2 (fun _ => ?_) (fun hn => absurd (decide_eq_true (by rw [hlen, h3]; rfl)) hn)
      exact ⟨by show 1 ≤ sizeLine; decide, fun p hp => k.ask C ((if_neg hno).trans (if_pos (by show 10 ≤ d.now.entries.length; omega))) (Same.refl _) hp rfl⟩
    · refine ite2 (fun hn => absurd (of_decide_eq_true hn) (by rw [hlen]; intro z; injection z with z; omega)) (fun _ => ?_)
      have sz : xs.length + 1 ≤ sizeLine := Nat.le_trans (show xs.length + 1 ≤ 100 by rw [hp0.1]; omega) (by decide)
      refine ⟨_, rfl, c, dx, _, rfl, q.at', cF_no _ _ _ (by decide +kernel) (by decide +kernel) (by decide +kernel) (by decide +kernel) (by decide +kernel) (by decide +kernel),
        _, rfl, c, _, dx, _, _, rfl, q.at', T.cl_Chronicle, T.no_Chronicle_entries, cF_l _ _ _, _, rfl, _, rfl, ?_⟩
      intro x dn nx ndn nex
      refine ⟨x, dn, ⟨kk, j, none⟩, rfl, upd_same, fun H1 gx kp => ⟨rfl, ?_⟩⟩
      have s1 : Same H H1 := Same.made nx ndn kp
      refine ⟨by show 1 ≤ sizeLine; decide, fun p2 h2' => ?_⟩
      have s2 := s1.trans (Same.new (o := .lst [V.ref x]) h2')
      refine ⟨l, p2, _, _, rfl, rfl, s2 _ _ hx, upd_same, (by rw [List.length_map, List.length_singleton]; exact sz), fun p3 h3' => ?_⟩
      have s3 := s2.trans (Same.new (o := .lst (xs.map V.ref ++ [V.ref x])) h3')
      have f3 : H p3 = none := s2.free h3'
      have gx3 := Same.new (o := .lst (xs.map V.ref ++ [V.ref x])) h3' _ _ (Same.new (o := .lst [V.ref x]) h2' _ _ gx)
      have q3 := (q.same s3).grow (N := fun b => b = x ∨ b = p3) (by
        rintro b (rfl | rfl) m
        · exact q.tr _ (.inr m) nx
        · exact q.tr _ (.inr m) f3) (by
        rintro b (rfl | rfl) z
        · rw [gx3] at z; cases z
        · rw [upd_same] at z; cases z)
      refine ⟨⟨fun b => R.im b ∨ (b = x ∨ b = p3), R.mu⟩, c, p3, d, d.now.entries ++ [⟨kk, j, none⟩], rfl, ⟨_, _, _, _, _, _, _, _, q3⟩, ok, ⟨.inr (.inr rfl), xs ++ [x], ?_, ?_⟩, fun R' H' C' kp' => ?_⟩
      · rw [upd_same, List.map_append]
        rfl
      · exact Pr.append (hp0.mono fun y e _ _ z => ⟨.inl z.1, z.2.frame fun o => s3 y o⟩) (Pr.one ⟨.inr (.inl rfl), dn, gx3⟩)
      · refine ⟨_, rfl, by show 1 ≤ sizeLine; decide, fun p hp => ?_⟩
        refine k.did ((if_neg hno).trans (if_neg (by show ¬ 10 ≤ d.now.entries.length; omega))) C' (fun b o e i m => ?_) hp (by rw [hlen]; rfl)
        refine kp' b o (s3 b o e) ?_ m
        rintro (z | rfl | rfl)
        · exact i z
        · rw [nx] at e; cases e
        · rw [f3] at e; cases e
theorem ok_ny_drop (T : Txt K mg a D) : FnOk P w K mg base CX0 3 a.f_ny_drop D.d_ny_drop p_ny_drop (sp_ny_drop K a) := by
  refine T.F_ny_drop.ok sc_ny_drop (fun vs H Q E h => ?_) (fun cdv A outer s H vs Q E hr h => ?_)
  · obtain ⟨R, c, d, rfl, _⟩ := h; rfl
  · obtain ⟨R, c, d, rfl, C, ok, k⟩ := h
    obtain ⟨dx, l, h, dh, P', U, ps, us, q⟩ := id C
    obtain ⟨il, xs, hx, hp0⟩ := id q.en
    have hen := ok.now.en
    have hlen : (xs.map V.ref).length = d.now.entries.length := by rw [List.length_map, hp0.1]
    refine ⟨_, (pss_cons (ps_if (pt_cmpR op_eq (pe_callB call_len_seq (by rfl) T.z_len PySem.boot_len (pa_cons (pe_fld (pv 0) rfl) pa_nil)) pe_int (nomark _))
        (pss_one (ps_ret (pe_lst (pa_cons (pe_glob (v := .int (-6)) rfl T.g_NOTHING_TO_END.choose_spec ⟨_, rfl⟩) pa_nil)))) pss_nil)
        (pss_cons (ps_set (i := 1) sc_ny_drop.nd rfl (Or.inl rfl) (pe_op op_sub (pe_callB call_len_seq (by rfl) T.z_len PySem.boot_len (pa_cons (pe_fld (pv 0) rfl) pa_nil)) pe_int))
        (pss_cons (ps_expr (pe_meth (pv 0) T.cl_Chronicle T.me_Chronicle_change_entries (ok_Chronicle_change_entries T) (hr.mono (by decide)) T.b_Chronicle_change_entries .nil pass0 (pa_cons (pe_slice sl_list (pe_fld (pv 0) rfl) po_none (po_some (pv 1))) pa_nil)))
        (pss_one (ps_ret (pe_lst (pa_cons (pv 1) pa_nil))))))), ?_⟩
    refine ⟨_, rfl, c, _, dx, _, _, rfl, q.at', T.cl_Chronicle, T.no_Chronicle_entries, cF_l _ _ _, l, _, rfl, .inl (SqL.of hx), rfl, _, rfl, ?_⟩
    by_cases h3 : d.now.entries.length = 0
    · refine ite2 (fun _ => ?_) (fun hn => absurd (decide_eq_true (by rw [hlen, h3]; rfl)) hn)
      exact ⟨by show 1 ≤ sizeLine; decide, fun p hp => k.ask C (if_pos h3) (Same.refl _) hp rfl⟩
    · refine ite2 (fun hn => absurd (of_decide_eq_true hn) (by rw [hlen]; intro z; injection z with z; omega)) (fun _ => ?_)
      refine ⟨_, rfl, c, _, dx, _, _, rfl, q.at', T.cl_Chronicle, T.no_Chronicle_entries, cF_l _ _ _, l, _, rfl, .inl (SqL.of hx), _, _, rfl, rfl, ?_⟩
      have el : (((xs.map V.ref).length : Nat) : Int) - 1 = ((d.now.entries.length - 1 : Nat) : Int) := by rw [hlen]; omega
      refine ⟨_, rfl, c, dx, _, rfl, q.at', cF_no _ _ _ (by decide +kernel) (by decide +kernel) (by decide +kernel) (by decide +kernel) (by decide +kernel) (by decide +kernel),
        _, rfl, c, _, dx, _, _, rfl, q.at', T.cl_Chronicle, T.no_Chronicle_entries, cF_l _ _ _, _, rfl, _, rfl, l, _, rfl, SqL.of hx, fun p3 f3 => ?_⟩
      have s3 := Same.new (o := .lst (cutV (xs.map V.ref) none (some ((((xs.map V.ref).length : Nat) : Int) - 1)))) f3
      have q3 := (q.same s3).grow (N := fun b => b = p3) (by
        rintro b rfl m
        exact q.tr _ (.inr m) f3) (by
        rintro b rfl z
        rw [upd_same] at z; cases z)
      refine ⟨⟨fun b => R.im b ∨ b = p3, R.mu⟩, c, p3, d, d.now.entries.dropLast, rfl, ⟨_, _, _, _, _, _, _, _, q3⟩, ok, ⟨.inr rfl, xs.take (d.now.entries.length - 1), ?_, ?_⟩, fun R' H' C' kp' => ?_⟩
      · rw [upd_same, el, cut_to, List.map_take]
      · rw [List.dropLast_eq_take]
        exact Pr.take (hp0.mono fun y e _ _ z => ⟨.inl z.1, z.2.frame fun o => s3 y o⟩) _
      · refine ⟨_, rfl, by show 1 ≤ sizeLine; decide, fun p hp => ?_⟩
        refine k.did (if_neg h3) C' (fun b o e i m => ?_) hp (congrArg (fun z => [V.int z]) el)
        refine kp' b o (s3 b o e) ?_ m
        rintro (z | rfl)
        · exact i z
        · rw [f3] at e; cases e
end
end Ry

set_option Elab.async false
set_option maxRecDepth 100000
set_option maxHeartbeats 2000000
namespace Ry
open PySem PySem.Spec PyProof.Rows L2 RyM
theorem no_of {b : Km498.Book} {i : Nat} (h : ¬ i < b.entries.length) : b.no i = true := by
  unfold Km498.Book.no Km498.Book.n
  exact decide_eq_true (by omega)
theorem not_no {b : Km498.Book} {i : Nat} (h : i < b.entries.length) : ¬ b.no i = true := by
  unfold Km498.Book.no Km498.Book.n
  rw [decide_eq_true_eq]
  omega
theorem inV_nI {y : Nat} {ys : List Nat} : inV (V.int ((y : Nat) : Int)) (nI ys) = decide (y ∈ ys) := by
  unfold inV nI
  rw [List.any_map]
  induction ys with
  | nil => rfl
  | cons x r ih =>
    rw [List.any_cons, ih]
    have e : ((fun y' => eqV y' (V.int ((y : Nat) : Int))) ∘ fun (x : Nat) => V.int (x : Int)) x = decide (x = y) := by
      show (((x : Nat) : Int) == ((y : Nat) : Int)) = decide (x = y)
      by_cases h : x = y
      · subst h
        rw [decide_eq_true rfl]
        exact beq_self_eq_true _
      · rw [decide_eq_false h]
        exact beq_false_of_ne (by omega)
    rw [e]
    by_cases h : x = y
    · subst h
      rw [decide_eq_true rfl, decide_eq_true List.mem_cons_self]
      rfl
    · rw [decide_eq_false h, Bool.false_or]
      by_cases h2 : y ∈ r
      · rw [decide_eq_true h2, decide_eq_true (List.mem_cons_of_mem _ h2)]
      · rw [decide_eq_false h2, decide_eq_false fun z => (List.mem_cons.mp z).elim (fun q => h q.symm) h2]
theorem flat_nI (ys : List Nat) : (nI ys).all flatV = true := by
  unfold nI
  rw [List.all_map, List.all_eq_true]
  intro x _
  rfl
section
variable {P : Program} {w : World} {K : PySem.W.Frag} {mg : Str → Option Value} {base : Heap} {a : Ad} {D : Fd}
theorem ok_ny_know (T : Txt K mg a D) : FnOk P w K mg base CX0 4 a.f_ny_know D.d_ny_know p_ny_know (sp_ny_know K a) := by
  refine T.F_ny_know.ok sc_ny_know (fun vs H Q E h => ?_) (fun cdv A outer s H vs Q E hr h => ?_)
  · obtain ⟨i, y, R, c, d, rfl, _⟩ := h; rfl
  · obtain ⟨i, y, R, c, d, rfl, C, ok, k⟩ := h
    obtain ⟨dx, l, h, dh, P', U, ps, us, q⟩ := id C
    obtain ⟨il, xs, hx, hp0⟩ := id q.en
    refine ⟨_, (pss_cons (ps_if (pt_not (pt_val (pe_meth (pv 0) T.cl_Chronicle T.me_Chronicle_has_entry (ok_Chronicle_has_entry T) (hr.mono (by decide)) T.b_Chronicle_has_entry .nil pass0 (pa_cons (pv 1) pa_nil))))
        (pss_one (ps_ret (pe_lst (pa_cons (pe_glob (v := .int (-2)) rfl T.g_NOT_THERE.choose_spec ⟨_, rfl⟩) pa_nil)))) pss_nil)
        (pss_cons (ps_set (i := 3) sc_ny_know.nd rfl (Or.inl rfl) (pe_ix ix_list (pe_fld (pv 0) rfl) (pv 1) (fun _ _ => rfl)))
        (pss_cons (ps_if (pt_cmpR op_notN (pe_fld (pv 3) rfl) pe_non (nomark _))
        (pss_one (ps_ret (pe_lst (pa_cons (pe_glob (v := .int (-17)) rfl T.g_ALREADY_SO.choose_spec ⟨_, rfl⟩) pa_nil)))) pss_nil)
        (pss_cons (ps_if (pt_cmpR op_notIn_seq (pv 2) (pe_call (ok_entry_years T) (hr.mono (by decide)) rfl T.g_entry_years T.F_entry_years.kp T.b_entry_years .nil pass0 (pa_cons (pv 0) (pa_cons (pv 3) pa_nil))) (by rfl))
        (pss_one (ps_ret (pe_lst (pa_cons (pe_glob (v := .int (-33)) rfl T.g_CANNOT_BE.choose_spec ⟨_, rfl⟩) pa_nil)))) pss_nil)
        (pss_cons (ps_expr (pe_meth (pv 0) T.cl_Chronicle T.me_Chronicle_change_known (ok_Chronicle_change_known T) (hr.mono (by decide)) T.b_Chronicle_change_known .nil pass0 (pa_cons (pv 1) (pa_cons (pv 2) pa_nil))))
        (pss_one (ps_ret (pe_lst (pa_cons pe_int pa_nil))))))))), ?_⟩
    refine ⟨_, rfl, c, dx, _, rfl, q.at', cF_no _ _ _ (by decide +kernel) (by decide +kernel) (by decide +kernel) (by decide +kernel) (by decide +kernel) (by decide +kernel), _, rfl, R, c, d, i, rfl, C, _, rfl, ?_⟩
    by_cases hi : i < d.now.entries.length
    case neg =>
      refine ite2 (fun _ => ?_) (fun hn => absurd (by rw [decide_eq_false hi]; rfl) hn)
      exact ⟨by show 1 ≤ sizeLine; decide, fun p hp => k.ask C (if_pos (no_of hi)) (Same.refl _) hp rfl⟩
    refine ite2 (fun hn => absurd hn (by rw [decide_eq_true hi]; decide)) (fun _ => ?_)
    obtain ⟨he1, he⟩ := e_mem hi
    obtain ⟨y', hy', iy, hyE⟩ := hp0.get he
    obtain ⟨dE, hE⟩ := id hyE
    have hyV : (xs.map V.ref)[i]? = some (V.ref y') := by rw [List.getElem?_map, hy']; rfl
    refine ⟨_, rfl, c, _, dx, _, _, rfl, q.at', T.cl_Chronicle, T.no_Chronicle_entries, cF_l _ _ _, _, rfl, l, _, _, _, rfl, rfl, SqL.of hx, atI_nat hyV, ?_⟩
    refine ⟨_, rfl, y', _, dE, _, _, rfl, hE, T.cl_Entry, T.no_Entry_known, eF_k _, rfl, _, rfl, ?_⟩
    cases hk : (d.now.e i).known with
    | some z =>
      refine ite2 (fun _ => ?_) (fun hn => absurd (by rfl) hn)
      refine ⟨by show 1 ≤ sizeLine; decide, fun p hp => k.ask C ((if_neg (not_no hi)).trans (if_pos (by rw [hk]; rfl))) (Same.refl _) hp rfl⟩
    | none =>
      refine ite2 (fun hn => absurd hn (by decide)) (fun _ => ?_)
      refine ⟨_, rfl, _, rfl, _, rfl, R, c, y', d, d.now.e i, rfl, C, ok, hyE, ok.now.es _ he1, fun p2 h2 => ?_⟩
      have s2 := Same.new (o := .lst (nI (d.now.years (d.now.e i)))) h2
      refine ⟨p2, _, rfl, .inl (SqL.of upd_same), rfl, flat_nI _, _, rfl, ?_⟩
      have hfit : (y ∈ d.now.years (d.now.e i)) ↔ d.now.fits (d.now.e i) y = true := by
        rw [mem_years]
        exact ⟨fun z => z.2, fun z => ⟨(fits_iff.mp z).2.1, z⟩⟩
      have h1 : ¬ ((d.now.e i).known != none) = true := by rw [hk]; decide
      by_cases hf : y ∈ d.now.years (d.now.e i)
      case neg =>
        refine ite2 (fun _ => ?_) (fun hn => absurd (by rw [inV_nI, decide_eq_false hf]; rfl) hn)
        have hf' : d.now.fits (d.now.e i) y = false := by
          cases e : d.now.fits (d.now.e i) y with
          | false => rfl
          | true => exact absurd (hfit.mpr e) hf
        exact ⟨by show 1 ≤ sizeLine; decide, fun p hp => k.ask C ((if_neg (not_no hi)).trans ((if_neg h1).trans (if_pos hf'))) s2 hp rfl⟩
      · refine ite2 (fun hn => absurd hn (by rw [inV_nI, decide_eq_true hf]; decide)) (fun _ => ?_)
        have hf' : ¬ d.now.fits (d.now.e i) y = false := by rw [hfit.mp hf]; decide
        have C2 := C.same s2
        obtain ⟨dx2, l2, h2', dh2, P2, U2, ps2, us2, q2⟩ := id C2
        refine ⟨_, rfl, c, dx2, _, rfl, q2.at', cF_no _ _ _ (by decide +kernel) (by decide +kernel) (by decide +kernel) (by decide +kernel) (by decide +kernel) (by decide +kernel), _, rfl, _, rfl, R, c, d, i, some y, rfl, C2, ok, hi, fun R' H' C' kp' => ?_⟩
        refine ⟨by show 1 ≤ sizeLine; decide, fun p hp => ?_⟩
        exact k.did ((if_neg (not_no hi)).trans ((if_neg h1).trans (if_neg hf'))) C' (fun b o e i' m => kp' b o (s2 b o e) i' m) hp rfl
theorem ok_ny_forget (T : Txt K mg a D) : FnOk P w K mg base CX0 4 a.f_ny_forget D.d_ny_forget p_ny_forget (sp_ny_forget K a) := by
  refine T.F_ny_forget.ok sc_ny_forget (fun vs H Q E h => ?_) (fun cdv A outer s H vs Q E hr h => ?_)
  · obtain ⟨i, R, c, d, rfl, _⟩ := h; rfl
  · obtain ⟨i, R, c, d, rfl, C, ok, k⟩ := h
    obtain ⟨dx, l, h, dh, P', U, ps, us, q⟩ := id C
    obtain ⟨il, xs, hx, hp0⟩ := id q.en
    refine ⟨_, (pss_cons (ps_if (pt_not (pt_val (pe_meth (pv 0) T.cl_Chronicle T.me_Chronicle_has_entry (ok_Chronicle_has_entry T) (hr.mono (by decide)) T.b_Chronicle_has_entry .nil pass0 (pa_cons (pv 1) pa_nil))))
        (pss_one (ps_ret (pe_lst (pa_cons (pe_glob (v := .int (-2)) rfl T.g_NOT_THERE.choose_spec ⟨_, rfl⟩) pa_nil)))) pss_nil)
        (pss_cons (ps_set (i := 2) sc_ny_forget.nd rfl (Or.inl rfl) (pe_fld (pe_ix ix_list (pe_fld (pv 0) rfl) (pv 1) (fun _ _ => rfl)) rfl))
        (pss_cons (ps_if (pt_cmpR op_isN (pv 2) pe_non (nomark _))
        (pss_one (ps_ret (pe_lst (pa_cons (pe_glob (v := .int (-6)) rfl T.g_NOTHING_TO_END.choose_spec ⟨_, rfl⟩) pa_nil)))) pss_nil)
        (pss_cons (ps_expr (pe_meth (pv 0) T.cl_Chronicle T.me_Chronicle_change_known (ok_Chronicle_change_known T) (hr.mono (by decide)) T.b_Chronicle_change_known .nil pass0 (pa_cons (pv 1) (pa_cons pe_non pa_nil))))
        (pss_one (ps_ret (pe_lst (pa_cons (pv 2) pa_nil)))))))), ?_⟩
    refine ⟨_, rfl, c, dx, _, rfl, q.at', cF_no _ _ _ (by decide +kernel) (by decide +kernel) (by decide +kernel) (by decide +kernel) (by decide +kernel) (by decide +kernel), _, rfl, R, c, d, i, rfl, C, _, rfl, ?_⟩
    by_cases hi : i < d.now.entries.length
    case neg =>
      refine ite2 (fun _ => ?_) (fun hn => absurd (by rw [decide_eq_false hi]; rfl) hn)
      exact ⟨by show 1 ≤ sizeLine; decide, fun p hp => k.ask C (if_pos (no_of hi)) (Same.refl _) hp rfl⟩
    refine ite2 (fun hn => absurd hn (by rw [decide_eq_true hi]; decide)) (fun _ => ?_)
    obtain ⟨he1, he⟩ := e_mem hi
    obtain ⟨y', hy', iy, hyE⟩ := hp0.get he
    obtain ⟨dE, hE⟩ := id hyE
    have hyV : (xs.map V.ref)[i]? = some (V.ref y') := by rw [List.getElem?_map, hy']; rfl
    refine ⟨_, rfl, c, _, dx, _, _, rfl, q.at', T.cl_Chronicle, T.no_Chronicle_entries, cF_l _ _ _, _, rfl, l, _, _, _, rfl, rfl, SqL.of hx, atI_nat hyV, y', _, dE, _, _, rfl, hE, T.cl_Entry, T.no_Entry_known, eF_k _, ?_⟩
    refine ⟨_, rfl, rfl, _, rfl, ?_⟩
    have ea : Km498.act d (.forget i) = match (d.now.e i).known with
      | none => (d, Km498.only (-6))
      | some y => (d.become (d.now.set i { d.now.e i with known := none }), Km498.only (Km498.n2i y)) := if_neg (not_no hi)
    cases hk : (d.now.e i).known with
    | none =>
      refine ite2 (fun _ => ?_) (fun hn => absurd (by rfl) hn)
      rw [hk] at ea
      exact ⟨by show 1 ≤ sizeLine; decide, fun p hp => k.ask C ea (Same.refl _) hp rfl⟩
    | some z =>
      refine ite2 (fun hn => absurd hn (by intro q; cases of_decide_eq_true q)) (fun _ => ?_)
      rw [hk] at ea
      refine ⟨_, rfl, c, dx, _, rfl, q.at', cF_no _ _ _ (by decide +kernel) (by decide +kernel) (by decide +kernel) (by decide +kernel) (by decide +kernel) (by decide +kernel), _, rfl, R, c, d, i, none, rfl, C, ok, hi, fun R' H' C' kp' => ?_⟩
      refine ⟨_, rfl, by show 1 ≤ sizeLine; decide, fun p hp => ?_⟩
      exact k.did ea C' kp' hp rfl
theorem ok_ny_up_to (T : Txt K mg a D) : FnOk P w K mg base CX0 3 a.f_ny_up_to D.d_ny_up_to p_ny_up_to (sp_ny_up_to K a) := by
  refine T.F_ny_up_to.ok sc_ny_up_to (fun vs H Q E h => ?_) (fun cdv A outer s H vs Q E hr h => ?_)
  · obtain ⟨e, R, c, d, rfl, _⟩ := h; rfl
  · obtain ⟨e, R, c, d, rfl, C, ok, k⟩ := h
    obtain ⟨dx, l, h, dh, P', U, ps, us, q⟩ := id C
    refine ⟨_, (pss_cons (ps_if (pt_not (pt_val (pe_call (ok_fits_as_last_year T) (hr.mono (by decide)) rfl T.g_fits_as_last_year T.F_fits_as_last_year.kp T.b_fits_as_last_year .nil pass0 (pa_cons (pe_fld (pv 0) rfl) (pa_cons (pv 1) pa_nil)))))
        (pss_one (ps_ret (pe_lst (pa_cons (pe_glob (v := .int (-22)) rfl T.g_OUT_OF_BOUNDS.choose_spec ⟨_, rfl⟩) pa_nil)))) pss_nil)
        (pss_cons (ps_set (i := 2) sc_ny_up_to.nd rfl (Or.inl rfl) (pe_fld (pv 0) rfl))
        (pss_cons (ps_if (pt_cmpR op_eq (pv 1) (pv 2) (nomark _))
        (pss_one (ps_ret (pe_lst (pa_cons (pe_glob (v := .int (-17)) rfl T.g_ALREADY_SO.choose_spec ⟨_, rfl⟩) pa_nil)))) pss_nil)
        (pss_cons (ps_expr (pe_meth (pv 0) T.cl_Chronicle T.me_Chronicle_change_last_year (ok_Chronicle_change_last_year T) (hr.mono (by decide)) T.b_Chronicle_change_last_year .nil pass0 (pa_cons (pv 1) pa_nil)))
        (pss_one (ps_ret (pe_lst (pa_cons (pv 2) pa_nil)))))))), ?_⟩
    refine ⟨_, rfl, c, _, dx, _, _, rfl, q.at', T.cl_Chronicle, T.no_Chronicle_first_year, cF_f _ _ _, _, rfl, d.now.first, e, rfl, _, rfl, ?_⟩
    by_cases hC : d.now.first ≤ e ∧ e ≤ 2000
    case neg =>
      refine ite2 (fun _ => ?_) (fun hn => absurd (by rw [decide_eq_false hC]; rfl) hn)
      exact ⟨by show 1 ≤ sizeLine; decide, fun p hp => k.ask C (if_pos (by show e < d.now.first ∨ 2000 < e; omega)) (Same.refl _) hp rfl⟩
    refine ite2 (fun hn => absurd hn (by rw [decide_eq_true hC]; decide)) (fun _ => ?_)
    have hno : ¬ (e < d.now.first ∨ Km498.LAST < e) := by show ¬ (e < d.now.first ∨ 2000 < e); omega
    refine ⟨_, rfl, c, _, dx, _, _, rfl, q.at', T.cl_Chronicle, T.no_Chronicle_last_year, cF_e _ _ _, ?_⟩
    refine ⟨_, rfl, _, rfl, rfl, _, rfl, ?_⟩
    by_cases h2 : e = d.now.last
    · refine ite2 (fun _ => ?_) (fun hn => absurd (decide_eq_true (by rw [h2])) hn)
      exact ⟨by show 1 ≤ sizeLine; decide, fun p hp => k.ask C ((if_neg hno).trans (if_pos h2)) (Same.refl _) hp rfl⟩
    · refine ite2 (fun hn => absurd (of_decide_eq_true hn) (by intro z; injection z with z; omega)) (fun _ => ?_)
      refine ⟨_, rfl, c, dx, _, rfl, q.at', cF_no _ _ _ (by decide +kernel) (by decide +kernel) (by decide +kernel) (by decide +kernel) (by decide +kernel) (by decide +kernel), _, rfl, R, c, d, e, rfl, C, ok, fun R' H' C' kp' => ?_⟩
      refine ⟨_, rfl, by show 1 ≤ sizeLine; decide, fun p hp => ?_⟩
      exact k.did ((if_neg hno).trans (if_neg h2)) C' kp' hp rfl
theorem ok_ny_name (T : Txt K mg a D) : FnOk P w K mg base CX0 3 a.f_ny_name D.d_ny_name p_ny_name (sp_ny_name K a) := by
  refine T.F_ny_name.ok sc_ny_name (fun vs H Q E h => ?_) (fun cdv A outer s H vs Q E hr h => ?_)
  · obtain ⟨y, R, c, d, rfl, _⟩ := h; rfl
  · obtain ⟨y, R, c, d, rfl, C, ok, k⟩ := h
    obtain ⟨dx, l, h, dh, P', U, ps, us, q⟩ := id C
    refine ⟨_, (pss_cons (ps_if (pt_cmpR op_gt (pv 1) (pe_glob (v := .int (2000)) rfl T.g_HIGHEST_YEAR.choose_spec ⟨_, rfl⟩) (nomark _))
        (pss_one (ps_ret (pe_lst (pa_cons (pe_glob (v := .int (-22)) rfl T.g_OUT_OF_BOUNDS.choose_spec ⟨_, rfl⟩) pa_nil)))) pss_nil)
        (pss_cons (ps_if (pt_cmpR op_lt (pv 1) (pe_fld (pv 0) rfl) (nomark _))
        (pss_one (ps_ret (pe_lst (pa_cons (pe_glob (v := .int (-33)) rfl T.g_CANNOT_BE.choose_spec ⟨_, rfl⟩) pa_nil)))) pss_nil)
        (pss_one (ps_ret (pe_lst (pa_cons (pe_call (ok_year_name T) (hr.mono (by decide)) rfl T.g_year_name T.F_year_name.kp T.b_year_name .nil pass0 (pa_cons (pv 0) (pa_cons (pv 1) pa_nil))) (pa_cons (pe_call (ok_year_in_reign T) (hr.mono (by decide)) rfl T.g_year_in_reign T.F_year_in_reign.kp T.b_year_in_reign .nil pass0 (pa_cons (pv 0) (pa_cons (pv 1) pa_nil))) (pa_cons (pe_call (ok_year_round T) (hr.mono (by decide)) rfl T.g_year_round T.F_year_round.kp T.b_year_round .nil pass0 (pa_cons (pv 0) (pa_cons (pv 1) pa_nil))) pa_nil)))))))), ?_⟩
    refine ⟨_, rfl, _, _, rfl, rfl, _, rfl, ?_⟩
    refine ite2 (fun h1 => ?_) (fun h1 => ?_)
    · have h1' : Km498.LAST < y := by have := dT h1; show 2000 < y; omega
      exact ⟨by show 1 ≤ sizeLine; decide, fun p hp => k.ask C (congrArg (Prod.mk d) (if_pos h1')) (Same.refl _) hp rfl⟩
    have h1' : ¬ Km498.LAST < y := by have := dF h1; show ¬ 2000 < y; omega
    refine ⟨_, rfl, _, rfl, c, _, dx, _, _, rfl, q.at', T.cl_Chronicle, T.no_Chronicle_first_year, cF_f _ _ _, _, _, rfl, rfl, _, rfl, ?_⟩
    refine ite2 (fun h2 => ?_) (fun h2 => ?_)
    · have h2' : y < d.now.first := by have := dT h2; omega
      exact ⟨by show 1 ≤ sizeLine; decide, fun p hp => k.ask C (congrArg (Prod.mk d) ((if_neg h1').trans (if_pos h2'))) (Same.refl _) hp rfl⟩
    have h2' : ¬ y < d.now.first := by have := dF h2; omega
    refine ⟨_, rfl, _, rfl, R, c, d, y, rfl, C, ok, by omega, _, rfl, _, rfl, R, c, d, y, rfl, C, ok, by omega, _, rfl, _, rfl, R, c, d, y, rfl, C, ok, by omega, by show 3 ≤ sizeLine; decide, fun p hp => ?_⟩
    exact k.ask C (congrArg (Prod.mk d) ((if_neg h1').trans (if_neg h2'))) (Same.refl _) hp rfl
end
end Ry

set_option Elab.async false
set_option maxRecDepth 100000
set_option maxHeartbeats 2000000
namespace Ry
open PySem PySem.Spec PyProof.Rows L2 RyM
theorem soonL_length : ∀ {rs : List (List Nat)} {y : Nat} {r : List Nat}, soonL rs y = some r → r.length = rs.length
  | [], y, r, h => by cases h; rfl
  | x :: rs, y, r, h => by
    unfold soonL at h
    cases e : x.find? fun x => decide (y ≤ x) with
    | none => rw [e] at h; cases h
    | some z =>
      rw [e] at h
      cases e2 : soonL rs (z + 1) with
      | none => simp only [e2, Option.map_none] at h; cases h
      | some q =>
        simp only [e2, Option.map_some] at h
        cases h
        rw [List.length_cons, List.length_cons, soonL_length e2]
theorem lateL_length : ∀ {rs : List (List Nat)} {y : Nat} {r : List Nat}, lateL rs y = some r → r.length = rs.length
  | [], y, r, h => by cases h; rfl
  | x :: rs, y, r, h => by
    unfold lateL at h
    cases e : x.reverse.find? fun x => decide (x < y) with
    | none => rw [e] at h; cases h
    | some z =>
      rw [e] at h
      cases e2 : lateL rs z with
      | none => simp only [e2, Option.map_none] at h; cases h
      | some q =>
        simp only [e2, Option.map_some] at h
        cases h
        rw [List.length_append, List.length_singleton, List.length_cons, lateL_length e2]
theorem rows_length (b : Km498.Book) : (rows b).length = b.entries.length := List.length_map _
theorem nI_told (n : Nat) (l : List Nat) : nI (n :: l) = (Km498Neutral.told ⟨Km498.n2i n, l⟩).map V.int := by
  unfold nI Km498Neutral.told Km498Neutral.nums
  rw [List.map_cons, List.map_cons, List.map_map]
  rfl
section
variable {P : Program} {w : World} {K : PySem.W.Frag} {mg : Str → Option Value} {base : Heap} {a : Ad} {D : Fd}
theorem ok_ny_years (T : Txt K mg a D) : FnOk P w K mg base CX0 4 a.f_ny_years D.d_ny_years p_ny_years (sp_ny_years K a) := by
  refine T.F_ny_years.ok sc_ny_years (fun vs H Q E h => ?_) (fun cdv A outer s H vs Q E hr h => ?_)
  · obtain ⟨i, R, c, d, rfl, _⟩ := h; rfl
  · obtain ⟨i, R, c, d, rfl, C, ok, k⟩ := h
    obtain ⟨dx, l, h, dh, P', U, ps, us, q⟩ := id C
    obtain ⟨il, xs, hx, hp0⟩ := id q.en
    refine ⟨_, (pss_cons (ps_if (pt_not (pt_val (pe_meth (pv 0) T.cl_Chronicle T.me_Chronicle_has_entry (ok_Chronicle_has_entry T) (hr.mono (by decide)) T.b_Chronicle_has_entry .nil pass0 (pa_cons (pv 1) pa_nil))))
        (pss_one (ps_ret (pe_lst (pa_cons (pe_glob (v := .int (-2)) rfl T.g_NOT_THERE.choose_spec ⟨_, rfl⟩) pa_nil)))) pss_nil)
        (pss_cons (ps_set (i := 2) sc_ny_years.nd rfl (Or.inl rfl) (pe_call (ok_entry_years T) (hr.mono (by decide)) rfl T.g_entry_years T.F_entry_years.kp T.b_entry_years .nil pass0 (pa_cons (pv 0) (pa_cons (pe_ix ix_list (pe_fld (pv 0) rfl) (pv 1) (fun _ _ => rfl)) pa_nil))))
        (pss_cons (ps_if (pt_cmpR op_eq (pe_callB call_len_seq (by rfl) T.z_len PySem.boot_len (pa_cons (pv 2) pa_nil)) pe_int (nomark _))
        (pss_one (ps_ret (pe_lst (pa_cons pe_int (pa_cons pe_int (pa_cons pe_int pa_nil)))))) pss_nil)
        (pss_one (ps_ret (pe_lst (pa_cons (pe_callB call_len_seq (by rfl) T.z_len PySem.boot_len (pa_cons (pv 2) pa_nil)) (pa_cons (pe_ix ix_list (pv 2) pe_int (fun _ _ => rfl)) (pa_cons (pe_ix ix_list (pv 2) (pe_op op_sub (pe_callB call_len_seq (by rfl) T.z_len PySem.boot_len (pa_cons (pv 2) pa_nil)) pe_int) (fun _ _ => rfl)) pa_nil))))))))), ?_⟩
    refine ⟨_, rfl, c, dx, _, rfl, q.at', cF_no _ _ _ (by decide +kernel) (by decide +kernel) (by decide +kernel) (by decide +kernel) (by decide +kernel) (by decide +kernel), _, rfl, R, c, d, i, rfl, C, _, rfl, ?_⟩
    by_cases hi : i < d.now.entries.length
    case neg =>
      refine ite2 (fun _ => ?_) (fun hn => absurd (by rw [decide_eq_false hi]; rfl) hn)
      exact ⟨by show 1 ≤ sizeLine; decide, fun p hp => k.ask C (congrArg (Prod.mk d) (if_pos (no_of hi))) (Same.refl _) hp rfl⟩
    refine ite2 (fun hn => absurd hn (by rw [decide_eq_true hi]; decide)) (fun _ => ?_)
    obtain ⟨he1, he⟩ := e_mem hi
    obtain ⟨y', hy', iy, hyE⟩ := hp0.get he
    have hyV : (xs.map V.ref)[i]? = some (V.ref y') := by rw [List.getElem?_map, hy']; rfl
    refine ⟨_, rfl, _, rfl, c, _, dx, _, _, rfl, q.at', T.cl_Chronicle, T.no_Chronicle_entries, cF_l _ _ _, _, rfl, l, _, _, _, rfl, rfl, SqL.of hx, atI_nat hyV, R, c, y', d, d.now.e i, rfl, C, ok, hyE, ok.now.es _ he1, fun p2 h2 => ?_⟩
    have s2 := Same.new (o := .lst (nI (d.now.years (d.now.e i)))) h2
    refine ⟨_, rfl, p2, _, rfl, .inl (SqL.of upd_same), rfl, _, rfl, ?_⟩
    have ea : Km498.act d (.years i) = (d, ⟨Km498.n2i (d.now.years (d.now.e i)).length, [(d.now.years (d.now.e i)).headD 0, (d.now.years (d.now.e i)).getLastD 0]⟩) := congrArg (Prod.mk d) (if_neg (not_no hi))
    generalize d.now.years (d.now.e i) = ys at s2 ea ⊢
    cases ys with
    | nil =>
      refine ite2 (fun _ => ?_) (fun hn => absurd (by rfl) hn)
      exact ⟨by show 3 ≤ sizeLine; decide, fun p hp => k.ask C ea s2 hp rfl⟩
    | cons z r =>
      refine ite2 (fun hn => absurd (of_decide_eq_true hn) (by rw [nI_length, List.length_cons]; intro z; injection z with z; omega)) (fun _ => ?_)
      have hlast : (nI (z :: r))[r.length]? = some (V.int (((z :: r).getLastD 0 : Nat) : Int)) := by
        unfold nI
        rw [List.getElem?_map]
        have : (z :: r)[r.length]? = some ((z :: r).getLastD 0) := by
          rw [List.getLastD_cons, List.getLastD_eq_getLast?, ← List.getLast?_cons, List.getLast?_eq_getElem?]
          rfl
        rw [this]
        rfl
      refine ⟨_, rfl, p2, _, rfl, .inl (SqL.of upd_same), _, rfl, p2, _, _, _, rfl, rfl, SqL.of upd_same, atI_nat (j := 0) rfl, _, rfl, _, rfl, p2, _, rfl, .inl (SqL.of upd_same), _, _, rfl, rfl, p2, _, _, _, rfl, rfl, SqL.of upd_same, at_of (j := r.length) ?_ hlast, by show 3 ≤ sizeLine; decide, fun p hp => ?_⟩
      · rw [nI_length, List.length_cons]
        omega
      · exact k.ask C ea s2 hp (by rw [nI_length]; rfl)
theorem ok_reading_answer (T : Txt K mg a D) : FnOk P w K mg base CX0 1 a.f_reading_answer D.d_reading_answer p_reading_answer (sp_reading_answer K a) := by
  refine T.F_reading_answer.ok sc_reading_answer (fun vs H Q E h => ?_) (fun cdv A outer s H vs Q E hr h => ?_)
  · rcases h with ⟨rfl, _⟩ | ⟨q, r, rfl, _⟩ <;> rfl
  · refine ⟨_, (pss_cons (ps_if (pt_cmpR op_isN (pv 0) pe_non (nomark _))
        (pss_one (ps_ret (pe_lst (pa_cons (pe_glob (v := .int (-33)) rfl T.g_CANNOT_BE.choose_spec ⟨_, rfl⟩) pa_nil)))) pss_nil)
        (pss_one (ps_ret (pe_op op_cat (pe_op op_cat (pe_lst (pa_cons (pe_callB call_len_seq (by rfl) T.z_len PySem.boot_len (pa_cons (pv 0) pa_nil)) pa_nil)) (pv 0)) (pe_op op_rep (pe_lst (pa_cons pe_int pa_nil)) (pe_op op_sub (pe_glob (v := .int (10)) rfl T.g_MOST_ENTRIES.choose_spec ⟨_, rfl⟩) (pe_callB call_len_seq (by rfl) T.z_len PySem.boot_len (pa_cons (pv 0) pa_nil)))))))), ?_⟩
    rcases h with ⟨rfl, k⟩ | ⟨q, r, rfl, hq, hr10, k⟩
    · refine ⟨_, rfl, rfl, _, rfl, ite2 (fun _ => ?_) (fun hn => absurd (by rfl) hn)⟩
      exact ⟨by show 1 ≤ sizeLine; decide, fun p hp => k _ p (Same.refl _) hp⟩
    · refine ⟨_, rfl, rfl, _, rfl, ite2 (fun hn => absurd (of_decide_eq_true hn) (by intro z; cases z)) (fun _ => ?_)⟩
      have sz : ∀ n, n ≤ 100 → n ≤ sizeLine := fun n h => Nat.le_trans h (by decide)
      refine ⟨_, rfl, q, _, rfl, .inl (SqL.of hq), by show 1 ≤ sizeLine; decide, fun p1 h1 => ?_⟩
      have s1 := Same.new (o := .lst [V.int (((nI r).length : Nat) : Int)]) h1
      refine ⟨_, rfl, p1, q, _, _, rfl, rfl, upd_same, s1 _ _ hq, (by refine sz _ ?_; rw [nI_length, List.length_singleton]; omega), fun p2 h2 => ?_⟩
      have s2 := s1.trans (Same.new (o := .lst ([V.int (((nI r).length : Nat) : Int)] ++ nI r)) h2)
      refine ⟨by show 1 ≤ sizeLine; decide, fun p3 h3 => ?_⟩
      have s3 := s2.trans (Same.new (o := .lst [V.int 0]) h3)
      refine ⟨_, rfl, q, _, rfl, .inl (SqL.of (s3 _ _ hq)), _, _, rfl, rfl, ?_⟩
      have ek : (10 : Int) - (((nI r).length : Nat) : Int) = ((10 - r.length : Nat) : Int) := by rw [nI_length]; omega
      refine ⟨p3, _, _, rfl, rfl, upd_same, (by show -(2 ^ 63) ≤ (10 : Int) - (((nI r).length : Nat) : Int); rw [ek]; omega), (by show (10 : Int) - (((nI r).length : Nat) : Int) < 2 ^ 63; rw [ek]; omega), (by refine sz _ ?_; show 1 * ((10 : Int) - (((nI r).length : Nat) : Int)).toNat ≤ 100; rw [ek]; omega), fun p4 h4 => ?_⟩
      have n23 : p2 ≠ p3 := (upd_none' h3).1.symm
      have g2 := Same.new (o := .lst (List.replicate ((10 : Int) - (((nI r).length : Nat) : Int)).toNat [V.int 0]).flatten) h4 _ _ ((upd_ne n23).trans (upd_same (H := upd H p1 (.lst [V.int (((nI r).length : Nat) : Int)])) (o := .lst ([V.int (((nI r).length : Nat) : Int)] ++ nI r))))
      have s4 := s3.trans (Same.new (o := .lst (List.replicate ((10 : Int) - (((nI r).length : Nat) : Int)).toNat [V.int 0]).flatten) h4)
      have efl : (List.replicate ((10 : Int) - (((nI r).length : Nat) : Int)).toNat [V.int 0]).flatten = nI (List.replicate (10 - r.length) 0) := by
        rw [ek, Int.toNat_natCast]
        unfold nI
        rw [List.map_replicate]
        generalize 10 - r.length = m
        induction m with
        | zero => rfl
        | succ m ih => rw [List.replicate_succ, List.replicate_succ, List.flatten_cons, ih]; rfl
      refine ⟨p2, p4, _, _, rfl, rfl, g2, upd_same, (by refine sz _ ?_; rw [efl, List.length_append, nI_length, nI_length, List.length_singleton, List.length_replicate]; omega), fun p5 h5 => ?_⟩
      have k5 := k _ p5 s4 h5
      rw [efl, nI_length] at k5 ⊢
      have ef : Km498.fill 10 r = r ++ List.replicate (10 - r.length) 0 := by
        unfold Km498.fill
        rw [List.take_of_length_le hr10]
      rw [ef] at k5
      have e9 : [V.int ((r.length : Nat) : Int)] ++ nI r ++ nI (List.replicate (10 - r.length) 0) = nI (r.length :: (r ++ List.replicate (10 - r.length) 0)) := by
        show nI [r.length] ++ nI r ++ nI (List.replicate (10 - r.length) 0) = _
        rw [nI_append, nI_append]
        rfl
      rw [e9]
      exact k5
theorem ok_ny_soonest (T : Txt K mg a D) : FnOk P w K mg base CX0 5 a.f_ny_soonest D.d_ny_soonest p_ny_soonest (sp_ny_soonest K a) := by
  refine T.F_ny_soonest.ok sc_ny_soonest (fun vs H Q E h => ?_) (fun cdv A outer s H vs Q E hr h => ?_)
  · obtain ⟨R, c, d, rfl, _⟩ := h; rfl
  · obtain ⟨R, c, d, rfl, C, ok, k⟩ := h
    refine ⟨_, (pss_one (ps_ret (pe_call (ok_reading_answer T) (hr.mono (by decide)) rfl T.g_reading_answer T.F_reading_answer.kp T.b_reading_answer .nil pass0 (pa_cons (pe_call (ok_soonest_reading T) (hr.mono (by decide)) rfl T.g_soonest_reading T.F_soonest_reading.kp T.b_soonest_reading .nil pass0 (pa_cons (pe_call (ok_all_entry_years T) (hr.mono (by decide)) rfl T.g_all_entry_years T.F_all_entry_years.kp T.b_all_entry_years .nil pass0 (pa_cons (pv 0) pa_nil)) pa_nil)) pa_nil)))), ?_⟩
    have hl : (rows d.now).length ≤ 10 := by rw [rows_length]; exact ok.now.en
    refine ⟨_, rfl, R, c, d, rfl, C, ok, fun H1 p1 s1 hr1 => ?_⟩
    have ea : Km498.act d .soonest = (d, match soonL (rows d.now) 0 with
      | none => Km498.only (-33)
      | some r => ⟨Km498.n2i r.length, Km498.fill 10 r⟩) := by
      rw [← first_eq]
      rfl
    refine ⟨p1, rows d.now, rfl, hr1, hl, fun e H2 s2 => ?_, fun r e H2 p2 s2 h2 => ?_⟩
    · rw [e] at ea
      exact .inl ⟨rfl, fun H3 p s3 hp => k.ask C ea (s1.trans (s2.trans s3)) hp rfl⟩
    · rw [e] at ea
      exact .inr ⟨p2, r, rfl, h2, by rw [soonL_length e]; exact hl, fun H3 p s3 hp => k.ask C ea (s1.trans (s2.trans s3)) hp (nI_told _ _)⟩
theorem ok_ny_latest (T : Txt K mg a D) : FnOk P w K mg base CX0 5 a.f_ny_latest D.d_ny_latest p_ny_latest (sp_ny_latest K a) := by
  refine T.F_ny_latest.ok sc_ny_latest (fun vs H Q E h => ?_) (fun cdv A outer s H vs Q E hr h => ?_)
  · obtain ⟨R, c, d, rfl, _⟩ := h; rfl
  · obtain ⟨R, c, d, rfl, C, ok, k⟩ := h
    refine ⟨_, (pss_one (ps_ret (pe_call (ok_reading_answer T) (hr.mono (by decide)) rfl T.g_reading_answer T.F_reading_answer.kp T.b_reading_answer .nil pass0 (pa_cons (pe_call (ok_latest_reading T) (hr.mono (by decide)) rfl T.g_latest_reading T.F_latest_reading.kp T.b_latest_reading .nil pass0 (pa_cons (pe_call (ok_all_entry_years T) (hr.mono (by decide)) rfl T.g_all_entry_years T.F_all_entry_years.kp T.b_all_entry_years .nil pass0 (pa_cons (pv 0) pa_nil)) (pa_cons (pe_fld (pv 0) rfl) pa_nil))) pa_nil)))), ?_⟩
    have hl : (rows d.now).length ≤ 10 := by rw [rows_length]; exact ok.now.en
    refine ⟨_, rfl, R, c, d, rfl, C, ok, fun H1 p1 s1 hr1 => ?_⟩
    obtain ⟨dx, l, h, dh, P', U, ps, us, q⟩ := C.same s1
    have ea : Km498.act d .latest = (d, match lateL (rows d.now).reverse (d.now.last + 1) with
      | none => Km498.only (-33)
      | some r => ⟨Km498.n2i r.length, Km498.fill 10 r⟩) := by
      rw [← last_eq]
      rfl
    refine ⟨_, rfl, c, _, dx, _, _, rfl, q.at', T.cl_Chronicle, T.no_Chronicle_last_year, cF_e _ _ _, p1, rows d.now, d.now.last, rfl, hr1, hl, fun e H2 s2 => ?_, fun r e H2 p2 s2 h2 => ?_⟩
    · rw [e] at ea
      exact .inl ⟨rfl, fun H3 p s3 hp => k.ask C ea (s1.trans (s2.trans s3)) hp rfl⟩
    · rw [e] at ea
      exact .inr ⟨p2, r, rfl, h2, by rw [lateL_length e, List.length_reverse]; exact hl, fun H3 p s3 hp => k.ask C ea (s1.trans (s2.trans s3)) hp (nI_told _ _)⟩
theorem ok_ny_count (T : Txt K mg a D) : FnOk P w K mg base CX0 5 a.f_ny_count D.d_ny_count p_ny_count (sp_ny_count K a) := by
  refine T.F_ny_count.ok sc_ny_count (fun vs H Q E h => ?_) (fun cdv A outer s H vs Q E hr h => ?_)
  · obtain ⟨R, c, d, rfl, _⟩ := h; rfl
  · obtain ⟨R, c, d, rfl, C, ok, k⟩ := h
    refine ⟨_, (pss_cons (ps_set (i := 1) sc_ny_count.nd rfl (Or.inl rfl) (pe_call (ok_count_readings T) (hr.mono (by decide)) rfl T.g_count_readings T.F_count_readings.kp T.b_count_readings .nil pass0 (pa_cons (pe_call (ok_all_entry_years T) (hr.mono (by decide)) rfl T.g_all_entry_years T.F_all_entry_years.kp T.b_all_entry_years .nil pass0 (pa_cons (pv 0) pa_nil)) pa_nil)))
        (pss_one (ps_ret (pe_lst (pa_cons (pe_ifExp (pt_cmpR op_gt (pv 1) pe_int (nomark _)) pe_int pe_int) (pa_cons (pe_op op_modN (pv 1) (pe_glob (v := .int (1000000007)) rfl T.g_COUNTED_UP_TO.choose_spec ⟨_, rfl⟩)) pa_nil)))))), ?_⟩
    refine ⟨_, rfl, R, c, d, rfl, C, ok, fun H1 p1 s1 hr1 => ?_⟩
    refine ⟨p1, rows d.now, rfl, hr1, fun r hr => ?_, fun H2 s2 => ?_⟩
    · obtain ⟨e, _, rfl⟩ := List.mem_map.mp hr
      refine ⟨?_, years_sorted _ _⟩
      unfold Km498.Book.years
      refine Nat.le_trans (List.length_filter_le _ _) ?_
      rw [List.length_range]
      have := ok.now.l2
      omega
    · have ec := count_rows d.now
      rw [← ec]
      have ea : Km498.act d .count = (d, ⟨if d.now.count = 0 then 0 else 1, [d.now.count % 1000000007]⟩) := rfl
      generalize d.now.count = n at ea ⊢
      have em : ((n : Nat) : Int).fmod 1000000007 = ((n % 1000000007 : Nat) : Int) := by
        rw [Int.fmod_eq_emod_of_nonneg _ (by omega)]
        rfl
      refine ⟨_, rfl, _, _, rfl, rfl, _, rfl, ?_⟩
      refine ite2 (fun h1 => ?_) (fun h1 => ?_)
      · have h1' : ¬ n = 0 := by have := dT h1; omega
        rw [if_neg h1'] at ea
        refine ⟨_, rfl, _, _, rfl, rfl, (by show (1000000007 : Int) ≠ 0; decide), by show 2 ≤ sizeLine; decide, fun p hp => ?_⟩
        exact k.ask C ea (s1.trans s2) hp (congrArg (fun z => [V.int 1, V.int z]) em)
      · have h1' : n = 0 := by have := dF h1; omega
        rw [if_pos h1'] at ea
        refine ⟨_, rfl, _, _, rfl, rfl, (by show (1000000007 : Int) ≠ 0; decide), by show 2 ≤ sizeLine; decide, fun p hp => ?_⟩
        exact k.ask C ea (s1.trans s2) hp (congrArg (fun z => [V.int 0, V.int z]) em)
end
end Ry

set_option Elab.async false
set_option maxRecDepth 100000
set_option maxHeartbeats 2000000
namespace Ry
open PySem PySem.Spec PyProof.Rows L2 RyM
/-- behind a step back or again: the object as it is then -/
theorem stepped {a : Ad} {R : Rg} {H HF : Hp} {c : Addr} {d d' : Km498.Desk} {dx l h dh P U p l2 : Addr} {ps us ps' us' : List Addr} (q : Rep a R H c d dx l h dh P U ps us) (hp : H p = none)
    (gc : HF c = some (.ins a.c_Chronicle dx (cF d'.now l2 h))) (gP : HF P = some (.lst (ps'.map V.ref))) (gU : HF U = some (.lst (us'.map V.ref)))
    (ke : ∀ x, x ≠ c → x ≠ P → x ≠ U → HF x = upd H p (.tup [.ref l, .int (d.now.last : Nat)]) x)
    (hl2 : EntsAt a R.im H l2 d'.now.entries)
    (hps : (StAt a (fun b => R.im b ∨ b = p) HF p d.now → Pr (StAt a (fun b => R.im b ∨ b = p) HF) ps d.past.reverse → Pr (StAt a (fun b => R.im b ∨ b = p) HF) us d.future.reverse → Pr (StAt a (fun b => R.im b ∨ b = p) HF) ps' d'.past.reverse ∧ Pr (StAt a (fun b => R.im b ∨ b = p) HF) us' d'.future.reverse)) :
    Chr a ⟨fun b => R.im b ∨ b = p, R.mu⟩ HF c d' ∧ Kept R H ⟨fun b => R.im b ∨ b = p, R.mu⟩ HF := by
  have npc : p ≠ c := (ne_of_none q.at' hp).symm
  have npP : p ≠ P := (ne_of_none q.hi.pl hp).symm
  have npU : p ≠ U := (ne_of_none q.hi.ul hp).symm
  have nhc : h ≠ c := ne_of q.hi.at' q.at' (by intro z; injection z with _ _ z; exact absurd z (by unfold hF cF; intro z; injection z with z; injection z with z; exact absurd z (by decide +kernel)))
  have nhP : h ≠ P := ne_of q.hi.at' q.hi.pl (by intro z; cases z)
  have nhU : h ≠ U := ne_of q.hi.at' q.hi.ul (by intro z; cases z)
  have keep : ∀ b o, H b = some o → b ≠ c → b ≠ P → b ≠ U → HF b = some o := fun b o e n1 n2 n3 => by
    rw [ke b n1 n2 n3, upd_ne (ne_of_none e hp)]
    exact e
  have kim : ∀ b o, R.im b → H b = some o → HF b = some o := fun b o i e => keep b o e (fun z => q.dj b i (z ▸ q.mc)) (fun z => q.dj b i (z ▸ q.hi.mp)) (fun z => q.dj b i (z ▸ q.hi.mU))
  have gp : HF p = some (.tup [.ref l, .int (d.now.last : Nat)]) := by rw [ke p npc npP npU]; exact upd_same
  obtain ⟨h1, h2⟩ := hps ⟨.inr rfl, l, gp, q.en.frame kim fun _ z => .inl z⟩ (q.hi.pp.mono fun _ _ _ _ z => z.frame kim fun _ z => .inl z) (q.hi.uu.mono fun _ _ _ _ z => z.frame kim fun _ z => .inl z)
  refine ⟨⟨dx, l2, h, dh, P, U, ps', us', gc, hl2.frame kim fun _ z => .inl z, ⟨keep _ _ q.hi.at' nhc nhP nhU, gP, gU, h1, h2, q.hi.mh, q.hi.mp, q.hi.mU, q.hi.ne⟩, q.mc, ?_, ?_⟩, ?_⟩
  · rintro b (i | rfl) m
    · exact q.dj b i m
    · exact q.tr _ (.inr m) hp
  · have tr0 : ∀ b, R.im b ∨ R.mu b → HF b ≠ none := fun b z e => by
      by_cases n1 : b = c
      · subst n1; rw [gc] at e; cases e
      · by_cases n2 : b = P
        · subst n2; rw [gP] at e; cases e
        · by_cases n3 : b = U
          · subst n3; rw [gU] at e; cases e
          · cases g : H b with
            | none => exact q.tr b z g
            | some o => rw [keep b o g n1 n2 n3] at e; cases e
    rintro b ((i | rfl) | m) e
    · exact tr0 b (.inl i) e
    · rw [gp] at e; cases e
    · exact tr0 b (.inr m) e
  · intro b o e i m
    refine ⟨keep b o e (fun z => m (z ▸ q.mc)) (fun z => m (z ▸ q.hi.mp)) (fun z => m (z ▸ q.hi.mU)), ?_, m⟩
    rintro (z | rfl)
    · exact i z
    · rw [hp] at e; cases e
theorem cF_kin {b k : Km498.Book} (l h : Addr) (e : Kin k b) : cF { b with last := k.last } l h = cF k l h := by
  obtain ⟨e1, e2, e3⟩ := e
  unfold cF
  rw [e1, e2, e3]
section
variable {P : Program} {w : World} {K : PySem.W.Frag} {mg : Str → Option Value} {base : Heap} {a : Ad} {D : Fd}
theorem ok_History_take_back (T : Txt K mg a D) : FnOk P w K mg base CX0 1 a.f_History_take_back D.d_History_take_back p_History_take_back (sp_History_take_back K a) := by
  refine T.F_History_take_back.ok sc_History_take_back (fun vs H Q E h => ?_) (fun cdv A outer s H vs Q E hr h => ?_)
  · obtain ⟨h, dx, P', U, p, y, ps, us, rfl, _⟩ := h; rfl
  · obtain ⟨h, dx, P', U, p, y, ps, us, rfl, hh, hP, hU, hlen, ne, k⟩ := h
    refine ⟨_, (pss_cons (ps_expr (pe_bm PySem.F.plainAttrs_list PySem.F.slot_list_append PySem.F.type_list_append mt_append (pe_fld (pv 0) rfl) (pa_cons (pv 1) pa_nil)))
        (pss_one (ps_ret (pe_bm0 PySem.F.plainAttrs_list PySem.F.slot_list_pop PySem.F.type_list_pop mt_pop (pe_fld (pv 0) rfl))))), ?_⟩
    have nhP : h ≠ P' := ne_of hh hP (by intro z; cases z)
    have nhU : h ≠ U := ne_of hh hU (by intro z; cases z)
    refine ⟨_, rfl, h, _, dx, _, _, rfl, hh, T.cl_History, T.no_History_undone, hF_u _ _, .inl ⟨rfl, _, SqL.of hU⟩, _, rfl, U, _, _, rfl, rfl, hU, (by rw [List.length_map]; exact Nat.lt_of_lt_of_le (show us.length < 100 by omega) (by decide)), ?_⟩
    have hP2 := (upd_ne ne (H := H) (o := .lst (us.map V.ref ++ [V.ref p]))).trans hP
    refine ⟨_, rfl, h, _, dx, _, _, rfl, (upd_ne nhU).trans hh, T.cl_History, T.no_History_past, hF_p _ _, .inl ⟨rfl, _, SqL.of hP2⟩, P', _, .ref y, rfl, rfl, hP2, ?_, ?_⟩
    · rw [List.map_append, List.length_append, List.length_map]
      show (ps.map V.ref ++ [V.ref y])[ps.length + 1 - 1]? = _
      rw [Nat.add_sub_cancel, List.getElem?_append_right (by rw [List.length_map]; exact Nat.le_refl _), List.length_map, Nat.sub_self]
      rfl
    · refine k _ (upd_same.trans ?_) ?_ fun x n1 n2 => ?_
      · rw [List.map_append]
        exact congrArg (fun z => some (HO.lst z)) List.dropLast_concat
      · rw [upd_ne ne.symm, upd_same, List.map_append]
        rfl
      · rw [upd_ne n1, upd_ne n2]
theorem ok_History_do_again (T : Txt K mg a D) : FnOk P w K mg base CX0 1 a.f_History_do_again D.d_History_do_again p_History_do_again (sp_History_do_again K a) := by
  refine T.F_History_do_again.ok sc_History_do_again (fun vs H Q E h => ?_) (fun cdv A outer s H vs Q E hr h => ?_)
  · obtain ⟨h, dx, P', U, p, y, ps, us, rfl, _⟩ := h; rfl
  · obtain ⟨h, dx, P', U, p, y, ps, us, rfl, hh, hP, hU, hlen, ne, k⟩ := h
    refine ⟨_, (pss_cons (ps_expr (pe_bm PySem.F.plainAttrs_list PySem.F.slot_list_append PySem.F.type_list_append mt_append (pe_fld (pv 0) rfl) (pa_cons (pv 1) pa_nil)))
        (pss_one (ps_ret (pe_bm0 PySem.F.plainAttrs_list PySem.F.slot_list_pop PySem.F.type_list_pop mt_pop (pe_fld (pv 0) rfl))))), ?_⟩
    have nhP : h ≠ P' := ne_of hh hP (by intro z; cases z)
    have nhU : h ≠ U := ne_of hh hU (by intro z; cases z)
    refine ⟨_, rfl, h, _, dx, _, _, rfl, hh, T.cl_History, T.no_History_past, hF_p _ _, .inl ⟨rfl, _, SqL.of hP⟩, _, rfl, P', _, _, rfl, rfl, hP, (by rw [List.length_map]; exact Nat.lt_of_lt_of_le (show ps.length < 100 by omega) (by decide)), ?_⟩
    have hU2 := (upd_ne ne.symm (H := H) (o := .lst (ps.map V.ref ++ [V.ref p]))).trans hU
    refine ⟨_, rfl, h, _, dx, _, _, rfl, (upd_ne nhP).trans hh, T.cl_History, T.no_History_undone, hF_u _ _, .inl ⟨rfl, _, SqL.of hU2⟩, U, _, .ref y, rfl, rfl, hU2, ?_, ?_⟩
    · rw [List.map_append, List.length_append, List.length_map]
      show (us.map V.ref ++ [V.ref y])[us.length + 1 - 1]? = _
      rw [Nat.add_sub_cancel, List.getElem?_append_right (by rw [List.length_map]; exact Nat.le_refl _), List.length_map, Nat.sub_self]
      rfl
    · refine k _ ?_ (upd_same.trans ?_) fun x n1 n2 => ?_
      · rw [upd_ne ne, upd_same, List.map_append]
        rfl
      · rw [List.map_append]
        exact congrArg (fun z => some (HO.lst z)) List.dropLast_concat
      · rw [upd_ne n2, upd_ne n1]
theorem ok_Chronicle_step_back (T : Txt K mg a D) : FnOk P w K mg base CX0 2 a.f_Chronicle_step_back D.d_Chronicle_step_back p_Chronicle_step_back (sp_Chronicle_step_back K a) := by
  refine T.F_Chronicle_step_back.ok sc_Chronicle_step_back (fun vs H Q E h => ?_) (fun cdv A outer s H vs Q E hr h => ?_)
  · obtain ⟨R, c, d, kb, r, rfl, _⟩ := h; rfl
  · obtain ⟨R, c, d, kb, r, rfl, ⟨dx, l, h, dh, P', U, ps, us, q⟩, ok, hpast, k⟩ := h
    refine ⟨_, (pss_one (ps_expr (pe_meth (pv 0) T.cl_Chronicle T.me_Chronicle_return_to (ok_Chronicle_return_to T) (hr.mono (by decide)) T.b_Chronicle_return_to .nil pass0 (pa_cons (pe_meth (pe_fld (pv 0) rfl) T.cl_History T.me_History_take_back (ok_History_take_back T) (hr.mono (by decide)) T.b_History_take_back .nil pass0 (pa_cons (pe_meth0 (pv 0) T.cl_Chronicle T.me_Chronicle_state (ok_Chronicle_state T) (hr.mono (by decide)) T.b_Chronicle_state .nil pass0) pa_nil)) pa_nil)))), ?_⟩
    have hpp := q.hi.pp
    rw [hpast, List.reverse_cons] at hpp
    obtain ⟨ps', y, eps, hps', iy, l2, hy, hen⟩ := hpp.snoc
    have hlen : us.length ≤ 20 := by
      rw [q.hi.uu.1, List.length_reverse]
      have := ok.few
      omega
    have hkin := (ok.past kb (by rw [hpast]; exact List.mem_cons_self)).2
    refine ⟨_, rfl, c, dx, _, rfl, q.at', cF_no _ _ _ (by decide +kernel) (by decide +kernel) (by decide +kernel) (by decide +kernel) (by decide +kernel) (by decide +kernel), _, rfl, c, _, dx, _, _, rfl, q.at', T.cl_Chronicle, T.no_Chronicle_history, cF_h _ _ _, h, dh, _, rfl, q.hi.at', hF_no _ _ (by decide +kernel) (by decide +kernel),
      _, rfl, c, dx, _, rfl, q.at', cF_no _ _ _ (by decide +kernel) (by decide +kernel) (by decide +kernel) (by decide +kernel) (by decide +kernel) (by decide +kernel), c, dx, l, h, d.now, rfl, q.at', fun p hp => ?_⟩
    have nc : c ≠ p := ne_of_none q.at' hp
    have ncP : c ≠ P' := ne_of q.at' q.hi.pl (by intro z; cases z)
    have ncU : c ≠ U := ne_of q.at' q.hi.ul (by intro z; cases z)
    refine ⟨h, dh, P', U, p, y, ps', us, rfl, (upd_ne (ne_of_none q.hi.at' hp)).trans q.hi.at', (upd_ne (ne_of_none q.hi.pl hp)).trans (by rw [← eps]; exact q.hi.pl), (upd_ne (ne_of_none q.hi.ul hp)).trans q.hi.ul, hlen, q.hi.ne, fun H2 gP gU ke => ?_⟩
    have nyc : y ≠ c := fun z => q.dj y iy (z ▸ q.mc)
    have nyP : y ≠ P' := fun z => q.dj y iy (z ▸ q.hi.mp)
    have nyU : y ≠ U := fun z => q.dj y iy (z ▸ q.hi.mU)
    refine ⟨c, dx, l, h, y, l2, d.now, kb.last, rfl, by rw [ke c ncP ncU, upd_ne nc]; exact q.at', by rw [ke y nyP nyU, upd_ne (ne_of_none hy hp)]; exact hy, fun H3 gc k3 => ?_⟩
    rw [cF_kin _ _ hkin] at gc
    obtain ⟨g1, g2⟩ := stepped (d' := ⟨kb, r, d.now :: d.future⟩) (ps' := ps') (us' := us ++ [p]) q hp gc ((k3 _ ncP.symm).trans gP) ((k3 _ ncU.symm).trans gU) (fun x n1 n2 n3 => (k3 x n1).trans (ke x n2 n3)) hen (fun hq h1 h2 => by
      refine ⟨?_, ?_⟩
      · rw [hpast, List.reverse_cons] at h1
        obtain ⟨ps'', y', e', hz, _⟩ := h1.snoc
        rw [eps] at e'
        obtain ⟨e1, _⟩ := List.append_inj' e' rfl
        rw [e1]
        exact hz
      · show Pr _ _ (d.now :: d.future).reverse
        rw [List.reverse_cons]
        exact Pr.append h2 (Pr.one hq))
    exact k _ _ g1 g2
theorem ok_Chronicle_step_again (T : Txt K mg a D) : FnOk P w K mg base CX0 2 a.f_Chronicle_step_again D.d_Chronicle_step_again p_Chronicle_step_again (sp_Chronicle_step_again K a) := by
  refine T.F_Chronicle_step_again.ok sc_Chronicle_step_again (fun vs H Q E h => ?_) (fun cdv A outer s H vs Q E hr h => ?_)
  · obtain ⟨R, c, d, kb, r, rfl, _⟩ := h; rfl
  · obtain ⟨R, c, d, kb, r, rfl, ⟨dx, l, h, dh, P', U, ps, us, q⟩, ok, hfut, k⟩ := h
    refine ⟨_, (pss_one (ps_expr (pe_meth (pv 0) T.cl_Chronicle T.me_Chronicle_return_to (ok_Chronicle_return_to T) (hr.mono (by decide)) T.b_Chronicle_return_to .nil pass0 (pa_cons (pe_meth (pe_fld (pv 0) rfl) T.cl_History T.me_History_do_again (ok_History_do_again T) (hr.mono (by decide)) T.b_History_do_again .nil pass0 (pa_cons (pe_meth0 (pv 0) T.cl_Chronicle T.me_Chronicle_state (ok_Chronicle_state T) (hr.mono (by decide)) T.b_Chronicle_state .nil pass0) pa_nil)) pa_nil)))), ?_⟩
    have huu := q.hi.uu
    rw [hfut, List.reverse_cons] at huu
    obtain ⟨us', y, eus, hus', iy, l2, hy, hen⟩ := huu.snoc
    have hlen : ps.length ≤ 20 := by
      rw [q.hi.pp.1, List.length_reverse]
      have := ok.few
      omega
    have hkin := (ok.fut kb (by rw [hfut]; exact List.mem_cons_self)).2
    refine ⟨_, rfl, c, dx, _, rfl, q.at', cF_no _ _ _ (by decide +kernel) (by decide +kernel) (by decide +kernel) (by decide +kernel) (by decide +kernel) (by decide +kernel), _, rfl, c, _, dx, _, _, rfl, q.at', T.cl_Chronicle, T.no_Chronicle_history, cF_h _ _ _, h, dh, _, rfl, q.hi.at', hF_no _ _ (by decide +kernel) (by decide +kernel),
      _, rfl, c, dx, _, rfl, q.at', cF_no _ _ _ (by decide +kernel) (by decide +kernel) (by decide +kernel) (by decide +kernel) (by decide +kernel) (by decide +kernel), c, dx, l, h, d.now, rfl, q.at', fun p hp => ?_⟩
    have nc : c ≠ p := ne_of_none q.at' hp
    have ncP : c ≠ P' := ne_of q.at' q.hi.pl (by intro z; cases z)
    have ncU : c ≠ U := ne_of q.at' q.hi.ul (by intro z; cases z)
    refine ⟨h, dh, P', U, p, y, ps, us', rfl, (upd_ne (ne_of_none q.hi.at' hp)).trans q.hi.at', (upd_ne (ne_of_none q.hi.pl hp)).trans q.hi.pl, (upd_ne (ne_of_none q.hi.ul hp)).trans (by rw [← eus]; exact q.hi.ul), hlen, q.hi.ne, fun H2 gP gU ke => ?_⟩
    have nyc : y ≠ c := fun z => q.dj y iy (z ▸ q.mc)
    have nyP : y ≠ P' := fun z => q.dj y iy (z ▸ q.hi.mp)
    have nyU : y ≠ U := fun z => q.dj y iy (z ▸ q.hi.mU)
    refine ⟨c, dx, l, h, y, l2, d.now, kb.last, rfl, by rw [ke c ncP ncU, upd_ne nc]; exact q.at', by rw [ke y nyP nyU, upd_ne (ne_of_none hy hp)]; exact hy, fun H3 gc k3 => ?_⟩
    rw [cF_kin _ _ hkin] at gc
    obtain ⟨g1, g2⟩ := stepped (d' := ⟨kb, d.now :: d.past, r⟩) (ps' := ps ++ [p]) (us' := us') q hp gc ((k3 _ ncP.symm).trans gP) ((k3 _ ncU.symm).trans gU) (fun x n1 n2 n3 => (k3 x n1).trans (ke x n2 n3)) hen (fun hq h1 h2 => by
      refine ⟨?_, ?_⟩
      · show Pr _ _ (d.now :: d.past).reverse
        rw [List.reverse_cons]
        exact Pr.append h1 (Pr.one hq)
      · rw [hfut, List.reverse_cons] at h2
        obtain ⟨us'', y', e', hz, _⟩ := h2.snoc
        rw [eus] at e'
        obtain ⟨e1, _⟩ := List.append_inj' e' rfl
        rw [e1]
        exact hz)
    exact k _ _ g1 g2
theorem ok_ny_back (T : Txt K mg a D) : FnOk P w K mg base CX0 3 a.f_ny_back D.d_ny_back p_ny_back (sp_ny_back K a) := by
  refine T.F_ny_back.ok sc_ny_back (fun vs H Q E h => ?_) (fun cdv A outer s H vs Q E hr h => ?_)
  · obtain ⟨R, c, d, rfl, _⟩ := h; rfl
  · obtain ⟨R, c, d, rfl, C, ok, k⟩ := h
    obtain ⟨dx, l, h, dh, P', U, ps, us, q⟩ := id C
    refine ⟨_, (pss_cons (ps_if (pt_cmpR op_eq (pe_callB call_len_seq (by rfl) T.z_len PySem.boot_len (pa_cons (pe_fld (pe_fld (pv 0) rfl) rfl) pa_nil)) pe_int (nomark _))
        (pss_one (ps_ret (pe_lst (pa_cons (pe_glob (v := .int (-2)) rfl T.g_NOT_THERE.choose_spec ⟨_, rfl⟩) pa_nil)))) pss_nil)
        (pss_cons (ps_expr (pe_meth0 (pv 0) T.cl_Chronicle T.me_Chronicle_step_back (ok_Chronicle_step_back T) (hr.mono (by decide)) T.b_Chronicle_step_back .nil pass0))
        (pss_one (ps_ret (pe_lst (pa_cons (pe_callB call_len_seq (by rfl) T.z_len PySem.boot_len (pa_cons (pe_fld (pe_fld (pv 0) rfl) rfl) pa_nil)) pa_nil)))))), ?_⟩
    have hlen : (ps.map V.ref).length = d.past.length := by rw [List.length_map, q.hi.pp.1, List.length_reverse]
    refine ⟨_, rfl, c, _, dx, _, _, rfl, q.at', T.cl_Chronicle, T.no_Chronicle_history, cF_h _ _ _, h, _, dh, _, _, rfl, q.hi.at', T.cl_History, T.no_History_past, hF_p _ _, P', _, rfl, .inl (SqL.of q.hi.pl), rfl, _, rfl, ?_⟩
    cases hpast : d.past with
    | nil =>
      refine ite2 (fun _ => ?_) (fun hn => absurd (decide_eq_true (by rw [hlen, hpast]; rfl)) hn)
      exact ⟨by show 1 ≤ sizeLine; decide, fun p hp => k.ask C (by dsimp only [Km498.act]; rw [hpast]) (Same.refl _) hp rfl⟩
    | cons kb r =>
      refine ite2 (fun hn => absurd (of_decide_eq_true hn) (by rw [hlen, hpast, List.length_cons]; intro z; injection z with z; omega)) (fun _ => ?_)
      refine ⟨_, rfl, c, dx, _, rfl, q.at', cF_no _ _ _ (by decide +kernel) (by decide +kernel) (by decide +kernel) (by decide +kernel) (by decide +kernel) (by decide +kernel), R, c, d, kb, r, rfl, C, ok, hpast, fun R' H' C' kp => ?_⟩
      obtain ⟨dx2, l2, h2, dh2, P2, U2, ps2, us2, q2⟩ := id C'
      have hlen2 : (ps2.map V.ref).length = r.length := by rw [List.length_map, q2.hi.pp.1, List.length_reverse]
      refine ⟨_, rfl, c, _, dx2, _, _, rfl, q2.at', T.cl_Chronicle, T.no_Chronicle_history, cF_h _ _ _, h2, _, dh2, _, _, rfl, q2.hi.at', T.cl_History, T.no_History_past, hF_p _ _, P2, _, rfl, .inl (SqL.of q2.hi.pl), by show 1 ≤ sizeLine; decide, fun p hp => ?_⟩
      exact k.did (ans := Km498.only (Km498.n2i r.length)) (by dsimp only [Km498.act]; rw [hpast]) C' kp hp (by rw [hlen2]; rfl)
theorem ok_ny_again (T : Txt K mg a D) : FnOk P w K mg base CX0 3 a.f_ny_again D.d_ny_again p_ny_again (sp_ny_again K a) := by
  refine T.F_ny_again.ok sc_ny_again (fun vs H Q E h => ?_) (fun cdv A outer s H vs Q E hr h => ?_)
  · obtain ⟨R, c, d, rfl, _⟩ := h; rfl
  · obtain ⟨R, c, d, rfl, C, ok, k⟩ := h
    obtain ⟨dx, l, h, dh, P', U, ps, us, q⟩ := id C
    refine ⟨_, (pss_cons (ps_if (pt_cmpR op_eq (pe_callB call_len_seq (by rfl) T.z_len PySem.boot_len (pa_cons (pe_fld (pe_fld (pv 0) rfl) rfl) pa_nil)) pe_int (nomark _))
        (pss_one (ps_ret (pe_lst (pa_cons (pe_glob (v := .int (-2)) rfl T.g_NOT_THERE.choose_spec ⟨_, rfl⟩) pa_nil)))) pss_nil)
        (pss_cons (ps_expr (pe_meth0 (pv 0) T.cl_Chronicle T.me_Chronicle_step_again (ok_Chronicle_step_again T) (hr.mono (by decide)) T.b_Chronicle_step_again .nil pass0))
        (pss_one (ps_ret (pe_lst (pa_cons (pe_callB call_len_seq (by rfl) T.z_len PySem.boot_len (pa_cons (pe_fld (pe_fld (pv 0) rfl) rfl) pa_nil)) pa_nil)))))), ?_⟩
    have hlen : (us.map V.ref).length = d.future.length := by rw [List.length_map, q.hi.uu.1, List.length_reverse]
    refine ⟨_, rfl, c, _, dx, _, _, rfl, q.at', T.cl_Chronicle, T.no_Chronicle_history, cF_h _ _ _, h, _, dh, _, _, rfl, q.hi.at', T.cl_History, T.no_History_undone, hF_u _ _, U, _, rfl, .inl (SqL.of q.hi.ul), rfl, _, rfl, ?_⟩
    cases hfut : d.future with
    | nil =>
      refine ite2 (fun _ => ?_) (fun hn => absurd (decide_eq_true (by rw [hlen, hfut]; rfl)) hn)
      exact ⟨by show 1 ≤ sizeLine; decide, fun p hp => k.ask C (by dsimp only [Km498.act]; rw [hfut]) (Same.refl _) hp rfl⟩
    | cons kb r =>
      refine ite2 (fun hn => absurd (of_decide_eq_true hn) (by rw [hlen, hfut, List.length_cons]; intro z; injection z with z; omega)) (fun _ => ?_)
      refine ⟨_, rfl, c, dx, _, rfl, q.at', cF_no _ _ _ (by decide +kernel) (by decide +kernel) (by decide +kernel) (by decide +kernel) (by decide +kernel) (by decide +kernel), R, c, d, kb, r, rfl, C, ok, hfut, fun R' H' C' kp => ?_⟩
      obtain ⟨dx2, l2, h2, dh2, P2, U2, ps2, us2, q2⟩ := id C'
      have hlen2 : (us2.map V.ref).length = r.length := by rw [List.length_map, q2.hi.uu.1, List.length_reverse]
      have etake := (again_ok ok hfut).1
      refine ⟨_, rfl, c, _, dx2, _, _, rfl, q2.at', T.cl_Chronicle, T.no_Chronicle_history, cF_h _ _ _, h2, _, dh2, _, _, rfl, q2.hi.at', T.cl_History, T.no_History_undone, hF_u _ _, U2, _, rfl, .inl (SqL.of q2.hi.ul), by show 1 ≤ sizeLine; decide, fun p hp => ?_⟩
      exact k.did (ans := Km498.only (Km498.n2i r.length)) (by dsimp only [Km498.act]; rw [hfut]; dsimp only; rw [etake]) C' kp hp (by rw [hlen2]; rfl)
end
end Ry

set_option Elab.async false
set_option maxRecDepth 100000
set_option maxHeartbeats 2000000
namespace Ry
open PySem PySem.Spec PyProof.Rows L2 RyM
theorem RowsAt.same {H H' : Hp} {D : Addr} {rs : List (List Nat)} (h : RowsAt H D rs) (s : Same H H') : RowsAt H' D rs := by
  obtain ⟨xs, h1, h2⟩ := h
  exact ⟨xs, s _ _ h1, h2.mono fun _ _ _ _ z => s _ _ z⟩
theorem SpansAt.get {a : Ad} {H : Hp} {D : Addr} {ss : List (Nat × Nat)} {i : Nat} {z : Nat × Nat} (h : SpansAt a H D ss) (hz : ss[i]? = some z) : ∃ (xs : List Addr) (x dx : Addr), H D = some (.lst (xs.map V.ref)) ∧ (xs.map V.ref)[i]? = some (V.ref x) ∧ H x = some (.ins a.c_Span dx (sF z.1 z.2)) := by
  obtain ⟨xs, h1, h2⟩ := h
  obtain ⟨x, hx, dx, he⟩ := h2.get hz
  exact ⟨xs, x, dx, h1, by rw [List.getElem?_map, hx]; rfl, he⟩
section
variable {P : Program} {w : World} {K : PySem.W.Frag} {mg : Str → Option Value} {base : Heap} {a : Ad} {D : Fd}
theorem ok_Span_init (T : Txt K mg a D) : FnOk P w K mg base CX0 1 a.f_Span_init D.d_Span_init p_Span_init (sp_Span_init K a) := by
  refine T.F_Span_init.ok sc_Span_init (fun vs H Q E h => ?_) (fun cdv A outer s H vs Q E hr h => ?_)
  · obtain ⟨x, dx, s, t, rfl, _⟩ := h; rfl
  · obtain ⟨x, dx, s', t, rfl, hx, k⟩ := h
    refine ⟨_, (pss_cons (ps_fld (pv 0) (pv 1) rfl)
        (pss_one (ps_fld (pv 0) (pv 2) rfl))), ?_⟩
    refine ⟨_, rfl, _, rfl, x, _, dx, [], rfl, hx, T.cl_Span, T.no_Span_soonest, (by show 0 < 1000; decide), ?_⟩
    refine ⟨_, rfl, _, rfl, x, _, dx, _, rfl, upd_same, T.cl_Span, T.no_Span_latest, (by show 1 < 1000; decide), ?_⟩
    refine k _ (upd_same.trans ?_) fun b o e' nb => ?_
    · rfl
    · rw [upd_ne nb, upd_ne nb]
      exact e'
theorem ok_Span_is_one_year (T : Txt K mg a D) : FnOk P w K mg base CX0 1 a.f_Span_is_one_year D.d_Span_is_one_year p_Span_is_one_year (sp_Span_is_one_year K a) := by
  refine T.F_Span_is_one_year.ok sc_Span_is_one_year (fun vs H Q E h => ?_) (fun cdv A outer s H vs Q E hr h => ?_)
  · obtain ⟨x, dx, s', t, rfl, _⟩ := h; rfl
  · obtain ⟨x, dx, s', t, rfl, hx, k⟩ := h
    refine ⟨_, (pss_one (ps_ret (pe_cmpR op_eq (pe_fld (pv 0) rfl) (pe_fld (pv 0) rfl) (nomark _)))), ?_⟩
    refine ⟨_, rfl, x, _, dx, _, _, rfl, hx, T.cl_Span, T.no_Span_soonest, sF_s _ _, _, rfl, x, _, dx, _, _, rfl, hx, T.cl_Span, T.no_Span_latest, sF_l _ _, rfl, ?_⟩
    have e : decide (V.int ((s' : Nat) : Int) = V.int ((t : Nat) : Int)) = decide (s' = t) := by
      by_cases h1 : s' = t
      · subst h1
        rw [decide_eq_true rfl, decide_eq_true rfl]
      · rw [decide_eq_false h1, decide_eq_false (fun z => h1 (by injection z with z; omega))]
    show Q (.bl (decide (V.int ((s' : Nat) : Int) = V.int ((t : Nat) : Int)))) H
    rw [e]
    exact k
theorem ok_entry_spans (T : Txt K mg a D) : FnOk P w K mg base CX0 3 a.f_entry_spans D.d_entry_spans p_entry_spans (sp_entry_spans K a) := by
  refine T.F_entry_spans.ok sc_entry_spans (fun vs H Q E h => ?_) (fun cdv A outer s H vs Q E hr h => ?_)
  · obtain ⟨D', rs, e, rfl, _⟩ := h; rfl
  · obtain ⟨D', rs, e, rfl, hrs, hlen, k⟩ := h
    refine ⟨_, (pss_cons (ps_set (i := 2) sc_entry_spans.nd rfl (Or.inl rfl) (pe_call (ok_soonest_reading T) (hr.mono (by decide)) rfl T.g_soonest_reading T.F_soonest_reading.kp T.b_soonest_reading .nil pass0 (pa_cons (pv 0) pa_nil)))
        (pss_cons (ps_set (i := 3) sc_entry_spans.nd rfl (Or.inl rfl) (pe_call (ok_latest_reading T) (hr.mono (by decide)) rfl T.g_latest_reading T.F_latest_reading.kp T.b_latest_reading .nil pass0 (pa_cons (pv 0) (pa_cons (pv 1) pa_nil))))
        (pss_cons (ps_if (PW.pt (pw_or (pt_cmpR op_isN (pv 2) pe_non (nomark _)) (pw_or1 (pt_cmpR op_isN (pv 3) pe_non (nomark _)))))
        (pss_one (ps_ret pe_non)) pss_nil)
        (pss_one (ps_ret (pe_lc (own := [("first", 4), ("last", 5)]) (g := gTup K 2 (gCons (gName 4) (gCons (gName 5) gNil))) rfl sc_entry_spans.nd (pi_zip (by rfl) T.z_zip (pa_cons (pv 2) (pa_cons (pv 3) pa_nil))) (blkOk_by (own := [("first", 4), ("last", 5)]) (N := n_entry_spans) (sc := defScope s_entry_spans) (by decide +kernel)) (fun _ _ _ _ _ => pg_tup rfl (pgs_cons (pg_name (i := 4) sc_entry_spans.nd rfl (Or.inl rfl)) (pgs_cons (pg_name (i := 5) sc_entry_spans.nd rfl (Or.inl rfl)) pgs_nil))) (fun _ _ _ _ _ => pts_nil) (fun _ _ _ _ _ => (pe_make T.mk_Span (ok_Span_init T) (hr.mono (by decide)) rfl T.g_Span T.b_Span_init .nil pass0 (pa_cons (pv 4) (pa_cons (pv 5) pa_nil)))))))))), ?_⟩
    refine ⟨_, rfl, D', rs, rfl, hrs, hlen, fun e1 H1 s1 => ?_, fun r1 e1 H1 p1 s1 h1 => ?_⟩
    · have en : spansL rs e = none := by unfold spansL; rw [e1]
      refine ⟨_, rfl, _, rfl, D', rs, e, rfl, hrs.same s1, hlen, fun e2 H2 s2 => ?_, fun r2 e2 H2 p2 s2 h2 => ?_⟩
      · exact ⟨_, rfl, rfl, _, rfl, ite2 (fun _ => iteT (k.1 en _ (s1.trans s2))) (fun hn => absurd (by rfl) hn)⟩
      · exact ⟨_, rfl, rfl, _, rfl, ite2 (fun _ => iteT (k.1 en _ (s1.trans s2))) (fun hn => absurd (by rfl) hn)⟩
    · refine ⟨_, rfl, _, rfl, D', rs, e, rfl, hrs.same s1, hlen, fun e2 H2 s2 => ?_, fun r2 e2 H2 p2 s2 h2 => ?_⟩
      · have en : spansL rs e = none := by unfold spansL; rw [e1, e2]
        refine ⟨_, rfl, rfl, _, rfl, ite2 (fun hn => absurd (of_decide_eq_true hn) (by intro z; cases z)) (fun _ => ?_)⟩
        exact ⟨_, rfl, rfl, _, rfl, ite2 (fun _ => k.1 en _ (s1.trans s2)) (fun hn => absurd (by rfl) hn)⟩
      · have en : spansL rs e = some (r1.zip r2) := by unfold spansL; rw [e1, e2]
        have l1 : r1.length = rs.length := soonL_length e1
        have l2 : r2.length = rs.length := by rw [lateL_length e2, List.length_reverse]
        refine ⟨_, rfl, rfl, _, rfl, ite2 (fun hn => absurd (of_decide_eq_true hn) (by intro z; cases z)) (fun _ => ?_)⟩
        refine ⟨_, rfl, rfl, _, rfl, ite2 (fun hn => absurd (of_decide_eq_true hn) (by intro z; cases z)) (fun _ => ?_)⟩
        have g1 := s2 _ _ h1
        refine ⟨_, rfl, _, rfl, p1, p2, nI r1, nI r2, rfl, SqL.of g1, SqL.of h2, fun L hL => ?_⟩
        refine lc_it (walk_zip (K := K) (a := p1) (b := p2) (xs := nI r1) (ys := nI r2) (n := rs.length) (by rw [nI_length, nI_length, l1, l2, Nat.min_self])) (fun i H' => Same H2 H' ∧ ∃ xs : List Addr, H' L = some (.lst (xs.map V.ref)) ∧ Pr (fun x z => x ≠ L ∧ SpnAt a H' x z) xs ((r1.zip r2).take i))
          ⟨Same.new hL, [], upd_same, Pr.nil⟩ (fun i H' _ ⟨s, _⟩ => ⟨SqL.of (s _ _ g1), SqL.of (s _ _ h2)⟩) ?_ ?_
        · rintro i x H' H'' hi ⟨s, xs, hL', hxs⟩ ⟨T', x1, y1, rfl, hT, rfl, hx, hy⟩
          obtain ⟨z1, hz1, rfl⟩ := nI_get hx
          obtain ⟨z2, hz2, rfl⟩ := nI_get hy
          have hz : (r1.zip r2)[i]? = some (z1, z2) := List.getElem?_zip_eq_some.mpr ⟨hz1, hz2⟩
          refine ⟨T', _, rfl, SqT.of upd_same, rfl, _, _, rfl, _, _, rfl, rfl, rfl, ?_⟩
          dsimp only [tYes]
          refine ite2 (fun _ => ?_) (fun hn => absurd rfl hn)
          refine ⟨_, rfl, _, rfl, ?_⟩
          intro x dn nx ndn nex
          refine ⟨x, dn, z1, z2, rfl, upd_same, fun H3 gx kp => ⟨rfl, ?_⟩⟩
          have sT := Same.new (o := .tup [V.int ((z1 : Nat) : Int), V.int ((z2 : Nat) : Int)]) hT
          have s3 : Same _ H3 := Same.made nx ndn kp
          have s4 := sT.trans s3
          have hL3 := s4 _ _ hL'
          have nLx : L ≠ x := ne_of_none (sT _ _ hL') nx
          refine ⟨_, hL3, (by rw [List.length_map, hxs.1, List.length_take]; exact Nat.lt_of_lt_of_le (show min i (r1.zip r2).length < 100 by omega) (by decide)), fun b o e' => ?_, xs ++ [x], ?_, ?_⟩
          · rw [upd_ne (ne_of_none e' hL)]
            exact s4 _ _ (s b o e')
          · rw [upd_same, List.map_append]
            rfl
          · rw [take_more hz]
            refine Pr.append (hxs.mono fun x' z' _ _ w' => ⟨w'.1, ?_⟩) (Pr.one ⟨nLx.symm, dn, ?_⟩)
            · obtain ⟨dz, hz'⟩ := w'.2
              exact ⟨dz, (upd_ne w'.1).trans (s4 _ _ hz')⟩
            · exact (upd_ne nLx.symm).trans gx
        · rintro H' ⟨s, xs, hL', hxs⟩
          rw [List.take_of_length_le (by rw [List.length_zip, l1, l2, Nat.min_self]; exact Nat.le_refl _)] at hxs
          exact k.2 _ en H' L (s1.trans (s2.trans s)) ⟨xs, hL', hxs.mono fun _ _ _ _ z => z.2⟩
theorem ok_all_spans (T : Txt K mg a D) : FnOk P w K mg base CX0 5 a.f_all_spans D.d_all_spans p_all_spans (sp_all_spans K a) := by
  refine T.F_all_spans.ok sc_all_spans (fun vs H Q E h => ?_) (fun cdv A outer s H vs Q E hr h => ?_)
  · obtain ⟨R, c, d, rfl, _⟩ := h; rfl
  · obtain ⟨R, c, d, rfl, C, ok, k⟩ := h
    refine ⟨_, (pss_one (ps_ret (pe_call (ok_entry_spans T) (hr.mono (by decide)) rfl T.g_entry_spans T.F_entry_spans.kp T.b_entry_spans .nil pass0 (pa_cons (pe_call (ok_all_entry_years T) (hr.mono (by decide)) rfl T.g_all_entry_years T.F_all_entry_years.kp T.b_all_entry_years .nil pass0 (pa_cons (pv 0) pa_nil)) (pa_cons (pe_fld (pv 0) rfl) pa_nil))))), ?_⟩
    have hl : (rows d.now).length ≤ 10 := by rw [rows_length]; exact ok.now.en
    refine ⟨_, rfl, R, c, d, rfl, C, ok, fun H1 p1 s1 hr1 => ?_⟩
    obtain ⟨dx, l, h, dh, P', U, ps, us, q⟩ := C.same s1
    exact ⟨_, rfl, c, _, dx, _, _, rfl, q.at', T.cl_Chronicle, T.no_Chronicle_last_year, cF_e _ _ _, p1, rows d.now, d.now.last, rfl, hr1, hl, fun e H2 s2 => k.1 e H2 (s1.trans s2), fun ss e H2 p2 s2 h2 => k.2 ss e H2 p2 (s1.trans s2) h2⟩
end
end Ry

set_option Elab.async false
set_option maxRecDepth 100000
set_option maxHeartbeats 2000000
namespace Ry
open PySem PySem.Spec PyProof.Rows L2 RyM
theorem when_none {d : Km498.Desk} {i : Nat} (hi : i < d.now.entries.length) (h : spansOf d.now = none) : Km498.act d (.when_ i) = (d, Km498.only (-33)) :=
  congrArg (Prod.mk d) ((if_neg (not_no hi)).trans (by rw [range_none h]))
theorem when_some {d : Km498.Desk} {i s t : Nat} (hi : i < d.now.entries.length) (h : d.now.range_ i = some (s, t)) : Km498.act d (.when_ i) = (d, ⟨Km498.n2i s, [t]⟩) :=
  congrArg (Prod.mk d) ((if_neg (not_no hi)).trans (by rw [h]))
theorem rounds_none {d : Km498.Desk} {i : Nat} (hi : i < d.now.entries.length) (h : spansOf d.now = none) : Km498.act d (.rounds i) = (d, Km498.only (-33)) :=
  congrArg (Prod.mk d) ((if_neg (not_no hi)).trans (by rw [range_none h]))
theorem rounds_some {d : Km498.Desk} {i s t : Nat} (hi : i < d.now.entries.length) (h : d.now.range_ i = some (s, t)) : Km498.act d (.rounds i) = (d, Km498.only (Km498.n2i ((t - s) / d.now.round))) :=
  congrArg (Prod.mk d) ((if_neg (not_no hi)).trans (by rw [h]))
theorem apart_no {d : Km498.Desk} {i j : Nat} (h : ¬ j < d.now.entries.length ∨ j ≤ i) : Km498.act d (.apart i j) = (d, Km498.only (-2)) :=
  congrArg (Prod.mk d) (if_pos (h.elim (fun z => .inr (.inl (no_of z))) (fun z => .inr (.inr z))))
theorem apart_yes {d : Km498.Desk} {i j : Nat} (hj : j < d.now.entries.length) (hi : i < j) : ¬ (d.now.no i = true ∨ d.now.no j = true ∨ j ≤ i) := by
  rintro (z | z | z)
  · exact not_no (by omega) z
  · exact not_no hj z
  · omega
theorem apart_none {d : Km498.Desk} {i j : Nat} (hj : j < d.now.entries.length) (hi : i < j) (h : spansOf d.now = none) : Km498.act d (.apart i j) = (d, Km498.only (-33)) :=
  congrArg (Prod.mk d) ((if_neg (apart_yes hj hi)).trans (by rw [range_none h]))
theorem apart_some {d : Km498.Desk} {i j s t u v : Nat} (hj : j < d.now.entries.length) (hi : i < j) (h : d.now.range_ i = some (s, t)) (h' : d.now.range_ j = some (u, v)) : Km498.act d (.apart i j) = (d, ⟨Km498.n2i (u - t), [v - s]⟩) :=
  congrArg (Prod.mk d) ((if_neg (apart_yes hj hi)).trans (by rw [h, h']))
section
variable {P : Program} {w : World} {K : PySem.W.Frag} {mg : Str → Option Value} {base : Heap} {a : Ad} {D : Fd}
theorem ok_ny_when (T : Txt K mg a D) : FnOk P w K mg base CX0 6 a.f_ny_when D.d_ny_when p_ny_when (sp_ny_when K a) := by
  refine T.F_ny_when.ok sc_ny_when (fun vs H Q E h => ?_) (fun cdv A outer s H vs Q E hr h => ?_)
  · obtain ⟨i, R, c, d, rfl, _⟩ := h; rfl
  · obtain ⟨i, R, c, d, rfl, C, ok, k⟩ := h
    obtain ⟨dx, l, h, dh, P', U, ps, us, q⟩ := id C
    refine ⟨_, (pss_cons (ps_if (pt_not (pt_val (pe_meth (pv 0) T.cl_Chronicle T.me_Chronicle_has_entry (ok_Chronicle_has_entry T) (hr.mono (by decide)) T.b_Chronicle_has_entry .nil pass0 (pa_cons (pv 1) pa_nil))))
        (pss_one (ps_ret (pe_lst (pa_cons (pe_glob (v := .int (-2)) rfl T.g_NOT_THERE.choose_spec ⟨_, rfl⟩) pa_nil)))) pss_nil)
        (pss_cons (ps_set (i := 2) sc_ny_when.nd rfl (Or.inl rfl) (pe_call (ok_all_spans T) (hr.mono (by decide)) rfl T.g_all_spans T.F_all_spans.kp T.b_all_spans .nil pass0 (pa_cons (pv 0) pa_nil)))
        (pss_cons (ps_if (pt_cmpR op_isN (pv 2) pe_non (nomark _))
        (pss_one (ps_ret (pe_lst (pa_cons (pe_glob (v := .int (-33)) rfl T.g_CANNOT_BE.choose_spec ⟨_, rfl⟩) pa_nil)))) pss_nil)
        (pss_one (ps_ret (pe_lst (pa_cons (pe_fld (pe_ix ix_list (pv 2) (pv 1) (fun _ _ => rfl)) rfl) (pa_cons (pe_fld (pe_ix ix_list (pv 2) (pv 1) (fun _ _ => rfl)) rfl) pa_nil)))))))), ?_⟩
    refine ⟨_, rfl, c, dx, _, rfl, q.at', cF_no _ _ _ (by decide +kernel) (by decide +kernel) (by decide +kernel) (by decide +kernel) (by decide +kernel) (by decide +kernel), _, rfl, R, c, d, i, rfl, C, _, rfl, ?_⟩
    by_cases hi : i < d.now.entries.length
    case neg =>
      refine ite2 (fun _ => ?_) (fun hn => absurd (by rw [decide_eq_false hi]; rfl) hn)
      exact ⟨by show 1 ≤ sizeLine; decide, fun p hp => k.ask C (congrArg (Prod.mk d) (if_pos (no_of hi))) (Same.refl _) hp rfl⟩
    refine ite2 (fun hn => absurd hn (by rw [decide_eq_true hi]; decide)) (fun _ => ?_)
    refine ⟨_, rfl, R, c, d, rfl, C, ok, fun e1 H1 s1 => ?_, fun ss e1 H1 p1 s1 h1 => ?_⟩
    · refine ⟨_, rfl, rfl, _, rfl, ite2 (fun _ => ?_) (fun hn => absurd (by rfl) hn)⟩
      exact ⟨by show 1 ≤ sizeLine; decide, fun p hp => k.ask C (when_none hi e1) s1 hp rfl⟩
    · refine ⟨_, rfl, rfl, _, rfl, ite2 (fun hn => absurd (of_decide_eq_true hn) (by intro z; cases z)) (fun _ => ?_)⟩
      obtain ⟨s', t, hz, hr', hle⟩ := span_at e1 hi
      obtain ⟨xs, x, dX, hD, hxV, hX⟩ := h1.get hz
      refine ⟨_, rfl, _, rfl, p1, _, _, _, rfl, rfl, SqL.of hD, atI_nat hxV, x, _, dX, _, _, rfl, hX, T.cl_Span, T.no_Span_soonest, sF_s _ _, _, rfl, _, rfl, p1, _, _, _, rfl, rfl, SqL.of hD, atI_nat hxV, x, _, dX, _, _, rfl, hX, T.cl_Span, T.no_Span_latest, sF_l _ _, by show 2 ≤ sizeLine; decide, fun p hp => ?_⟩
      exact k.ask C (when_some hi hr') s1 hp rfl
theorem ok_ny_rounds (T : Txt K mg a D) : FnOk P w K mg base CX0 6 a.f_ny_rounds D.d_ny_rounds p_ny_rounds (sp_ny_rounds K a) := by
  refine T.F_ny_rounds.ok sc_ny_rounds (fun vs H Q E h => ?_) (fun cdv A outer s H vs Q E hr h => ?_)
  · obtain ⟨i, R, c, d, rfl, _⟩ := h; rfl
  · obtain ⟨i, R, c, d, rfl, C, ok, k⟩ := h
    obtain ⟨dx, l, h, dh, P', U, ps, us, q⟩ := id C
    refine ⟨_, (pss_cons (ps_if (pt_not (pt_val (pe_meth (pv 0) T.cl_Chronicle T.me_Chronicle_has_entry (ok_Chronicle_has_entry T) (hr.mono (by decide)) T.b_Chronicle_has_entry .nil pass0 (pa_cons (pv 1) pa_nil))))
        (pss_one (ps_ret (pe_lst (pa_cons (pe_glob (v := .int (-2)) rfl T.g_NOT_THERE.choose_spec ⟨_, rfl⟩) pa_nil)))) pss_nil)
        (pss_cons (ps_set (i := 2) sc_ny_rounds.nd rfl (Or.inl rfl) (pe_call (ok_all_spans T) (hr.mono (by decide)) rfl T.g_all_spans T.F_all_spans.kp T.b_all_spans .nil pass0 (pa_cons (pv 0) pa_nil)))
        (pss_cons (ps_if (pt_cmpR op_isN (pv 2) pe_non (nomark _))
        (pss_one (ps_ret (pe_lst (pa_cons (pe_glob (v := .int (-33)) rfl T.g_CANNOT_BE.choose_spec ⟨_, rfl⟩) pa_nil)))) pss_nil)
        (pss_one (ps_ret (pe_lst (pa_cons (pe_op op_fdivN (pe_op op_sub (pe_fld (pe_ix ix_list (pv 2) (pv 1) (fun _ _ => rfl)) rfl) (pe_fld (pe_ix ix_list (pv 2) (pv 1) (fun _ _ => rfl)) rfl)) (pe_call (ok_round_length T) (hr.mono (by decide)) rfl T.g_round_length T.F_round_length.kp T.b_round_length .nil pass0 (pa_cons (pv 0) pa_nil))) pa_nil))))))), ?_⟩
    refine ⟨_, rfl, c, dx, _, rfl, q.at', cF_no _ _ _ (by decide +kernel) (by decide +kernel) (by decide +kernel) (by decide +kernel) (by decide +kernel) (by decide +kernel), _, rfl, R, c, d, i, rfl, C, _, rfl, ?_⟩
    by_cases hi : i < d.now.entries.length
    case neg =>
      refine ite2 (fun _ => ?_) (fun hn => absurd (by rw [decide_eq_false hi]; rfl) hn)
      exact ⟨by show 1 ≤ sizeLine; decide, fun p hp => k.ask C (congrArg (Prod.mk d) (if_pos (no_of hi))) (Same.refl _) hp rfl⟩
    refine ite2 (fun hn => absurd hn (by rw [decide_eq_true hi]; decide)) (fun _ => ?_)
    refine ⟨_, rfl, R, c, d, rfl, C, ok, fun e1 H1 s1 => ?_, fun ss e1 H1 p1 s1 h1 => ?_⟩
    · refine ⟨_, rfl, rfl, _, rfl, ite2 (fun _ => ?_) (fun hn => absurd (by rfl) hn)⟩
      exact ⟨by show 1 ≤ sizeLine; decide, fun p hp => k.ask C (rounds_none hi e1) s1 hp rfl⟩
    · refine ⟨_, rfl, rfl, _, rfl, ite2 (fun hn => absurd (of_decide_eq_true hn) (by intro z; cases z)) (fun _ => ?_)⟩
      obtain ⟨s', t, hz, hr', hle⟩ := span_at e1 hi
      obtain ⟨xs, x, dX, hD, hxV, hX⟩ := h1.get hz
      have hrp := round_pos ok
      refine ⟨_, rfl, _, rfl, p1, _, _, _, rfl, rfl, SqL.of hD, atI_nat hxV, x, _, dX, _, _, rfl, hX, T.cl_Span, T.no_Span_latest, sF_l _ _, _, rfl, _, rfl, p1, _, _, _, rfl, rfl, SqL.of hD, atI_nat hxV, x, _, dX, _, _, rfl, hX, T.cl_Span, T.no_Span_soonest, sF_s _ _, _, _, rfl, rfl,
        _, rfl, R, c, d, rfl, C.same s1, ok, _, _, rfl, rfl, ⟨by omega, by omega⟩, by show 1 ≤ sizeLine; decide, fun p hp => ?_⟩
      have e : ((t : Int) - (s' : Int)).fdiv (d.now.round : Int) = (((t - s') / d.now.round : Nat) : Int) := by
        have e0 : (t : Int) - (s' : Int) = ((t - s' : Nat) : Int) := by omega
        rw [e0, Int.fdiv_eq_ediv_of_nonneg _ (by omega)]
        rfl
      exact k.ask C (rounds_some hi hr') s1 hp (congrArg (fun z => [V.int z]) e)
theorem ok_ny_apart (T : Txt K mg a D) : FnOk P w K mg base CX0 6 a.f_ny_apart D.d_ny_apart p_ny_apart (sp_ny_apart K a) := by
  refine T.F_ny_apart.ok sc_ny_apart (fun vs H Q E h => ?_) (fun cdv A outer s H vs Q E hr h => ?_)
  · obtain ⟨i, j, R, c, d, rfl, _⟩ := h; rfl
  · obtain ⟨i, j, R, c, d, rfl, C, ok, k⟩ := h
    obtain ⟨dx, l, h, dh, P', U, ps, us, q⟩ := id C
    refine ⟨_, (pss_cons (ps_if (PW.pt (pw_or (pt_not (pt_val (pe_meth (pv 0) T.cl_Chronicle T.me_Chronicle_has_entry (ok_Chronicle_has_entry T) (hr.mono (by decide)) T.b_Chronicle_has_entry .nil pass0 (pa_cons (pv 2) pa_nil)))) (pw_or1 (pt_cmpR op_le (pv 2) (pv 1) (nomark _)))))
        (pss_one (ps_ret (pe_lst (pa_cons (pe_glob (v := .int (-2)) rfl T.g_NOT_THERE.choose_spec ⟨_, rfl⟩) pa_nil)))) pss_nil)
        (pss_cons (ps_set (i := 3) sc_ny_apart.nd rfl (Or.inl rfl) (pe_call (ok_all_spans T) (hr.mono (by decide)) rfl T.g_all_spans T.F_all_spans.kp T.b_all_spans .nil pass0 (pa_cons (pv 0) pa_nil)))
        (pss_cons (ps_if (pt_cmpR op_isN (pv 3) pe_non (nomark _))
        (pss_one (ps_ret (pe_lst (pa_cons (pe_glob (v := .int (-33)) rfl T.g_CANNOT_BE.choose_spec ⟨_, rfl⟩) pa_nil)))) pss_nil)
        (pss_cons (ps_set (i := 4) sc_ny_apart.nd rfl (Or.inl rfl) (pe_op op_sub (pe_fld (pe_ix ix_list (pv 3) (pv 2) (fun _ _ => rfl)) rfl) (pe_fld (pe_ix ix_list (pv 3) (pv 1) (fun _ _ => rfl)) rfl)))
        (pss_one (ps_ret (pe_lst (pa_cons (pe_callB (call_max2 rfl) (by rfl) T.z_max (by decide +kernel) (pa_cons pe_int (pa_cons (pv 4) pa_nil))) (pa_cons (pe_op op_sub (pe_fld (pe_ix ix_list (pv 3) (pv 2) (fun _ _ => rfl)) rfl) (pe_fld (pe_ix ix_list (pv 3) (pv 1) (fun _ _ => rfl)) rfl)) pa_nil))))))))), ?_⟩
    refine ⟨_, rfl, c, dx, _, rfl, q.at', cF_no _ _ _ (by decide +kernel) (by decide +kernel) (by decide +kernel) (by decide +kernel) (by decide +kernel) (by decide +kernel), _, rfl, R, c, d, j, rfl, C, _, rfl, ?_⟩
    by_cases hj : j < d.now.entries.length
    case neg =>
      refine ite2 (fun _ => iteT ?_) (fun hn => absurd (by rw [decide_eq_false hj]; rfl) hn)
      exact ⟨by show 1 ≤ sizeLine; decide, fun p hp => k.ask C (apart_no (.inl hj)) (Same.refl _) hp rfl⟩
    refine ite2 (fun hn => absurd hn (by rw [decide_eq_true hj]; decide)) (fun _ => ?_)
    refine ⟨_, rfl, _, rfl, _, _, rfl, rfl, _, rfl, ?_⟩
    refine ite2 (fun h1 => ?_) (fun h1 => ?_)
    · have h1' : j ≤ i := by have := dT h1; omega
      exact ⟨by show 1 ≤ sizeLine; decide, fun p hp => k.ask C (apart_no (.inr h1')) (Same.refl _) hp rfl⟩
    have hij : i < j := by have := dF h1; omega
    refine ⟨_, rfl, R, c, d, rfl, C, ok, fun e1 H1 s1 => ?_, fun ss e1 H1 p1 s1 h1 => ?_⟩
    · refine ⟨_, rfl, rfl, _, rfl, ite2 (fun _ => ?_) (fun hn => absurd (by rfl) hn)⟩
      exact ⟨by show 1 ≤ sizeLine; decide, fun p hp => k.ask C (apart_none hj hij e1) s1 hp rfl⟩
    · refine ⟨_, rfl, rfl, _, rfl, ite2 (fun hn => absurd (of_decide_eq_true hn) (by intro z; cases z)) (fun _ => ?_)⟩
      have hi : i < d.now.entries.length := by omega
      obtain ⟨s', t, hz, hr1, hle1⟩ := span_at e1 hi
      obtain ⟨u, v, hz2, hr2, hle2⟩ := span_at e1 hj
      have hinc : s' < u := span_inc e1 hij hz hz2
      obtain ⟨xs, x, dX, hD, hxV, hX⟩ := h1.get hz
      obtain ⟨ys, y, dY, hD2, hyV, hY⟩ := h1.get hz2
      refine ⟨_, rfl, _, rfl, p1, _, _, _, rfl, rfl, SqL.of hD2, atI_nat hyV, y, _, dY, _, _, rfl, hY, T.cl_Span, T.no_Span_soonest, sF_s _ _, _, rfl, _, rfl, p1, _, _, _, rfl, rfl, SqL.of hD, atI_nat hxV, x, _, dX, _, _, rfl, hX, T.cl_Span, T.no_Span_latest, sF_l _ _, _, _, rfl, rfl, ?_⟩
      refine ⟨_, rfl, _, _, rfl, _, rfl, _, rfl, p1, _, _, _, rfl, rfl, SqL.of hD2, atI_nat hyV, y, _, dY, _, _, rfl, hY, T.cl_Span, T.no_Span_latest, sF_l _ _, _, rfl, _, rfl, p1, _, _, _, rfl, rfl, SqL.of hD, atI_nat hxV, x, _, dX, _, _, rfl, hX, T.cl_Span, T.no_Span_soonest, sF_s _ _, _, _, rfl, rfl, by show 2 ≤ sizeLine; decide, fun p hp => ?_⟩
      have ea : (if (u : Int) - (t : Int) > 0 then (u : Int) - (t : Int) else 0) = ((u - t : Nat) : Int) := by split <;> omega
      have eb : (v : Int) - (s' : Int) = ((v - s' : Nat) : Int) := by omega
      refine k.ask C (apart_some hj hij hr1 hr2) s1 hp ?_
      show [V.int (if (u : Int) - (t : Int) > 0 then (u : Int) - (t : Int) else 0), V.int ((v : Int) - (s' : Int))] = [V.int ((u - t : Nat) : Int), V.int ((v - s' : Nat) : Int)]
      rw [ea, eb]
theorem ok_ny_could (T : Txt K mg a D) : FnOk P w K mg base CX0 6 a.f_ny_could D.d_ny_could p_ny_could (sp_ny_could K a) := by
  refine T.F_ny_could.ok sc_ny_could (fun vs H Q E h => ?_) (fun cdv A outer s H vs Q E hr h => ?_)
  · obtain ⟨i, y, R, c, d, rfl, _⟩ := h; rfl
  · obtain ⟨i, y, R, c, d, rfl, C, ok, k⟩ := h
    obtain ⟨dx, l, h, dh, P', U, ps, us, q⟩ := id C
    refine ⟨_, (pss_cons (ps_if (pt_not (pt_val (pe_meth (pv 0) T.cl_Chronicle T.me_Chronicle_has_entry (ok_Chronicle_has_entry T) (hr.mono (by decide)) T.b_Chronicle_has_entry .nil pass0 (pa_cons (pv 1) pa_nil))))
        (pss_one (ps_ret (pe_lst (pa_cons (pe_glob (v := .int (-2)) rfl T.g_NOT_THERE.choose_spec ⟨_, rfl⟩) pa_nil)))) pss_nil)
        (pss_cons (ps_if (pt_cmpR op_gt (pv 2) (pe_glob (v := .int (2000)) rfl T.g_HIGHEST_YEAR.choose_spec ⟨_, rfl⟩) (nomark _))
        (pss_one (ps_ret (pe_lst (pa_cons (pe_glob (v := .int (-22)) rfl T.g_OUT_OF_BOUNDS.choose_spec ⟨_, rfl⟩) pa_nil)))) pss_nil)
        (pss_cons (ps_set (i := 3) sc_ny_could.nd rfl (Or.inl rfl) (pe_call (ok_all_spans T) (hr.mono (by decide)) rfl T.g_all_spans T.F_all_spans.kp T.b_all_spans .nil pass0 (pa_cons (pv 0) pa_nil)))
        (pss_cons (ps_if (PW.pt (pw_or (pt_cmpR op_isN (pv 3) pe_non (nomark _)) (pw_or1 (pt_cmpR op_notIn_seq (pv 2) (pe_call (ok_entry_years T) (hr.mono (by decide)) rfl T.g_entry_years T.F_entry_years.kp T.b_entry_years .nil pass0 (pa_cons (pv 0) (pa_cons (pe_ix ix_list (pe_fld (pv 0) rfl) (pv 1) (fun _ _ => rfl)) pa_nil))) (by rfl)))))
        (pss_one (ps_ret (pe_lst (pa_cons pe_int pa_nil)))) pss_nil)
        (pss_one (ps_ret (pe_lst (pa_cons (pe_ifExp (PW.pt (pw_and (pt_cmpR op_le (pe_fld (pe_ix ix_list (pv 3) (pv 1) (fun _ _ => rfl)) rfl) (pv 2) (nomark _)) (pw_and1 (pt_cmpR op_le (pv 2) (pe_fld (pe_ix ix_list (pv 3) (pv 1) (fun _ _ => rfl)) rfl) (nomark _))))) pe_int pe_int) pa_nil)))))))), ?_⟩
    refine ⟨_, rfl, c, dx, _, rfl, q.at', cF_no _ _ _ (by decide +kernel) (by decide +kernel) (by decide +kernel) (by decide +kernel) (by decide +kernel) (by decide +kernel), _, rfl, R, c, d, i, rfl, C, _, rfl, ?_⟩
    by_cases hi : i < d.now.entries.length
    case neg =>
      refine ite2 (fun _ => ?_) (fun hn => absurd (by rw [decide_eq_false hi]; rfl) hn)
      exact ⟨by show 1 ≤ sizeLine; decide, fun p hp => k.ask C (congrArg (Prod.mk d) (if_pos (no_of hi))) (Same.refl _) hp rfl⟩
    refine ite2 (fun hn => absurd hn (by rw [decide_eq_true hi]; decide)) (fun _ => ?_)
    refine ⟨_, rfl, _, _, rfl, rfl, _, rfl, ?_⟩
    refine ite2 (fun h1 => ?_) (fun h1 => ?_)
    · have h1' : Km498.LAST < y := by have := dT h1; show 2000 < y; omega
      exact ⟨by show 1 ≤ sizeLine; decide, fun p hp => k.ask C (congrArg (Prod.mk d) ((if_neg (not_no hi)).trans (if_pos h1'))) (Same.refl _) hp rfl⟩
    have h1' : ¬ Km498.LAST < y := by have := dF h1; show ¬ 2000 < y; omega
    have ec : ∀ {z : Km498.Ans}, (if d.now.fits (d.now.e i) y = false then Km498.only 0 else Km498.only (if (d.now.set i { d.now.e i with known := some y }).first_ = none then 0 else 1)) = z → Km498.act d (.could i y) = (d, z) :=
      fun e => congrArg (Prod.mk d) ((if_neg (not_no hi)).trans ((if_neg h1').trans e))
    refine ⟨_, rfl, R, c, d, rfl, C, ok, fun e1 H1 s1 => ?_, fun ss e1 H1 p1 s1 h1 => ?_⟩
    · refine ⟨_, rfl, rfl, _, rfl, ite2 (fun _ => iteT ?_) (fun hn => absurd (by rfl) hn)⟩
      refine ⟨by show 1 ≤ sizeLine; decide, fun p hp => k.ask C (ans := Km498.only 0) (ec ?_) s1 hp rfl⟩
      cases hf : d.now.fits (d.now.e i) y with
      | false => exact if_pos rfl
      | true => exact (if_neg (by decide)).trans (congrArg Km498.only (if_pos (could_none hi hf e1)))
    · refine ⟨_, rfl, rfl, _, rfl, ite2 (fun hn => absurd (of_decide_eq_true hn) (by intro z; cases z)) (fun _ => ?_)⟩
      have C1 := C.same s1
      obtain ⟨dx1, l1, h1', dh1, P1, U1, ps1, us1, q1⟩ := id C1
      obtain ⟨il, xs, hx, hp0⟩ := id q1.en
      obtain ⟨he1, he⟩ := e_mem hi
      obtain ⟨y', hy', iy, hyE⟩ := hp0.get he
      have hyV : (xs.map V.ref)[i]? = some (V.ref y') := by rw [List.getElem?_map, hy']; rfl
      refine ⟨_, rfl, _, rfl, _, rfl, c, _, dx1, _, _, rfl, q1.at', T.cl_Chronicle, T.no_Chronicle_entries, cF_l _ _ _, _, rfl, l1, _, _, _, rfl, rfl, SqL.of hx, atI_nat hyV, R, c, y', d, d.now.e i, rfl, C1, ok, hyE, ok.now.es _ he1, fun p2 h2 => ?_⟩
      have s2 := s1.trans (Same.new (o := .lst (nI (d.now.years (d.now.e i)))) h2)
      refine ⟨p2, _, rfl, .inl (SqL.of upd_same), rfl, flat_nI _, _, rfl, ?_⟩
      by_cases hf : y ∈ d.now.years (d.now.e i)
      case neg =>
        refine ite2 (fun _ => ?_) (fun hn => absurd (by rw [inV_nI, decide_eq_false hf]; rfl) hn)
        have hf' : d.now.fits (d.now.e i) y = false := by
          cases e : d.now.fits (d.now.e i) y with
          | false => rfl
          | true => exact absurd (fits_mem.mpr e) hf
        exact ⟨by show 1 ≤ sizeLine; decide, fun p hp => k.ask C (ec (if_pos hf')) s2 hp rfl⟩
      · refine ite2 (fun hn => absurd hn (by rw [inV_nI, decide_eq_true hf]; decide)) (fun _ => ?_)
        have hf' := fits_mem.mp hf
        have hnf : ¬ d.now.fits (d.now.e i) y = false := by rw [hf']; decide
        obtain ⟨s', t, hz, hr', hle⟩ := span_at e1 hi
        obtain ⟨zs, x, dX, hD, hxV, hX⟩ := h1.get hz
        have cs := could_some hi hf' e1 hz
        have sn := Same.new (o := .lst (nI (d.now.years (d.now.e i)))) h2
        have hD' := sn _ _ hD
        have hX' := sn _ _ hX
        refine ⟨_, rfl, _, rfl, p1, _, _, _, rfl, rfl, SqL.of hD', atI_nat hxV, x, _, dX, _, _, rfl, hX', T.cl_Span, T.no_Span_soonest, sF_s _ _, _, rfl, _, _, rfl, rfl, _, rfl, ?_⟩
        refine ite2 (fun g1 => ?_) (fun g1 => iteF ?_)
        · refine ⟨_, rfl, _, rfl, _, rfl, p1, _, _, _, rfl, rfl, SqL.of hD', atI_nat hxV, x, _, dX, _, _, rfl, hX', T.cl_Span, T.no_Span_latest, sF_l _ _, _, _, rfl, rfl, _, rfl, ?_⟩
          refine ite2 (fun g2 => ?_) (fun g2 => ?_)
          · refine ⟨by show 1 ≤ sizeLine; decide, fun p hp => k.ask C (ec ((if_neg hnf).trans (congrArg Km498.only (if_neg (fun z => cs.mp z ?_))))) s2 hp rfl⟩
            have := dT g1
            have := dT g2
            omega
          · refine ⟨by show 1 ≤ sizeLine; decide, fun p hp => k.ask C (ec ((if_neg hnf).trans (congrArg Km498.only (if_pos (cs.mpr ?_))))) s2 hp rfl⟩
            have := dF g2
            omega
        · refine ⟨by show 1 ≤ sizeLine; decide, fun p hp => k.ask C (ec ((if_neg hnf).trans (congrArg Km498.only (if_pos (cs.mpr ?_))))) s2 hp rfl⟩
          have := dF g1
          omega
end
end Ry

set_option Elab.async false
set_option maxRecDepth 100000
set_option maxHeartbeats 2000000
namespace Ry
open PySem PySem.Spec PyProof.Rows L2 RyM
section
variable {P : Program} {w : World} {K : PySem.W.Frag} {mg : Str → Option Value} {base : Heap} {a : Ad} {D : Fd}
theorem ok_ny_told (T : Txt K mg a D) : FnOk P w K mg base CX0 2 a.f_ny_told D.d_ny_told p_ny_told (sp_ny_told K a) := by
  refine T.F_ny_told.ok sc_ny_told (fun vs H Q E h => ?_) (fun cdv A outer s H vs Q E hr h => ?_)
  · obtain ⟨i, R, c, d, rfl, _⟩ := h; rfl
  · obtain ⟨i, R, c, d, rfl, C, ok, k⟩ := h
    obtain ⟨dx, l, h, dh, P', U, ps, us, q⟩ := id C
    obtain ⟨il, xs, hx, hp0⟩ := id q.en
    refine ⟨_, (pss_cons (ps_if (pt_not (pt_val (pe_meth (pv 0) T.cl_Chronicle T.me_Chronicle_has_entry (ok_Chronicle_has_entry T) (hr.mono (by decide)) T.b_Chronicle_has_entry .nil pass0 (pa_cons (pv 1) pa_nil))))
        (pss_one (ps_ret (pe_lst (pa_cons (pe_glob (v := .int (-2)) rfl T.g_NOT_THERE.choose_spec ⟨_, rfl⟩) pa_nil)))) pss_nil)
        (pss_cons (ps_set (i := 2) sc_ny_told.nd rfl (Or.inl rfl) (pe_ix ix_list (pe_fld (pv 0) rfl) (pv 1) (fun _ _ => rfl)))
        (pss_cons (ps_set (i := 3) sc_ny_told.nd rfl (Or.inl rfl) (pe_ifExp (pt_cmpR op_isN (pe_fld (pv 2) rfl) pe_non (nomark _)) pe_int (pe_op op_add (pe_fld (pv 2) rfl) pe_int)))
        (pss_one (ps_ret (pe_lst (pa_cons (pe_fld (pv 2) rfl) (pa_cons (pe_fld (pv 2) rfl) (pa_cons (pv 3) pa_nil))))))))), ?_⟩
    refine ⟨_, rfl, c, dx, _, rfl, q.at', cF_no _ _ _ (by decide +kernel) (by decide +kernel) (by decide +kernel) (by decide +kernel) (by decide +kernel) (by decide +kernel), _, rfl, R, c, d, i, rfl, C, _, rfl, ?_⟩
    by_cases hi : i < d.now.entries.length
    case neg =>
      refine ite2 (fun _ => ?_) (fun hn => absurd (by rw [decide_eq_false hi]; rfl) hn)
      exact ⟨by show 1 ≤ sizeLine; decide, fun p hp => k.ask C (congrArg (Prod.mk d) (if_pos (no_of hi))) (Same.refl _) hp rfl⟩
    refine ite2 (fun hn => absurd hn (by rw [decide_eq_true hi]; decide)) (fun _ => ?_)
    obtain ⟨he1, he⟩ := e_mem hi
    obtain ⟨y', hy', iy, hyE⟩ := hp0.get he
    obtain ⟨dE, hE⟩ := id hyE
    have hyV : (xs.map V.ref)[i]? = some (V.ref y') := by rw [List.getElem?_map, hy']; rfl
    have ea : Km498.act d (.told i) = (d, ⟨Km498.n2i (d.now.e i).name, [(d.now.e i).at_, ((d.now.e i).known.map fun y => y + 1).getD 0]⟩) := congrArg (Prod.mk d) (if_neg (not_no hi))
    refine ⟨_, rfl, c, _, dx, _, _, rfl, q.at', T.cl_Chronicle, T.no_Chronicle_entries, cF_l _ _ _, _, rfl, l, _, _, _, rfl, rfl, SqL.of hx, atI_nat hyV, ?_⟩
    refine ⟨_, rfl, y', _, dE, _, _, rfl, hE, T.cl_Entry, T.no_Entry_known, eF_k _, rfl, _, rfl, ?_⟩
    cases hk : (d.now.e i).known with
    | none =>
      rw [hk] at ea
      refine ite2 (fun _ => ?_) (fun hn => absurd (by rfl) hn)
      refine ⟨_, rfl, y', _, dE, _, _, rfl, hE, T.cl_Entry, T.no_Entry_name, eF_n _, _, rfl, y', _, dE, _, _, rfl, hE, T.cl_Entry, T.no_Entry_reign_year, eF_r _, _, rfl, by show 3 ≤ sizeLine; decide, fun p hp => ?_⟩
      exact k.ask C ea (Same.refl _) hp rfl
    | some z =>
      rw [hk] at ea
      refine ite2 (fun hn => absurd hn (by simp [knV])) (fun _ => ?_)
      refine ⟨_, rfl, y', _, dE, _, _, rfl, hE, T.cl_Entry, T.no_Entry_known, (eF_k _).trans (by rw [hk]; rfl), _, _, rfl, rfl, ?_⟩
      refine ⟨_, rfl, y', _, dE, _, _, rfl, hE, T.cl_Entry, T.no_Entry_name, eF_n _, _, rfl, y', _, dE, _, _, rfl, hE, T.cl_Entry, T.no_Entry_reign_year, eF_r _, _, rfl, by show 3 ≤ sizeLine; decide, fun p hp => ?_⟩
      exact k.ask C ea (Same.refl _) hp rfl
theorem ok_ny_state (T : Txt K mg a D) : FnOk P w K mg base CX0 1 a.f_ny_state D.d_ny_state p_ny_state (sp_ny_state K a) := by
  refine T.F_ny_state.ok sc_ny_state (fun vs H Q E h => ?_) (fun cdv A outer s H vs Q E hr h => ?_)
  · obtain ⟨R, c, d, rfl, _⟩ := h; rfl
  · obtain ⟨R, c, d, rfl, C, ok, k⟩ := h
    obtain ⟨dx, l, h, dh, P', U, ps, us, q⟩ := id C
    obtain ⟨il, xs, hx, hp0⟩ := id q.en
    refine ⟨_, (pss_cons (ps_set (i := 1) sc_ny_state.nd rfl (Or.inl rfl) (pe_lst (pa_cons (pe_fld (pv 0) rfl) (pa_cons (pe_fld (pv 0) rfl) (pa_cons (pe_fld (pv 0) rfl) (pa_cons (pe_fld (pv 0) rfl) pa_nil))))))
        (pss_cons (ps_set (i := 2) sc_ny_state.nd rfl (Or.inl rfl) (pe_lst (pa_cons (pe_callB call_len_seq (by rfl) T.z_len PySem.boot_len (pa_cons (pe_fld (pe_fld (pv 0) rfl) rfl) pa_nil)) (pa_cons (pe_callB call_len_seq (by rfl) T.z_len PySem.boot_len (pa_cons (pe_fld (pe_fld (pv 0) rfl) rfl) pa_nil)) pa_nil))))
        (pss_one (ps_ret (pe_op op_cat (pe_op op_cat (pe_lst (pa_cons (pe_callB call_len_seq (by rfl) T.z_len PySem.boot_len (pa_cons (pe_fld (pv 0) rfl) pa_nil)) pa_nil)) (pv 1)) (pv 2)))))), ?_⟩
    have hl0 : (xs.map V.ref).length = d.now.entries.length := by rw [List.length_map, hp0.1]
    have hl1 : (ps.map V.ref).length = d.past.length := by rw [List.length_map, q.hi.pp.1, List.length_reverse]
    have hl2 : (us.map V.ref).length = d.future.length := by rw [List.length_map, q.hi.uu.1, List.length_reverse]
    refine ⟨_, rfl, c, _, dx, _, _, rfl, q.at', T.cl_Chronicle, T.no_Chronicle_reign_length, cF_t _ _ _, _, rfl, c, _, dx, _, _, rfl, q.at', T.cl_Chronicle, T.no_Chronicle_name_total, cF_n _ _ _, _, rfl, c, _, dx, _, _, rfl, q.at', T.cl_Chronicle, T.no_Chronicle_first_year, cF_f _ _ _, _, rfl, c, _, dx, _, _, rfl, q.at', T.cl_Chronicle, T.no_Chronicle_last_year, cF_e _ _ _, by show 4 ≤ sizeLine; decide, fun p1 h1 => ?_⟩
    have s1 := Same.new (o := .lst [V.int (d.now.term : Nat), V.int (d.now.names : Nat), V.int (d.now.first : Nat), V.int (d.now.last : Nat)]) h1
    have q1 := q.same s1
    refine ⟨_, rfl, c, _, dx, _, _, rfl, q1.at', T.cl_Chronicle, T.no_Chronicle_history, cF_h _ _ _, h, _, dh, _, _, rfl, q1.hi.at', T.cl_History, T.no_History_past, hF_p _ _, P', _, rfl, .inl (SqL.of q1.hi.pl), _, rfl, c, _, dx, _, _, rfl, q1.at', T.cl_Chronicle, T.no_Chronicle_history, cF_h _ _ _, h, _, dh, _, _, rfl, q1.hi.at', T.cl_History, T.no_History_undone, hF_u _ _, U, _, rfl, .inl (SqL.of q1.hi.ul), by show 2 ≤ sizeLine; decide, fun p2 h2 => ?_⟩
    rw [hl1, hl2]
    have sB := Same.new (o := .lst [V.int ((d.past.length : Nat) : Int), V.int ((d.future.length : Nat) : Int)]) h2
    have s2 := s1.trans sB
    have q2 := q.same s2
    have hx2 := s2 _ _ hx
    refine ⟨_, rfl, c, _, dx, _, _, rfl, q2.at', T.cl_Chronicle, T.no_Chronicle_entries, cF_l _ _ _, l, _, rfl, .inl (SqL.of hx2), by show 1 ≤ sizeLine; decide, fun p3 h3 => ?_⟩
    rw [hl0]
    have sC := Same.new (o := .lst [V.int ((d.now.entries.length : Nat) : Int)]) h3
    have s3 := s2.trans sC
    refine ⟨_, rfl, p3, p1, _, _, rfl, rfl, upd_same, sC _ _ (sB _ _ upd_same), by show 5 ≤ sizeLine; decide, fun p4 h4 => ?_⟩
    have sD := Same.new (o := .lst ([V.int ((d.now.entries.length : Nat) : Int)] ++ [V.int (d.now.term : Nat), V.int (d.now.names : Nat), V.int (d.now.first : Nat), V.int (d.now.last : Nat)])) h4
    have s4 := s3.trans sD
    refine ⟨_, rfl, p4, p2, _, _, rfl, rfl, upd_same, sD _ _ (sC _ _ upd_same), by show 7 ≤ sizeLine; decide, fun p5 h5 => ?_⟩
    exact k.ask C (ans := ⟨Km498.n2i d.now.entries.length, [d.now.term, d.now.names, d.now.first, d.now.last, d.past.length, d.future.length]⟩) rfl s4 h5 rfl
theorem ok_ny_one (T : Txt K mg a D) : FnOk P w K mg base CX0 6 a.f_ny_one D.d_ny_one p_ny_one (sp_ny_one K a) := by
  refine T.F_ny_one.ok sc_ny_one (fun vs H Q E h => ?_) (fun cdv A outer s H vs Q E hr h => ?_)
  · obtain ⟨R, c, d, rfl, _⟩ := h; rfl
  · obtain ⟨R, c, d, rfl, C, ok, k⟩ := h
    refine ⟨_, (pss_cons (ps_set (i := 1) sc_ny_one.nd rfl (Or.inl rfl) (pe_call (ok_all_spans T) (hr.mono (by decide)) rfl T.g_all_spans T.F_all_spans.kp T.b_all_spans .nil pass0 (pa_cons (pv 0) pa_nil)))
        (pss_cons (ps_if (pt_cmpR op_isN (pv 1) pe_non (nomark _))
        (pss_one (ps_ret (pe_lst (pa_cons (pe_glob (v := .int (-33)) rfl T.g_CANNOT_BE.choose_spec ⟨_, rfl⟩) pa_nil)))) pss_nil)
        (pss_one (ps_ret (pe_lst (pa_cons (pe_ifExp (pt_val (pe_callB (cr_all rfl) (by rfl) T.z_all (by decide +kernel) (pa_cons (pe_lc (own := [("span", 2)]) (g := gName 2) rfl sc_ny_one.nd (pi_list (pv 1)) (blkOk_by (own := [("span", 2)]) (N := n_ny_one) (sc := defScope s_ny_one) (by decide +kernel)) (fun _ _ _ _ _ => pg_name (i := 2) sc_ny_one.nd rfl (Or.inl rfl)) (fun _ _ _ _ _ => pts_nil) (fun _ _ _ _ _ => (pe_meth0 (pv 2) T.cl_Span T.me_Span_is_one_year (ok_Span_is_one_year T) (hr.mono (by decide)) T.b_Span_is_one_year .nil pass0))) pa_nil))) pe_int pe_int) pa_nil)))))), ?_⟩
    refine ⟨_, rfl, R, c, d, rfl, C, ok, fun e1 H1 s1 => ?_, fun ss e1 H1 p1 s1 h1 => ?_⟩
    · refine ⟨_, rfl, rfl, _, rfl, ite2 (fun _ => ?_) (fun hn => absurd (by rfl) hn)⟩
      exact ⟨by show 1 ≤ sizeLine; decide, fun p hp => k.ask C (one_none e1) s1 hp rfl⟩
    · refine ⟨_, rfl, rfl, _, rfl, ite2 (fun hn => absurd (of_decide_eq_true hn) (by intro z; cases z)) (fun _ => ?_)⟩
      obtain ⟨xs, hx, hxs⟩ := h1
      have hl : ss.length ≤ 10 := by rw [spans_length e1]; exact ok.now.en
      refine ⟨_, rfl, p1, rfl, ⟨_, SqL.of hx⟩, fun L hL => ?_⟩
      refine lc_list (K := K) (a := p1) (xs := xs.map V.ref) (fun i H' => Same H1 H' ∧ H' L = some (.lst (((ss.take i).map fun z => decide (z.1 = z.2)).map V.bl)))
        ⟨Same.new hL, upd_same⟩ (fun i H' _ ⟨s, _⟩ => SqL.of (s _ _ hx)) ?_ ?_
      · rintro i x H' hi ⟨s, hL'⟩
        obtain ⟨y, hy, rfl⟩ := ref_get hi
        have hil : i < ss.length := by rw [← hxs.1]; exact (List.getElem?_eq_some_iff.mp hy).1
        have hz : ss[i]? = some ss[i] := List.getElem?_eq_getElem hil
        obtain ⟨dX, hX⟩ := hxs.2 i y _ hy hz
        refine ⟨rfl, ?_⟩
        dsimp only [tYes]
        refine ite2 (fun _ => ?_) (fun hn => absurd rfl hn)
        refine ⟨_, rfl, y, dX, _, rfl, s _ _ hX, sF_no _ _ (by decide +kernel) (by decide +kernel), y, dX, _, _, rfl, s _ _ hX, ?_⟩
        refine ⟨_, hL', (by rw [List.length_map, List.length_map, List.length_take]; exact Nat.lt_of_lt_of_le (show min i ss.length < 100 by omega) (by decide)), fun b o e => ?_, ?_⟩
        · rw [upd_ne (ne_of_none e hL)]
          exact s b o e
        · rw [upd_same, take_more hz, List.map_append, List.map_append]
          rfl
      · rintro H' ⟨s, hL'⟩
        rw [List.length_map, hxs.1, List.take_length] at hL'
        refine ⟨L, _, rfl, SqL.of hL', _, rfl, ?_⟩
        have ea := one_some e1
        have eb : ((ss.map fun z => decide (z.1 = z.2)).all id) = ss.all fun z => decide (z.1 = z.2) := by
          rw [List.all_map]
          rfl
        rw [eb]
        refine ite2 (fun g => ?_) (fun g => ?_)
        · rw [if_pos g] at ea
          exact ⟨by show 1 ≤ sizeLine; decide, fun p hp => k.ask C ea (s1.trans s) hp rfl⟩
        · rw [if_neg g] at ea
          exact ⟨by show 1 ≤ sizeLine; decide, fun p hp => k.ask C ea (s1.trans s) hp rfl⟩
theorem ok_ny_sure (T : Txt K mg a D) : FnOk P w K mg base CX0 6 a.f_ny_sure D.d_ny_sure p_ny_sure (sp_ny_sure K a) := by
  refine T.F_ny_sure.ok sc_ny_sure (fun vs H Q E h => ?_) (fun cdv A outer s H vs Q E hr h => ?_)
  · obtain ⟨R, c, d, rfl, _⟩ := h; rfl
  · obtain ⟨R, c, d, rfl, C, ok, k⟩ := h
    refine ⟨_, (pss_cons (ps_set (i := 1) sc_ny_sure.nd rfl (Or.inl rfl) (pe_call (ok_all_spans T) (hr.mono (by decide)) rfl T.g_all_spans T.F_all_spans.kp T.b_all_spans .nil pass0 (pa_cons (pv 0) pa_nil)))
        (pss_cons (ps_if (pt_cmpR op_isN (pv 1) pe_non (nomark _))
        (pss_one (ps_ret (pe_lst (pa_cons (pe_glob (v := .int (-33)) rfl T.g_CANNOT_BE.choose_spec ⟨_, rfl⟩) pa_nil)))) pss_nil)
        (pss_cons (ps_set (i := 2) sc_ny_sure.nd rfl (Or.inl rfl) pe_int)
        (pss_cons (ps_set (i := 3) sc_ny_sure.nd rfl (Or.inl rfl) pe_int)
        (pss_cons (ps_set (i := 4) sc_ny_sure.nd rfl (Or.inl rfl) pe_int)
        (pss_cons (ps_for PassesOwn.never rfl (pi_list (pv 1)) (pg_name (i := 5) sc_ny_sure.nd rfl (Or.inl rfl))
        (pss_cons (ps_if (pt_val (pe_meth0 (pv 5) T.cl_Span T.me_Span_is_one_year (ok_Span_is_one_year T) (hr.mono (by decide)) T.b_Span_is_one_year .nil pass0))
          (pss_cons (ps_set (i := 2) sc_ny_sure.nd rfl (Or.inl rfl) (pe_op op_add (pv 2) pe_int))
            (pss_one (ps_set (i := 3) sc_ny_sure.nd rfl (Or.inl rfl) (pe_op op_add (pv 3) (pv 4))))) pss_nil)
          (pss_one (ps_set (i := 4) sc_ny_sure.nd rfl (Or.inl rfl) (pe_op op_mul (pv 4) pe_int)))))
        (pss_one (ps_ret (pe_lst (pa_cons (pv 2) (pa_cons (pv 3) pa_nil))))))))))), ?_⟩
    refine ⟨_, rfl, R, c, d, rfl, C, ok, fun e1 H1 s1 => ?_, fun ss e1 H1 p1 s1 h1 => ?_⟩
    · refine ⟨_, rfl, rfl, _, rfl, ite2 (fun _ => ?_) (fun hn => absurd (by rfl) hn)⟩
      exact ⟨by show 1 ≤ sizeLine; decide, fun p hp => k.ask C (sure_none e1) s1 hp rfl⟩
    · refine ⟨_, rfl, rfl, _, rfl, ite2 (fun hn => absurd (of_decide_eq_true hn) (by intro z; cases z)) (fun _ => ?_)⟩
      obtain ⟨xs, hx, hxs⟩ := h1
      have hl : ss.length = d.now.entries.length := spans_length e1
      refine ⟨_, rfl, p1, rfl, ⟨_, SqL.of hx⟩, for_list (K := K) (a := p1) (xs := xs.map V.ref) (fun i σ H' => ∃ v, σ = [some (.ref c), some (.ref p1), some (.int (((sureTo d.now i).length : Nat) : Int)), some (.int ((Km498.bits (sureTo d.now i) : Nat) : Int)), some (.int ((2 ^ i : Nat) : Int)), v] ∧ H' = H1)
        ⟨none, rfl, rfl⟩ (fun i σ H' _ ⟨_, _, e⟩ => by rw [e]; exact SqL.of hx) ?_ ?_⟩
      · rintro i x σ H' hi ⟨v, rfl, rfl⟩
        obtain ⟨y, hy, rfl⟩ := ref_get hi
        have hil : i < ss.length := by rw [← hxs.1]; exact (List.getElem?_eq_some_iff.mp hy).1
        have hz : ss[i]? = some ss[i] := List.getElem?_eq_getElem hil
        obtain ⟨dX, hX⟩ := hxs.2 i y _ hy hz
        have eo := one_at e1 hz
        have ep : ((2 ^ i : Nat) : Int) * 2 = ((2 ^ (i + 1) : Nat) : Int) := by rw [Nat.pow_succ, Int.natCast_mul]; rfl
        refine ⟨_, rfl, y, dX, _, rfl, hX, sF_no _ _ (by decide +kernel) (by decide +kernel), y, dX, _, _, rfl, hX, _, rfl, ?_⟩
        refine ite2 (fun g => ?_) (fun g => ?_)
        · have g' : oneAt d.now i = true := eo.trans g
          refine ⟨_, rfl, _, _, rfl, rfl, ?_⟩
          refine ⟨_, rfl, _, rfl, _, _, rfl, rfl, ?_⟩
          refine ⟨_, rfl, _, _, rfl, rfl, .inr ⟨by decide, by decide⟩, ?_⟩
          refine ⟨some (.ref y), ?_, rfl⟩
          rw [sureTo_yes g', bits_more, List.length_append, List.length_singleton, ← ep, Int.natCast_add, Int.natCast_add]
          rfl
        · have g' : oneAt d.now i = false := eo.trans (by simpa using g)
          refine ⟨_, rfl, _, _, rfl, rfl, .inr ⟨by decide, by decide⟩, ?_⟩
          refine ⟨some (.ref y), ?_, rfl⟩
          rw [sureTo_no g', ← ep]
          rfl
      · rintro σ H' ⟨v, rfl, rfl⟩
        refine ⟨_, rfl, _, rfl, by show 2 ≤ sizeLine; decide, fun p hp => ?_⟩
        refine k.ask C (sure_some e1) s1 hp ?_
        rw [List.length_map, hxs.1, hl]
        rfl
end
end Ry

set_option Elab.async false
set_option maxRecDepth 100000
set_option maxHeartbeats 2000000
namespace Ry
open PySem PySem.Spec PyProof.Rows L2 RyM
/-- a call by its number and its numbers -/
inductive Is : Int → List Nat → Km498.Call → Prop
  | start (t n f e : Nat) : Is 0 [t, n, f, e] (.start t n f e)
  | tell (k j : Nat) : Is 1 [k, j] (.tell k j)
  | drop : Is 2 [] .drop
  | know (i y : Nat) : Is 3 [i, y] (.know i y)
  | forget (i : Nat) : Is 4 [i] (.forget i)
  | upTo (e : Nat) : Is 5 [e] (.upTo e)
  | name (y : Nat) : Is 6 [y] (.name y)
  | years (i : Nat) : Is 7 [i] (.years i)
  | soonest : Is 8 [] .soonest
  | latest : Is 9 [] .latest
  | count : Is 10 [] .count
  | sure : Is 11 [] .sure
  | when_ (i : Nat) : Is 12 [i] (.when_ i)
  | apart (i j : Nat) : Is 13 [i, j] (.apart i j)
  | one : Is 14 [] .one
  | rounds (i : Nat) : Is 15 [i] (.rounds i)
  | could (i y : Nat) : Is 16 [i, y] (.could i y)
  | told (i : Nat) : Is 17 [i] (.told i)
  | back : Is 18 [] .back
  | again : Is 19 [] .again
  | state : Is 20 [] .state
theorem nat_of {z : Int} (h : Km498Neutral.natural z 32 = true) : z = ((z.toNat : Nat) : Int) := by
  unfold Km498Neutral.natural at h
  rw [Bool.and_eq_true, decide_eq_true_eq] at h
  omega
theorem is_of {p : Int} {xs : List Int} {x : Km498.Call} (h1 : Km498Neutral.asked1 [p :: xs] = true) (h2 : Km498Neutral.callOf [p :: xs] = some x) : ∃ ns : List Nat, xs = ns.map (fun (n : Nat) => (n : Int)) ∧ Is p ns x := by
  generalize hc : [p :: xs] = c at h1 h2
  unfold Km498Neutral.callOf at h2
  split at h2
  all_goals first
    | (cases h2; done)
    | (injection hc with hc hc2
       injection hc with hp hxs
       injection h2 with h2
       subst h2; subst hp; subst hxs
       simp only [Km498Neutral.asked1, Bool.and_eq_true] at h1
       first
         | exact ⟨[], rfl, by constructor⟩
         | (have e1 := nat_of h1; refine ⟨[_], ?_, by constructor⟩; rw [List.map_singleton, ← e1])
         | (have e1 := nat_of h1.1; have e2 := nat_of h1.2; refine ⟨[_, _], ?_, by constructor⟩; rw [List.map_cons, List.map_singleton, ← e1, ← e2])
         | (have e1 := nat_of h1.1.1.1; have e2 := nat_of h1.1.1.2; have e3 := nat_of h1.1.2; have e4 := nat_of h1.2; refine ⟨[_, _, _, _], ?_, by constructor⟩; rw [List.map_cons, List.map_cons, List.map_cons, List.map_singleton, ← e1, ← e2, ← e3, ← e4]))
theorem is_called {p : Int} {xs : List Int} (h1 : Km498Neutral.asked1 [p :: xs] = true) : ∃ x, Km498Neutral.callOf [p :: xs] = some x := by
  generalize [p :: xs] = c at h1
  unfold Km498Neutral.asked1 at h1
  split at h1
  all_goals first
    | (exact ⟨_, rfl⟩)
    | cases h1
end Ry

set_option Elab.async false
set_option maxRecDepth 100000
set_option maxHeartbeats 2000000
namespace Ry
open PySem PySem.Spec PyProof.Rows L2 RyM
def okC (p : Int) : Bool := decide (p ≤ 5 ∨ p = 18 ∨ p = 19)
def okR (p : Int) : Bool := decide (8 ≤ p ∧ p ≤ 16)
def okQ (p : Int) : Bool := decide (p = 6 ∨ p = 7 ∨ p = 17 ∨ p = 20)
def spNum (a : Ad) (ok : Int → Bool) : Sp := fun vs H Q _ => ∃ (R : Rg) (c g : Addr) (d : Km498.Desk) (p : Int) (ns : List Nat) (x : Km498.Call), vs = [.ref c, .int p, .ref g] ∧ ok p = true ∧ Chr a R H c d ∧ DeskOk d ∧ H g = some (.lst (nI ns)) ∧ Is p ns x ∧ Does a R H c d x Q
set_option linter.unusedVariables false
def sp_change_answer (K : PySem.W.Frag) (a : Ad) : Sp := spNum a okC
def sp_reading_question_answer (K : PySem.W.Frag) (a : Ad) : Sp := spNum a okR
def sp_question_answer (K : PySem.W.Frag) (a : Ad) : Sp := spNum a okQ
def sp_call_answer (K : PySem.W.Frag) (a : Ad) : Sp := spNum a fun _ => true
theorem is_num {p : Int} {ns : List Nat} {x : Km498.Call} (h : Is p ns x) : ∃ n : Nat, p = ((n : Nat) : Int) ∧ n ≤ 20 := by
  cases h <;> exact ⟨_, rfl, by decide⟩
theorem in_C {n : Nat} (h : n ≤ 20) : inV (V.int ((n : Nat) : Int)) [.int 0, .int 1, .int 2, .int 3, .int 4, .int 5, .int 18, .int 19] = okC ((n : Nat) : Int) := by
  refine (inV_nI (y := n) (ys := [0, 1, 2, 3, 4, 5, 18, 19])).trans ?_
  unfold okC
  refine Bool.eq_iff_iff.mpr ?_
  rw [decide_eq_true_eq, decide_eq_true_eq]
  simp only [List.mem_cons, List.not_mem_nil, or_false]
  omega
theorem in_R {n : Nat} : inV (V.int ((n : Nat) : Int)) [.int 8, .int 9, .int 10, .int 11, .int 12, .int 13, .int 14, .int 15, .int 16] = okR ((n : Nat) : Int) := by
  refine (inV_nI (y := n) (ys := [8, 9, 10, 11, 12, 13, 14, 15, 16])).trans ?_
  unfold okR
  refine Bool.eq_iff_iff.mpr ?_
  rw [decide_eq_true_eq, decide_eq_true_eq]
  simp only [List.mem_cons, List.not_mem_nil, or_false]
  omega
theorem in_Q {n : Nat} (h : n ≤ 20) (h1 : ¬ okC ((n : Nat) : Int) = true) (h2 : ¬ okR ((n : Nat) : Int) = true) : okQ ((n : Nat) : Int) = true := by
  unfold okC at h1
  unfold okR at h2
  unfold okQ
  rw [decide_eq_true_eq] at h1 h2 ⊢
  omega
theorem no_int {i j : Int} {A B : Prop} (h : i ≠ j) (hb : B) : if decide (V.int i = V.int j) = true then A else B := by
  rw [if_neg (fun z => h (by have := of_decide_eq_true z; injection this))]
  exact hb
theorem yes_int {i : Int} {A B : Prop} (ha : A) : if decide (V.int i = V.int i) = true then A else B := by
  rw [if_pos (decide_eq_true rfl)]
  exact ha
section
variable {P : Program} {w : World} {K : PySem.W.Frag} {mg : Str → Option Value} {base : Heap} {a : Ad} {D : Fd}
theorem ok_change_answer (T : Txt K mg a D) : FnOk P w K mg base CX0 5 a.f_change_answer D.d_change_answer p_change_answer (sp_change_answer K a) := by
  refine T.F_change_answer.ok sc_change_answer (fun vs H Q E h => ?_) (fun cdv A outer s H vs Q E hr h => ?_)
  · obtain ⟨R, c, g, d, p, ns, x, rfl, _⟩ := h; rfl
  · obtain ⟨R, c, g, d, p, ns, x, rfl, hok, C, ok, hg, is, k⟩ := h
    refine ⟨_, (pss_cons (ps_if (pt_cmpR op_eq (pv 1) pe_int (nomark _))
        (pss_one (ps_ret (pe_call (ok_ny_start T) (hr.mono (by decide)) rfl T.g_ny_start T.F_ny_start.kp T.b_ny_start .nil pass0 (pa_cons (pv 0) (pa_cons (pe_ix ix_list (pv 2) pe_int (fun _ _ => rfl)) (pa_cons (pe_ix ix_list (pv 2) pe_int (fun _ _ => rfl)) (pa_cons (pe_ix ix_list (pv 2) pe_int (fun _ _ => rfl)) (pa_cons (pe_ix ix_list (pv 2) pe_int (fun _ _ => rfl)) pa_nil)))))))) pss_nil)
        (pss_cons (ps_if (pt_cmpR op_eq (pv 1) pe_int (nomark _))
        (pss_one (ps_ret (pe_call (ok_ny_tell T) (hr.mono (by decide)) rfl T.g_ny_tell T.F_ny_tell.kp T.b_ny_tell .nil pass0 (pa_cons (pv 0) (pa_cons (pe_ix ix_list (pv 2) pe_int (fun _ _ => rfl)) (pa_cons (pe_ix ix_list (pv 2) pe_int (fun _ _ => rfl)) pa_nil)))))) pss_nil)
        (pss_cons (ps_if (pt_cmpR op_eq (pv 1) pe_int (nomark _))
        (pss_one (ps_ret (pe_call (ok_ny_drop T) (hr.mono (by decide)) rfl T.g_ny_drop T.F_ny_drop.kp T.b_ny_drop .nil pass0 (pa_cons (pv 0) pa_nil)))) pss_nil)
        (pss_cons (ps_if (pt_cmpR op_eq (pv 1) pe_int (nomark _))
        (pss_one (ps_ret (pe_call (ok_ny_know T) (hr.mono (by decide)) rfl T.g_ny_know T.F_ny_know.kp T.b_ny_know .nil pass0 (pa_cons (pv 0) (pa_cons (pe_ix ix_list (pv 2) pe_int (fun _ _ => rfl)) (pa_cons (pe_ix ix_list (pv 2) pe_int (fun _ _ => rfl)) pa_nil)))))) pss_nil)
        (pss_cons (ps_if (pt_cmpR op_eq (pv 1) pe_int (nomark _))
        (pss_one (ps_ret (pe_call (ok_ny_forget T) (hr.mono (by decide)) rfl T.g_ny_forget T.F_ny_forget.kp T.b_ny_forget .nil pass0 (pa_cons (pv 0) (pa_cons (pe_ix ix_list (pv 2) pe_int (fun _ _ => rfl)) pa_nil))))) pss_nil)
        (pss_cons (ps_if (pt_cmpR op_eq (pv 1) pe_int (nomark _))
        (pss_one (ps_ret (pe_call (ok_ny_up_to T) (hr.mono (by decide)) rfl T.g_ny_up_to T.F_ny_up_to.kp T.b_ny_up_to .nil pass0 (pa_cons (pv 0) (pa_cons (pe_ix ix_list (pv 2) pe_int (fun _ _ => rfl)) pa_nil))))) pss_nil)
        (pss_cons (ps_if (pt_cmpR op_eq (pv 1) pe_int (nomark _))
        (pss_one (ps_ret (pe_call (ok_ny_back T) (hr.mono (by decide)) rfl T.g_ny_back T.F_ny_back.kp T.b_ny_back .nil pass0 (pa_cons (pv 0) pa_nil)))) pss_nil)
        (pss_one (ps_ret (pe_call (ok_ny_again T) (hr.mono (by decide)) rfl T.g_ny_again T.F_ny_again.kp T.b_ny_again .nil pass0 (pa_cons (pv 0) pa_nil))))))))))), ?_⟩
    refine ⟨_, rfl, rfl, _, rfl, ?_⟩
    cases is with
    | start t n f e => exact yes_int ⟨_, rfl, _, rfl, g, _, _, _, rfl, rfl, SqL.of hg, atI_nat (j := 0) rfl, _, rfl, g, _, _, _, rfl, rfl, SqL.of hg, atI_nat (j := 1) rfl, _, rfl, g, _, _, _, rfl, rfl, SqL.of hg, atI_nat (j := 2) rfl, _, rfl, g, _, _, _, rfl, rfl, SqL.of hg, atI_nat (j := 3) rfl, t, n, f, e, R, c, d, rfl, C, ok, k⟩
    | tell kk j => exact no_int (by decide) ⟨_, rfl, rfl, _, rfl, yes_int ⟨_, rfl, _, rfl, g, _, _, _, rfl, rfl, SqL.of hg, atI_nat (j := 0) rfl, _, rfl, g, _, _, _, rfl, rfl, SqL.of hg, atI_nat (j := 1) rfl, kk, j, R, c, d, rfl, C, ok, k⟩⟩
    | drop  => exact no_int (by decide) ⟨_, rfl, rfl, _, rfl, no_int (by decide) ⟨_, rfl, rfl, _, rfl, yes_int ⟨_, rfl, R, c, d, rfl, C, ok, k⟩⟩⟩
    | know i y => exact no_int (by decide) ⟨_, rfl, rfl, _, rfl, no_int (by decide) ⟨_, rfl, rfl, _, rfl, no_int (by decide) ⟨_, rfl, rfl, _, rfl, yes_int ⟨_, rfl, _, rfl, g, _, _, _, rfl, rfl, SqL.of hg, atI_nat (j := 0) rfl, _, rfl, g, _, _, _, rfl, rfl, SqL.of hg, atI_nat (j := 1) rfl, i, y, R, c, d, rfl, C, ok, k⟩⟩⟩⟩
    | forget i => exact no_int (by decide) ⟨_, rfl, rfl, _, rfl, no_int (by decide) ⟨_, rfl, rfl, _, rfl, no_int (by decide) ⟨_, rfl, rfl, _, rfl, no_int (by decide) ⟨_, rfl, rfl, _, rfl, yes_int ⟨_, rfl, _, rfl, g, _, _, _, rfl, rfl, SqL.of hg, atI_nat (j := 0) rfl, i, R, c, d, rfl, C, ok, k⟩⟩⟩⟩⟩
    | upTo e => exact no_int (by decide) ⟨_, rfl, rfl, _, rfl, no_int (by decide) ⟨_, rfl, rfl, _, rfl, no_int (by decide) ⟨_, rfl, rfl, _, rfl, no_int (by decide) ⟨_, rfl, rfl, _, rfl, no_int (by decide) ⟨_, rfl, rfl, _, rfl, yes_int ⟨_, rfl, _, rfl, g, _, _, _, rfl, rfl, SqL.of hg, atI_nat (j := 0) rfl, e, R, c, d, rfl, C, ok, k⟩⟩⟩⟩⟩⟩
    | back  => exact no_int (by decide) ⟨_, rfl, rfl, _, rfl, no_int (by decide) ⟨_, rfl, rfl, _, rfl, no_int (by decide) ⟨_, rfl, rfl, _, rfl, no_int (by decide) ⟨_, rfl, rfl, _, rfl, no_int (by decide) ⟨_, rfl, rfl, _, rfl, no_int (by decide) ⟨_, rfl, rfl, _, rfl, yes_int ⟨_, rfl, R, c, d, rfl, C, ok, k⟩⟩⟩⟩⟩⟩⟩
    | again  => exact no_int (by decide) ⟨_, rfl, rfl, _, rfl, no_int (by decide) ⟨_, rfl, rfl, _, rfl, no_int (by decide) ⟨_, rfl, rfl, _, rfl, no_int (by decide) ⟨_, rfl, rfl, _, rfl, no_int (by decide) ⟨_, rfl, rfl, _, rfl, no_int (by decide) ⟨_, rfl, rfl, _, rfl, no_int (by decide) ⟨_, rfl, R, c, d, rfl, C, ok, k⟩⟩⟩⟩⟩⟩⟩
    | _ => exact absurd hok (by decide)
theorem ok_reading_question_answer (T : Txt K mg a D) : FnOk P w K mg base CX0 7 a.f_reading_question_answer D.d_reading_question_answer p_reading_question_answer (sp_reading_question_answer K a) := by
  refine T.F_reading_question_answer.ok sc_reading_question_answer (fun vs H Q E h => ?_) (fun cdv A outer s H vs Q E hr h => ?_)
  · obtain ⟨R, c, g, d, p, ns, x, rfl, _⟩ := h; rfl
  · obtain ⟨R, c, g, d, p, ns, x, rfl, hok, C, ok, hg, is, k⟩ := h
    refine ⟨_, (pss_cons (ps_if (pt_cmpR op_eq (pv 1) pe_int (nomark _))
        (pss_one (ps_ret (pe_call (ok_ny_soonest T) (hr.mono (by decide)) rfl T.g_ny_soonest T.F_ny_soonest.kp T.b_ny_soonest .nil pass0 (pa_cons (pv 0) pa_nil)))) pss_nil)
        (pss_cons (ps_if (pt_cmpR op_eq (pv 1) pe_int (nomark _))
        (pss_one (ps_ret (pe_call (ok_ny_latest T) (hr.mono (by decide)) rfl T.g_ny_latest T.F_ny_latest.kp T.b_ny_latest .nil pass0 (pa_cons (pv 0) pa_nil)))) pss_nil)
        (pss_cons (ps_if (pt_cmpR op_eq (pv 1) pe_int (nomark _))
        (pss_one (ps_ret (pe_call (ok_ny_count T) (hr.mono (by decide)) rfl T.g_ny_count T.F_ny_count.kp T.b_ny_count .nil pass0 (pa_cons (pv 0) pa_nil)))) pss_nil)
        (pss_cons (ps_if (pt_cmpR op_eq (pv 1) pe_int (nomark _))
        (pss_one (ps_ret (pe_call (ok_ny_sure T) (hr.mono (by decide)) rfl T.g_ny_sure T.F_ny_sure.kp T.b_ny_sure .nil pass0 (pa_cons (pv 0) pa_nil)))) pss_nil)
        (pss_cons (ps_if (pt_cmpR op_eq (pv 1) pe_int (nomark _))
        (pss_one (ps_ret (pe_call (ok_ny_when T) (hr.mono (by decide)) rfl T.g_ny_when T.F_ny_when.kp T.b_ny_when .nil pass0 (pa_cons (pv 0) (pa_cons (pe_ix ix_list (pv 2) pe_int (fun _ _ => rfl)) pa_nil))))) pss_nil)
        (pss_cons (ps_if (pt_cmpR op_eq (pv 1) pe_int (nomark _))
        (pss_one (ps_ret (pe_call (ok_ny_apart T) (hr.mono (by decide)) rfl T.g_ny_apart T.F_ny_apart.kp T.b_ny_apart .nil pass0 (pa_cons (pv 0) (pa_cons (pe_ix ix_list (pv 2) pe_int (fun _ _ => rfl)) (pa_cons (pe_ix ix_list (pv 2) pe_int (fun _ _ => rfl)) pa_nil)))))) pss_nil)
        (pss_cons (ps_if (pt_cmpR op_eq (pv 1) pe_int (nomark _))
        (pss_one (ps_ret (pe_call (ok_ny_one T) (hr.mono (by decide)) rfl T.g_ny_one T.F_ny_one.kp T.b_ny_one .nil pass0 (pa_cons (pv 0) pa_nil)))) pss_nil)
        (pss_cons (ps_if (pt_cmpR op_eq (pv 1) pe_int (nomark _))
        (pss_one (ps_ret (pe_call (ok_ny_rounds T) (hr.mono (by decide)) rfl T.g_ny_rounds T.F_ny_rounds.kp T.b_ny_rounds .nil pass0 (pa_cons (pv 0) (pa_cons (pe_ix ix_list (pv 2) pe_int (fun _ _ => rfl)) pa_nil))))) pss_nil)
        (pss_one (ps_ret (pe_call (ok_ny_could T) (hr.mono (by decide)) rfl T.g_ny_could T.F_ny_could.kp T.b_ny_could .nil pass0 (pa_cons (pv 0) (pa_cons (pe_ix ix_list (pv 2) pe_int (fun _ _ => rfl)) (pa_cons (pe_ix ix_list (pv 2) pe_int (fun _ _ => rfl)) pa_nil)))))))))))))), ?_⟩
    refine ⟨_, rfl, rfl, _, rfl, ?_⟩
    cases is with
    | soonest  => exact yes_int ⟨_, rfl, R, c, d, rfl, C, ok, k⟩
    | latest  => exact no_int (by decide) ⟨_, rfl, rfl, _, rfl, yes_int ⟨_, rfl, R, c, d, rfl, C, ok, k⟩⟩
    | count  => exact no_int (by decide) ⟨_, rfl, rfl, _, rfl, no_int (by decide) ⟨_, rfl, rfl, _, rfl, yes_int ⟨_, rfl, R, c, d, rfl, C, ok, k⟩⟩⟩
    | sure  => exact no_int (by decide) ⟨_, rfl, rfl, _, rfl, no_int (by decide) ⟨_, rfl, rfl, _, rfl, no_int (by decide) ⟨_, rfl, rfl, _, rfl, yes_int ⟨_, rfl, R, c, d, rfl, C, ok, k⟩⟩⟩⟩
    | when_ i => exact no_int (by decide) ⟨_, rfl, rfl, _, rfl, no_int (by decide) ⟨_, rfl, rfl, _, rfl, no_int (by decide) ⟨_, rfl, rfl, _, rfl, no_int (by decide) ⟨_, rfl, rfl, _, rfl, yes_int ⟨_, rfl, _, rfl, g, _, _, _, rfl, rfl, SqL.of hg, atI_nat (j := 0) rfl, i, R, c, d, rfl, C, ok, k⟩⟩⟩⟩⟩
    | apart i j => exact no_int (by decide) ⟨_, rfl, rfl, _, rfl, no_int (by decide) ⟨_, rfl, rfl, _, rfl, no_int (by decide) ⟨_, rfl, rfl, _, rfl, no_int (by decide) ⟨_, rfl, rfl, _, rfl, no_int (by decide) ⟨_, rfl, rfl, _, rfl, yes_int ⟨_, rfl, _, rfl, g, _, _, _, rfl, rfl, SqL.of hg, atI_nat (j := 0) rfl, _, rfl, g, _, _, _, rfl, rfl, SqL.of hg, atI_nat (j := 1) rfl, i, j, R, c, d, rfl, C, ok, k⟩⟩⟩⟩⟩⟩
    | one  => exact no_int (by decide) ⟨_, rfl, rfl, _, rfl, no_int (by decide) ⟨_, rfl, rfl, _, rfl, no_int (by decide) ⟨_, rfl, rfl, _, rfl, no_int (by decide) ⟨_, rfl, rfl, _, rfl, no_int (by decide) ⟨_, rfl, rfl, _, rfl, no_int (by decide) ⟨_, rfl, rfl, _, rfl, yes_int ⟨_, rfl, R, c, d, rfl, C, ok, k⟩⟩⟩⟩⟩⟩⟩
    | rounds i => exact no_int (by decide) ⟨_, rfl, rfl, _, rfl, no_int (by decide) ⟨_, rfl, rfl, _, rfl, no_int (by decide) ⟨_, rfl, rfl, _, rfl, no_int (by decide) ⟨_, rfl, rfl, _, rfl, no_int (by decide) ⟨_, rfl, rfl, _, rfl, no_int (by decide) ⟨_, rfl, rfl, _, rfl, no_int (by decide) ⟨_, rfl, rfl, _, rfl, yes_int ⟨_, rfl, _, rfl, g, _, _, _, rfl, rfl, SqL.of hg, atI_nat (j := 0) rfl, i, R, c, d, rfl, C, ok, k⟩⟩⟩⟩⟩⟩⟩⟩
    | could i y => exact no_int (by decide) ⟨_, rfl, rfl, _, rfl, no_int (by decide) ⟨_, rfl, rfl, _, rfl, no_int (by decide) ⟨_, rfl, rfl, _, rfl, no_int (by decide) ⟨_, rfl, rfl, _, rfl, no_int (by decide) ⟨_, rfl, rfl, _, rfl, no_int (by decide) ⟨_, rfl, rfl, _, rfl, no_int (by decide) ⟨_, rfl, rfl, _, rfl, no_int (by decide) ⟨_, rfl, _, rfl, g, _, _, _, rfl, rfl, SqL.of hg, atI_nat (j := 0) rfl, _, rfl, g, _, _, _, rfl, rfl, SqL.of hg, atI_nat (j := 1) rfl, i, y, R, c, d, rfl, C, ok, k⟩⟩⟩⟩⟩⟩⟩⟩
    | _ => exact absurd hok (by decide)
theorem ok_question_answer (T : Txt K mg a D) : FnOk P w K mg base CX0 5 a.f_question_answer D.d_question_answer p_question_answer (sp_question_answer K a) := by
  refine T.F_question_answer.ok sc_question_answer (fun vs H Q E h => ?_) (fun cdv A outer s H vs Q E hr h => ?_)
  · obtain ⟨R, c, g, d, p, ns, x, rfl, _⟩ := h; rfl
  · obtain ⟨R, c, g, d, p, ns, x, rfl, hok, C, ok, hg, is, k⟩ := h
    refine ⟨_, (pss_cons (ps_if (pt_cmpR op_eq (pv 1) pe_int (nomark _))
        (pss_one (ps_ret (pe_call (ok_ny_name T) (hr.mono (by decide)) rfl T.g_ny_name T.F_ny_name.kp T.b_ny_name .nil pass0 (pa_cons (pv 0) (pa_cons (pe_ix ix_list (pv 2) pe_int (fun _ _ => rfl)) pa_nil))))) pss_nil)
        (pss_cons (ps_if (pt_cmpR op_eq (pv 1) pe_int (nomark _))
        (pss_one (ps_ret (pe_call (ok_ny_years T) (hr.mono (by decide)) rfl T.g_ny_years T.F_ny_years.kp T.b_ny_years .nil pass0 (pa_cons (pv 0) (pa_cons (pe_ix ix_list (pv 2) pe_int (fun _ _ => rfl)) pa_nil))))) pss_nil)
        (pss_cons (ps_if (pt_cmpR op_eq (pv 1) pe_int (nomark _))
        (pss_one (ps_ret (pe_call (ok_ny_told T) (hr.mono (by decide)) rfl T.g_ny_told T.F_ny_told.kp T.b_ny_told .nil pass0 (pa_cons (pv 0) (pa_cons (pe_ix ix_list (pv 2) pe_int (fun _ _ => rfl)) pa_nil))))) pss_nil)
        (pss_one (ps_ret (pe_call (ok_ny_state T) (hr.mono (by decide)) rfl T.g_ny_state T.F_ny_state.kp T.b_ny_state .nil pass0 (pa_cons (pv 0) pa_nil))))))), ?_⟩
    refine ⟨_, rfl, rfl, _, rfl, ?_⟩
    cases is with
    | name y => exact yes_int ⟨_, rfl, _, rfl, g, _, _, _, rfl, rfl, SqL.of hg, atI_nat (j := 0) rfl, y, R, c, d, rfl, C, ok, k⟩
    | years i => exact no_int (by decide) ⟨_, rfl, rfl, _, rfl, yes_int ⟨_, rfl, _, rfl, g, _, _, _, rfl, rfl, SqL.of hg, atI_nat (j := 0) rfl, i, R, c, d, rfl, C, ok, k⟩⟩
    | told i => exact no_int (by decide) ⟨_, rfl, rfl, _, rfl, no_int (by decide) ⟨_, rfl, rfl, _, rfl, yes_int ⟨_, rfl, _, rfl, g, _, _, _, rfl, rfl, SqL.of hg, atI_nat (j := 0) rfl, i, R, c, d, rfl, C, ok, k⟩⟩⟩
    | state  => exact no_int (by decide) ⟨_, rfl, rfl, _, rfl, no_int (by decide) ⟨_, rfl, rfl, _, rfl, no_int (by decide) ⟨_, rfl, R, c, d, rfl, C, ok, k⟩⟩⟩
    | _ => exact absurd hok (by decide)
theorem ok_call_answer (T : Txt K mg a D) : FnOk P w K mg base CX0 8 a.f_call_answer D.d_call_answer p_call_answer (sp_call_answer K a) := by
  refine T.F_call_answer.ok sc_call_answer (fun vs H Q E h => ?_) (fun cdv A outer s H vs Q E hr h => ?_)
  · obtain ⟨R, c, g, d, p, ns, x, rfl, _⟩ := h; rfl
  · obtain ⟨R, c, g, d, p, ns, x, rfl, _, C, ok, hg, is, k⟩ := h
    refine ⟨_, (pss_cons (ps_if (pt_cmpR op_in_seq (pv 1) (pe_glob (v := .ref a.t_CHANGES) rfl T.g_CHANGES rfl) (by rfl))
        (pss_one (ps_ret (pe_call (ok_change_answer T) (hr.mono (by decide)) rfl T.g_change_answer T.F_change_answer.kp T.b_change_answer .nil pass0 (pa_cons (pv 0) (pa_cons (pv 1) (pa_cons (pv 2) pa_nil)))))) pss_nil)
        (pss_cons (ps_if (pt_cmpR op_in_seq (pv 1) (pe_glob (v := .ref a.t_READING_QUESTIONS) rfl T.g_READING_QUESTIONS rfl) (by rfl))
        (pss_one (ps_ret (pe_call (ok_reading_question_answer T) (hr.mono (by decide)) rfl T.g_reading_question_answer T.F_reading_question_answer.kp T.b_reading_question_answer .nil pass0 (pa_cons (pv 0) (pa_cons (pv 1) (pa_cons (pv 2) pa_nil)))))) pss_nil)
        (pss_one (ps_ret (pe_call (ok_question_answer T) (hr.mono (by decide)) rfl T.g_question_answer T.F_question_answer.kp T.b_question_answer .nil pass0 (pa_cons (pv 0) (pa_cons (pv 1) (pa_cons (pv 2) pa_nil)))))))), ?_⟩
    obtain ⟨n, rfl, hn⟩ := is_num is
    refine ⟨_, rfl, a.t_CHANGES, _, rfl, .inr (T.v_CHANGES _), rfl, rfl, _, rfl, ?_⟩
    refine ite2 (fun h1 => ?_) (fun h1 => ?_)
    · exact ⟨_, rfl, _, rfl, _, rfl, R, c, g, d, _, ns, x, rfl, (in_C hn).symm.trans h1, C, ok, hg, is, k⟩
    refine ⟨_, rfl, a.t_READING_QUESTIONS, _, rfl, .inr (T.v_READING_QUESTIONS _), rfl, rfl, _, rfl, ?_⟩
    refine ite2 (fun h2 => ?_) (fun h2 => ?_)
    · exact ⟨_, rfl, _, rfl, _, rfl, R, c, g, d, _, ns, x, rfl, in_R.symm.trans h2, C, ok, hg, is, k⟩
    · exact ⟨_, rfl, _, rfl, _, rfl, R, c, g, d, _, ns, x, rfl, in_Q hn (fun z => h1 ((in_C hn).trans z)) (fun z => h2 (in_R.trans z)), C, ok, hg, is, k⟩
/-- a list that is only read, is not the object's, and isn't L -/
def Out (K : PySem.W.Frag) (R : Rg) (L : Addr) (H : Hp) (l : Addr) (xs : List V) : Prop := (∃ o, H l = some o ∧ (∀ H2 : Hp, H2 l = some o → SqL K H2 l xs) ∧ ¬ R.im l ∧ ¬ R.mu l ∧ l ≠ L) ∨ ∀ H2 : Hp, SqL K H2 l xs
theorem Out.sq {R : Rg} {H : Hp} {l L : Addr} {xs : List V} (h : Out K R L H l xs) : SqL K H l xs := by
  rcases h with ⟨o, e, f, _⟩ | f
  · exact f H e
  · exact f H
theorem Out.kept {R R' : Rg} {H H' : Hp} {l L : Addr} {xs : List V} (h : Out K R L H l xs) (k : Kept R H R' H') : Out K R' L H' l xs := by
  rcases h with ⟨o, e, f, i, m, n⟩ | f
  · obtain ⟨e', i', m'⟩ := k l o e i m
    exact .inl ⟨o, e', f, i', m', n⟩
  · exact .inr f
theorem Out.same {R : Rg} {H H' : Hp} {l L : Addr} {xs : List V} (h : Out K R L H l xs) (k : ∀ o, l ≠ L → H l = some o → H' l = some o) : Out K R L H' l xs := by
  rcases h with ⟨o, e, f, i, m, n⟩ | f
  · exact .inl ⟨o, k o n e, f, i, m, n⟩
  · exact .inr f
theorem arity_at {p : Int} (h0 : 0 ≤ p) (h1 : p ≤ 20) : atI ([.int 4, .int 2, .int 0, .int 2, .int 1, .int 1, .int 1, .int 1, .int 0, .int 0, .int 0, .int 0, .int 1, .int 2, .int 0, .int 1, .int 2, .int 1, .int 0, .int 0, .int 0] : List V) p = some (.int ((ar p : Nat) : Int)) := by
  have : p = 0 ∨ p = 1 ∨ p = 2 ∨ p = 3 ∨ p = 4 ∨ p = 5 ∨ p = 6 ∨ p = 7 ∨ p = 8 ∨ p = 9 ∨ p = 10 ∨ p = 11 ∨ p = 12 ∨ p = 13 ∨ p = 14 ∨ p = 15 ∨ p = 16 ∨ p = 17 ∨ p = 18 ∨ p = 19 ∨ p = 20 := by omega
  rcases this with rfl | rfl | rfl | rfl | rfl | rfl | rfl | rfl | rfl | rfl | rfl | rfl | rfl | rfl | rfl | rfl | rfl | rfl | rfl | rfl | rfl <;> rfl
theorem cut_mid {xs : List V} {i j : Nat} (h : j ≤ xs.length) (hij : i ≤ j) : cutV xs (some (i : Int)) (some (j : Int)) = (xs.drop i).take (j - i) := by
  unfold cutV
  have h0 : HT.sIx xs.length 0 (some (i : Int)) = i := by
    show (if ((i : Nat) : Int) < 0 then (((i : Nat) : Int) + ((xs.length : Nat) : Int)).toNat else min ((i : Nat) : Int).toNat xs.length) = i
    rw [if_neg (by omega)]
    omega
  have h1 : HT.sIx xs.length xs.length (some (j : Int)) = j := by
    show (if ((j : Nat) : Int) < 0 then (((j : Nat) : Int) + ((xs.length : Nat) : Int)).toNat else min ((j : Nat) : Int).toNat xs.length) = j
    rw [if_neg (by omega)]
    omega
  rw [h0, h1]
theorem ok_answers (T : Txt K mg a D) : FnOk P w K mg base CX0 9 a.f_answers D.d_answers p_answers (sp_answers K a) := by
  refine T.F_answers.ok sc_answers (fun vs H Q E h => ?_) (fun cdv A outer s H vs Q E hr h => ?_)
  · obtain ⟨l, ns, rfl, _⟩ := h; rfl
  · obtain ⟨l, ns, rfl, hS, hlen, hask, k⟩ := h
    refine ⟨_, (pss_cons (ps_set (i := 1) sc_answers.nd rfl (Or.inl rfl) (pe_make0 T.mk_Chronicle (ok_Chronicle_init T) (hr.mono (by decide)) rfl T.g_Chronicle T.b_Chronicle_init .nil pass0))
        (pss_cons (ps_set (i := 2) sc_answers.nd rfl (Or.inl rfl) (pe_lst pa_nil))
        (pss_cons (ps_set (i := 3) sc_answers.nd rfl (Or.inl rfl) pe_int)
        (pss_cons (ps_while PassesOwn.never (pt_cmpR op_lt (pv 3) (pe_callB call_len_seq (by rfl) T.z_len PySem.boot_len (pa_cons (pv 0) pa_nil)) (nomark _))
        (pss_cons (ps_set (i := 4) sc_answers.nd rfl (Or.inl rfl) (pe_ix ix_list (pv 0) (pv 3) (fun _ _ => rfl)))
          (pss_cons (ps_set (i := 5) sc_answers.nd rfl (Or.inl rfl) (pe_op op_add (pe_op op_add (pv 3) pe_int) (pe_ix ix_tup (pe_glob (v := .ref a.t_NUMBERS_BEHIND) rfl T.g_NUMBERS_BEHIND rfl) (pv 4) (fun _ _ => rfl))))
          (pss_cons (ps_set (i := 6) sc_answers.nd rfl (Or.inl rfl) (pe_call (ok_call_answer T) (hr.mono (by decide)) rfl T.g_call_answer T.F_call_answer.kp T.b_call_answer .nil pass0 (pa_cons (pv 1) (pa_cons (pv 4) (pa_cons (pe_slice sl_list (pv 0) (po_some (pe_op op_add (pv 3) pe_int)) (po_some (pv 5))) pa_nil)))))
          (pss_cons (ps_expr (pe_bm PySem.F.plainAttrs_list PySem.F.slot_list_append PySem.F.type_list_append mt_append (pv 2) (pa_cons (pe_callB call_len_seq (by rfl) T.z_len PySem.boot_len (pa_cons (pv 6) pa_nil)) pa_nil)))
          (pss_cons (ps_expr (pe_bm PySem.F.plainAttrs_list PySem.F.slot_list_extend PySem.F.type_list_extend mt_extend (pv 2) (pa_cons (pv 6) pa_nil)))
          (pss_one (ps_set (i := 3) sc_answers.nd rfl (Or.inl rfl) (pv 5)))))))))
        (pss_one (ps_ret (pv 2))))))), ?_⟩
    obtain ⟨raw0, hraw, ht0, hans, hshort⟩ := asked_told hask
    intro c dx nc ndx nex
    refine ⟨c, dx, rfl, upd_same, fun R0 H0 C0 kp0 => ⟨rfl, ?_⟩⟩
    refine ⟨Nat.zero_le _, fun L hL => ?_⟩
    have hout : Out K R0 L H0 l (ns.map V.int) := by
      have tracked : ∀ o, H l = some o → H0 l = some o ∧ ¬ R0.im l ∧ ¬ R0.mu l := fun o e => by
        have n1 : l ≠ c := ne_of_none e nc
        exact kp0 l o (by rw [upd_ne n1, upd_ne (ne_of_none e ndx)]; exact e) n1
      rcases hS with (e | ⟨o, e⟩) | w
      · obtain ⟨e1, e2⟩ := tracked _ e
        exact .inl ⟨_, e1, fun H2 z => .inl (.inl z), e2.1, e2.2, ne_of_none e1 hL⟩
      · obtain ⟨e1, e2⟩ := tracked _ e
        exact .inl ⟨_, e1, fun H2 z => .inl (.inr ⟨o, z⟩), e2.1, e2.2, ne_of_none e1 hL⟩
      · exact .inr fun H2 => .inr w
    have sL := Same.new (o := .lst []) hL
    have outL : ¬ R0.im L ∧ ¬ R0.mu L := by
      obtain ⟨_, _, _, _, _, _, _, _, q⟩ := C0
      exact ⟨fun z => q.tr L (.inl z) hL, fun z => q.tr L (.inr z) hL⟩
    refine ⟨fun m σ H' => ∃ (v4 v5 v6 : Option V) (n : Nat) (s : Km498Neutral.S) (raw : List (List (List Int))) (acc : List Int) (R : Rg) (f : Nat), m = ns.length - n ∧ σ = [some (.ref l), some (.ref c), some (.ref L), some (.int ((n : Nat) : Int)), v4, v5, v6] ∧ n ≤ ns.length ∧
        Out K R L H' l (ns.map V.int) ∧ Chr a R H' c (desk s) ∧ DeskOk (desk s) ∧ H' L = some (.lst (acc.map V.int)) ∧ ¬ R.im L ∧ ¬ R.mu L ∧ Told s raw ∧ PyFlat.calls PyKm498.shape f (ns.drop n) = some raw ∧ PyKm498.answers ns = acc ++ rest s raw,
      ⟨_, none, none, none, 0, none, raw0, [], R0, ns.length, rfl, rfl, Nat.zero_le _, hout.same fun o _ => sL l o, C0.same sL, fresh_ok, upd_same, outL.1, outL.2, ht0, hraw, hans⟩, ?_⟩
    · rintro m σ H' ⟨v4, v5, v6, n, s, raw, acc, R, f, rfl, rfl, hn, hout, C, ok, hL', oi, om, ht, hraw, hans⟩
      refine ⟨_, rfl, _, rfl, l, _, rfl, .inl hout.sq, _, _, rfl, rfl, _, rfl, ?_⟩
      rcases calls_turn hraw with ⟨e0, rfl⟩ | ⟨p, r, cs, f', er, hp0, hp20, har, rfl, hraw'⟩
      · refine ite2 (fun h1 => ?_) (fun h1 => ?_)
        · have := dT h1
          rw [List.length_map] at this
          have h2 : (ns.drop n).length = ns.length - n := List.length_drop
          rw [e0] at h2
          simp only [List.length_nil] at h2
          omega
        · refine ⟨_, rfl, k _ _ ?_⟩
          rw [hans, rest_nil, List.append_nil]
          exact hL'
      · have hlt : n < ns.length := by
          have h2 : (ns.drop n).length = ns.length - n := List.length_drop
          rw [er] at h2
          simp only [List.length_cons] at h2
          omega
        refine ite2 (fun _ => ?_) (fun h1 => absurd (decide_eq_true (by rw [List.length_map]; omega)) h1)
        have hnp : ns[n]? = some p := by
          have : (ns.drop n)[0]? = some p := by rw [er]; rfl
          rw [List.getElem?_drop] at this
          exact this
        have hdr : ns.drop (n + 1) = r := by
          have := drop_more hnp
          rw [er] at this
          injection this with _ this
          exact this.symm
        have hrl : r.length = ns.length - (n + 1) := by rw [← hdr, List.length_drop]
        have hnV : (ns.map V.int)[n]? = some (V.int p) := by rw [List.getElem?_map, hnp]; rfl
        obtain ⟨ha1, hne⟩ := ht.head
        obtain ⟨x, hx⟩ := is_called ha1
        obtain ⟨ks, hks, is⟩ := is_of ha1 hx
        obtain ⟨st2, st1⟩ := step_act hx hne
        refine ⟨fun σ' H2 => ∃ (v4 v5 v6 : Option V) (n' : Nat) (s : Km498Neutral.S) (raw : List (List (List Int))) (acc : List Int) (R : Rg) (f : Nat), ns.length - n' < ns.length - n ∧ σ' = [some (.ref l), some (.ref c), some (.ref L), some (.int ((n' : Nat) : Int)), v4, v5, v6] ∧ n' ≤ ns.length ∧
          Out K R L H2 l (ns.map V.int) ∧ Chr a R H2 c (desk s) ∧ DeskOk (desk s) ∧ H2 L = some (.lst (acc.map V.int)) ∧ ¬ R.im L ∧ ¬ R.mu L ∧ Told s raw ∧ PyFlat.calls PyKm498.shape f (ns.drop n') = some raw ∧ PyKm498.answers ns = acc ++ rest s raw, ?_, ?_⟩
        · rintro σ' H2 ⟨v4, v5, v6, n', s, raw, acc, R, f, hlt', rest'⟩
          exact ⟨_, hlt', v4, v5, v6, n', s, raw, acc, R, f, rfl, rest'⟩
        · -- number = calls[at]
          refine ⟨_, rfl, _, rfl, l, _, _, _, rfl, rfl, hout.sq, atI_nat hnV, ?_⟩
          -- behind = at + 1 + NUMBERS_BEHIND[number]
          refine ⟨_, rfl, _, _, rfl, rfl, _, rfl, a.t_NUMBERS_BEHIND, _, _, _, rfl, rfl, T.v_NUMBERS_BEHIND _, arity_at hp0 hp20, _, _, rfl, rfl, ?_⟩
          -- answer = call_answer(chronicle, number, calls[at + 1:behind])
          refine ⟨_, rfl, _, rfl, _, rfl, _, rfl, _, _, rfl, rfl, _, rfl, _, rfl, _, rfl, l, _, rfl, hout.sq, fun g hg => ?_⟩
          have ecut : cutV (ns.map V.int) (some ((n : Int) + 1)) (some ((n : Int) + 1 + ((ar p : Nat) : Int))) = nI ks := by
            have e1 : ((n : Int) + 1 + ((ar p : Nat) : Int)) = ((n + 1 + ar p : Nat) : Int) := by omega
            have e2 : ((n : Int) + 1) = ((n + 1 : Nat) : Int) := by omega
            rw [e1, e2, cut_mid (by rw [List.length_map]; omega) (by omega), ← List.map_drop, hdr, Nat.add_sub_cancel_left, ← List.map_take, hks, ← nI_ints]
          have sg := Same.new (o := .lst (cutV (ns.map V.int) (some ((n : Int) + 1)) (some ((n : Int) + 1 + ((ar p : Nat) : Int))))) hg
          refine ⟨R, c, g, desk s, p, ks, x, rfl, rfl, C.same sg, ok, upd_same.trans (congrArg (fun z => some (HO.lst z)) ecut), is, fun R' H2 q C' kp hnew hq => ?_⟩
          have gL : H2 L = some (.lst (acc.map V.int)) ∧ ¬ R'.im L ∧ ¬ R'.mu L := kp L _ (sg _ _ hL') oi om
          have gl : Out K R' L H2 l (ns.map V.int) := (hout.same fun o _ => sg l o).kept kp
          have nqL : q ≠ L := hnew L _ (sg _ _ hL') oi om
          rw [← st2] at hq
          rw [← st1] at C'
          have hacc : acc.length + ((Km498Neutral.step s [p :: r.take (ar p)]).2.length + 1) ≤ 10000000 := by
            rw [hans, rest_cons, List.length_append, List.length_append, List.length_cons] at hshort
            omega
          -- answered.append(len(answer))
          refine ⟨_, rfl, .inl ⟨rfl, _, SqL.of gL.1⟩, _, rfl, q, _, rfl, .inl (SqL.of hq), L, _, _, rfl, rfl, gL.1, (by rw [List.length_map, sizeLine_eq]; omega), ?_⟩
          -- answered.extend(answer)
          refine ⟨_, rfl, .inl ⟨rfl, _, SqL.of upd_same⟩, _, rfl, L, q, _, _, rfl, rfl, upd_same, (upd_ne nqL).trans hq, (by rw [List.length_append, List.length_map, List.length_map, List.length_singleton, sizeLine_eq]; omega), ?_⟩
          -- at = behind
          refine ⟨_, rfl, ?_⟩
          refine ⟨some (.int p), some (.int ((n : Int) + 1 + ((ar p : Nat) : Int))), some (.ref q), n + 1 + ar p, (Km498Neutral.step s [p :: r.take (ar p)]).1, cs, acc ++ ((((Km498Neutral.step s [p :: r.take (ar p)]).2.length : Nat) : Int) :: (Km498Neutral.step s [p :: r.take (ar p)]).2), R', f', by omega, ?_, by omega, gl.same fun o nlL e => ?_, C'.frame fun b o z e => ?_, step_ok ok _, ?_, gL.2.1, gL.2.2, ht.tail, ?_, ?_⟩
          · have e1 : ((n : Int) + 1 + ((ar p : Nat) : Int)) = ((n + 1 + ar p : Nat) : Int) := by omega
            rw [← e1]
            rfl
          · rw [upd_ne nlL, upd_ne nlL]
            exact e
          · have nb : b ≠ L := by
              rintro rfl
              exact z.elim gL.2.1 gL.2.2
            rw [upd_ne nb, upd_ne nb]
            exact e
          · rw [upd_same, List.map_append, List.map_cons, List.length_map, List.append_assoc]
            rfl
          · rw [← hdr, List.drop_drop] at hraw'
            exact hraw'
          · rw [hans, rest_cons, List.append_assoc]
end
end Ry

set_option Elab.async false
set_option maxRecDepth 100000
set_option maxHeartbeats 8000000
namespace Ry
open PySem PySem.Spec PyProof.Rows L2 RyM
def spAns (K : PySem.W.Frag) : Sp := fun vs H Q _ => ∃ (l : Addr) (ns : List Int), vs = [.ref l] ∧ SqL K H l (ns.map V.int) ∧ ns.length ≤ 6000 ∧ PyKm498.answers_asked ns = true ∧
  ∀ (H' : Hp) (p : Addr), H' p = some (.lst ((PyKm498.answers ns).map V.int)) → Q (.ref p) H'
theorem all_mk {P : Program} {w : World} {K : PySem.W.Frag} {h : Heap} {mg : Str → Option Value} {fa : Addr} {c_History c_Entry c_Chronicle c_Span f_History_init f_History_note_change f_History_take_back f_History_do_again f_Entry_init f_Chronicle_init f_Chronicle_begin f_Chronicle_has_entry f_Chronicle_state f_Chronicle_return_to f_Chronicle_change_entries f_Chronicle_change_last_year f_Chronicle_change_known f_Chronicle_step_back f_Chronicle_step_again f_round_length f_year_name f_year_in_reign f_year_round f_told_years f_entry_years f_all_entry_years f_fits_as_last_year f_fits_as_start f_ny_start f_ny_tell f_ny_drop f_ny_know f_ny_forget f_ny_up_to f_ny_back f_ny_again f_ny_name f_ny_years f_ny_told f_ny_state f_Span_init f_Span_is_one_year f_first_later f_last_earlier f_soonest_reading f_latest_reading f_entry_spans f_ways_to_reach f_count_readings f_reading_answer f_all_spans f_ny_soonest f_ny_latest f_ny_count f_ny_sure f_ny_when f_ny_apart f_ny_one f_ny_rounds f_ny_could f_change_answer f_reading_question_answer f_question_answer f_call_answer f_answers t_CHANGES t_NUMBERS_BEHIND t_READING_QUESTIONS : Addr} (X : K.In h) (G : h.Ns mainGlobals mg) (hfa : mg "answers" = some (.ref fa))
    {od_History_init an_History_init od_History_note_change an_History_note_change od_History_take_back an_History_take_back od_History_do_again an_History_do_again od_Entry_init an_Entry_init od_Chronicle_init an_Chronicle_init od_Chronicle_begin an_Chronicle_begin od_Chronicle_has_entry an_Chronicle_has_entry od_Chronicle_state an_Chronicle_state od_Chronicle_return_to an_Chronicle_return_to od_Chronicle_change_entries an_Chronicle_change_entries od_Chronicle_change_last_year an_Chronicle_change_last_year od_Chronicle_change_known an_Chronicle_change_known od_Chronicle_step_back an_Chronicle_step_back od_Chronicle_step_again an_Chronicle_step_again od_round_length an_round_length od_year_name an_year_name od_year_in_reign an_year_in_reign od_year_round an_year_round od_told_years an_told_years od_entry_years an_entry_years od_all_entry_years an_all_entry_years od_fits_as_last_year an_fits_as_last_year od_fits_as_start an_fits_as_start od_ny_start an_ny_start od_ny_tell an_ny_tell od_ny_drop an_ny_drop od_ny_know an_ny_know od_ny_forget an_ny_forget od_ny_up_to an_ny_up_to od_ny_back an_ny_back od_ny_again an_ny_again od_ny_name an_ny_name od_ny_years an_ny_years od_ny_told an_ny_told od_ny_state an_ny_state od_Span_init an_Span_init od_Span_is_one_year an_Span_is_one_year od_first_later an_first_later od_last_earlier an_last_earlier od_soonest_reading an_soonest_reading od_latest_reading an_latest_reading od_entry_spans an_entry_spans od_ways_to_reach an_ways_to_reach od_count_readings an_count_readings od_reading_answer an_reading_answer od_all_spans an_all_spans od_ny_soonest an_ny_soonest od_ny_latest an_ny_latest od_ny_count an_ny_count od_ny_sure an_ny_sure od_ny_when an_ny_when od_ny_apart an_ny_apart od_ny_one an_ny_one od_ny_rounds an_ny_rounds od_ny_could an_ny_could od_change_answer an_change_answer od_reading_question_answer an_reading_question_answer od_question_answer an_question_answer od_call_answer an_call_answer od_answers an_answers od_CHANGES od_NUMBERS_BEHIND od_READING_QUESTIONS : Option Addr}
    {sl_History_init sl_History_note_change sl_History_take_back sl_History_do_again sl_Entry_init sl_Chronicle_init sl_Chronicle_begin sl_Chronicle_has_entry sl_Chronicle_state sl_Chronicle_return_to sl_Chronicle_change_entries sl_Chronicle_change_last_year sl_Chronicle_change_known sl_Chronicle_step_back sl_Chronicle_step_again sl_round_length sl_year_name sl_year_in_reign sl_year_round sl_told_years sl_entry_years sl_all_entry_years sl_fits_as_last_year sl_fits_as_start sl_ny_start sl_ny_tell sl_ny_drop sl_ny_know sl_ny_forget sl_ny_up_to sl_ny_back sl_ny_again sl_ny_name sl_ny_years sl_ny_told sl_ny_state sl_Span_init sl_Span_is_one_year sl_first_later sl_last_earlier sl_soonest_reading sl_latest_reading sl_entry_spans sl_ways_to_reach sl_count_readings sl_reading_answer sl_all_spans sl_ny_soonest sl_ny_latest sl_ny_count sl_ny_sure sl_ny_when sl_ny_apart sl_ny_one sl_ny_rounds sl_ny_could sl_change_answer sl_reading_question_answer sl_question_answer sl_call_answer sl_answers sl_CHANGES sl_NUMBERS_BEHIND sl_READING_QUESTIONS : Array (Option Value)}
    {oc_History_init kV_History_init dc_History_init pm_History_init cd_History_init ct_History_init oc_History_note_change kV_History_note_change dc_History_note_change pm_History_note_change cd_History_note_change ct_History_note_change oc_History_take_back kV_History_take_back dc_History_take_back pm_History_take_back cd_History_take_back ct_History_take_back oc_History_do_again kV_History_do_again dc_History_do_again pm_History_do_again cd_History_do_again ct_History_do_again oc_Entry_init kV_Entry_init dc_Entry_init pm_Entry_init cd_Entry_init ct_Entry_init oc_Chronicle_init kV_Chronicle_init dc_Chronicle_init pm_Chronicle_init cd_Chronicle_init ct_Chronicle_init oc_Chronicle_begin kV_Chronicle_begin dc_Chronicle_begin pm_Chronicle_begin cd_Chronicle_begin ct_Chronicle_begin oc_Chronicle_has_entry kV_Chronicle_has_entry dc_Chronicle_has_entry pm_Chronicle_has_entry cd_Chronicle_has_entry ct_Chronicle_has_entry oc_Chronicle_state kV_Chronicle_state dc_Chronicle_state pm_Chronicle_state cd_Chronicle_state ct_Chronicle_state oc_Chronicle_return_to kV_Chronicle_return_to dc_Chronicle_return_to pm_Chronicle_return_to cd_Chronicle_return_to ct_Chronicle_return_to oc_Chronicle_change_entries kV_Chronicle_change_entries dc_Chronicle_change_entries pm_Chronicle_change_entries cd_Chronicle_change_entries ct_Chronicle_change_entries oc_Chronicle_change_last_year kV_Chronicle_change_last_year dc_Chronicle_change_last_year pm_Chronicle_change_last_year cd_Chronicle_change_last_year ct_Chronicle_change_last_year oc_Chronicle_change_known kV_Chronicle_change_known dc_Chronicle_change_known pm_Chronicle_change_known cd_Chronicle_change_known ct_Chronicle_change_known oc_Chronicle_step_back kV_Chronicle_step_back dc_Chronicle_step_back pm_Chronicle_step_back cd_Chronicle_step_back ct_Chronicle_step_back oc_Chronicle_step_again kV_Chronicle_step_again dc_Chronicle_step_again pm_Chronicle_step_again cd_Chronicle_step_again ct_Chronicle_step_again oc_round_length kV_round_length dc_round_length pm_round_length cd_round_length ct_round_length oc_year_name kV_year_name dc_year_name pm_year_name cd_year_name ct_year_name oc_year_in_reign kV_year_in_reign dc_year_in_reign pm_year_in_reign cd_year_in_reign ct_year_in_reign oc_year_round kV_year_round dc_year_round pm_year_round cd_year_round ct_year_round oc_told_years kV_told_years dc_told_years pm_told_years cd_told_years ct_told_years oc_entry_years kV_entry_years dc_entry_years pm_entry_years cd_entry_years ct_entry_years oc_all_entry_years kV_all_entry_years dc_all_entry_years pm_all_entry_years cd_all_entry_years ct_all_entry_years oc_fits_as_last_year kV_fits_as_last_year dc_fits_as_last_year pm_fits_as_last_year cd_fits_as_last_year ct_fits_as_last_year oc_fits_as_start kV_fits_as_start dc_fits_as_start pm_fits_as_start cd_fits_as_start ct_fits_as_start oc_ny_start kV_ny_start dc_ny_start pm_ny_start cd_ny_start ct_ny_start oc_ny_tell kV_ny_tell dc_ny_tell pm_ny_tell cd_ny_tell ct_ny_tell oc_ny_drop kV_ny_drop dc_ny_drop pm_ny_drop cd_ny_drop ct_ny_drop oc_ny_know kV_ny_know dc_ny_know pm_ny_know cd_ny_know ct_ny_know oc_ny_forget kV_ny_forget dc_ny_forget pm_ny_forget cd_ny_forget ct_ny_forget oc_ny_up_to kV_ny_up_to dc_ny_up_to pm_ny_up_to cd_ny_up_to ct_ny_up_to oc_ny_back kV_ny_back dc_ny_back pm_ny_back cd_ny_back ct_ny_back oc_ny_again kV_ny_again dc_ny_again pm_ny_again cd_ny_again ct_ny_again oc_ny_name kV_ny_name dc_ny_name pm_ny_name cd_ny_name ct_ny_name oc_ny_years kV_ny_years dc_ny_years pm_ny_years cd_ny_years ct_ny_years oc_ny_told kV_ny_told dc_ny_told pm_ny_told cd_ny_told ct_ny_told oc_ny_state kV_ny_state dc_ny_state pm_ny_state cd_ny_state ct_ny_state oc_Span_init kV_Span_init dc_Span_init pm_Span_init cd_Span_init ct_Span_init oc_Span_is_one_year kV_Span_is_one_year dc_Span_is_one_year pm_Span_is_one_year cd_Span_is_one_year ct_Span_is_one_year oc_first_later kV_first_later dc_first_later pm_first_later cd_first_later ct_first_later oc_last_earlier kV_last_earlier dc_last_earlier pm_last_earlier cd_last_earlier ct_last_earlier oc_soonest_reading kV_soonest_reading dc_soonest_reading pm_soonest_reading cd_soonest_reading ct_soonest_reading oc_latest_reading kV_latest_reading dc_latest_reading pm_latest_reading cd_latest_reading ct_latest_reading oc_entry_spans kV_entry_spans dc_entry_spans pm_entry_spans cd_entry_spans ct_entry_spans oc_ways_to_reach kV_ways_to_reach dc_ways_to_reach pm_ways_to_reach cd_ways_to_reach ct_ways_to_reach oc_count_readings kV_count_readings dc_count_readings pm_count_readings cd_count_readings ct_count_readings oc_reading_answer kV_reading_answer dc_reading_answer pm_reading_answer cd_reading_answer ct_reading_answer oc_all_spans kV_all_spans dc_all_spans pm_all_spans cd_all_spans ct_all_spans oc_ny_soonest kV_ny_soonest dc_ny_soonest pm_ny_soonest cd_ny_soonest ct_ny_soonest oc_ny_latest kV_ny_latest dc_ny_latest pm_ny_latest cd_ny_latest ct_ny_latest oc_ny_count kV_ny_count dc_ny_count pm_ny_count cd_ny_count ct_ny_count oc_ny_sure kV_ny_sure dc_ny_sure pm_ny_sure cd_ny_sure ct_ny_sure oc_ny_when kV_ny_when dc_ny_when pm_ny_when cd_ny_when ct_ny_when oc_ny_apart kV_ny_apart dc_ny_apart pm_ny_apart cd_ny_apart ct_ny_apart oc_ny_one kV_ny_one dc_ny_one pm_ny_one cd_ny_one ct_ny_one oc_ny_rounds kV_ny_rounds dc_ny_rounds pm_ny_rounds cd_ny_rounds ct_ny_rounds oc_ny_could kV_ny_could dc_ny_could pm_ny_could cd_ny_could ct_ny_could oc_change_answer kV_change_answer dc_change_answer pm_change_answer cd_change_answer ct_change_answer oc_reading_question_answer kV_reading_question_answer dc_reading_question_answer pm_reading_question_answer cd_reading_question_answer ct_reading_question_answer oc_question_answer kV_question_answer dc_question_answer pm_question_answer cd_question_answer ct_question_answer oc_call_answer kV_call_answer dc_call_answer pm_call_answer cd_call_answer ct_call_answer oc_answers kV_answers dc_answers pm_answers cd_answers ct_answers : Value}
    {u_ALREADY_SO u_CANNOT_BE u_COUNTED_UP_TO u_FEWEST_NAMES u_FULL u_HIGHEST_FIRST_YEAR u_HIGHEST_YEAR u_MOST_CHANGES u_MOST_ENTRIES u_MOST_NAMES u_MOST_REIGN_YEARS u_NOTHING_TO_END u_NOT_THERE u_OUT_OF_BOUNDS u_CHANGES0 u_CHANGES1 u_CHANGES2 u_CHANGES3 u_CHANGES4 u_CHANGES5 u_CHANGES6 u_CHANGES7 u_NUMBERS_BEHIND0 u_NUMBERS_BEHIND1 u_NUMBERS_BEHIND2 u_NUMBERS_BEHIND3 u_NUMBERS_BEHIND4 u_NUMBERS_BEHIND5 u_NUMBERS_BEHIND6 u_NUMBERS_BEHIND7 u_NUMBERS_BEHIND8 u_NUMBERS_BEHIND9 u_NUMBERS_BEHIND10 u_NUMBERS_BEHIND11 u_NUMBERS_BEHIND12 u_NUMBERS_BEHIND13 u_NUMBERS_BEHIND14 u_NUMBERS_BEHIND15 u_NUMBERS_BEHIND16 u_NUMBERS_BEHIND17 u_NUMBERS_BEHIND18 u_NUMBERS_BEHIND19 u_NUMBERS_BEHIND20 u_READING_QUESTIONS0 u_READING_QUESTIONS1 u_READING_QUESTIONS2 u_READING_QUESTIONS3 u_READING_QUESTIONS4 u_READING_QUESTIONS5 u_READING_QUESTIONS6 u_READING_QUESTIONS7 u_READING_QUESTIONS8 : Tok}
    {n_CHANGES n_NUMBERS_BEHIND n_READING_QUESTIONS : Nat}
    (a_History : PySem.W.nsIn K mainGlobals "History" = some (some (.ref c_History)))
    (pg_History : PySem.W.plainGet K c_History Str.empty = true)
    (hd_History : PySem.W.hasDictIn K c_History = true)
    (po_History : PySem.W.plainOver K c_History = true)
    (sa_History : PySem.W.findIn K (.ref c_History) "__setattr__" = some (some (.builtin "object.__setattr__")))
    (mk_History : PySem.W.makesIn K c_History = true)
    (kc_History : PySem.W.keepIn K (.ref c_History) = true)
    (no_History_past : PySem.W.findIn K (.ref c_History) "past" = some none)
    (no_History_undone : PySem.W.findIn K (.ref c_History) "undone" = some none)
    (a_Entry : PySem.W.nsIn K mainGlobals "Entry" = some (some (.ref c_Entry)))
    (pg_Entry : PySem.W.plainGet K c_Entry Str.empty = true)
    (hd_Entry : PySem.W.hasDictIn K c_Entry = true)
    (po_Entry : PySem.W.plainOver K c_Entry = true)
    (sa_Entry : PySem.W.findIn K (.ref c_Entry) "__setattr__" = some (some (.builtin "object.__setattr__")))
    (mk_Entry : PySem.W.makesIn K c_Entry = true)
    (kc_Entry : PySem.W.keepIn K (.ref c_Entry) = true)
    (no_Entry_name : PySem.W.findIn K (.ref c_Entry) "name" = some none)
    (no_Entry_reign_year : PySem.W.findIn K (.ref c_Entry) "reign_year" = some none)
    (no_Entry_known : PySem.W.findIn K (.ref c_Entry) "known" = some none)
    (a_Chronicle : PySem.W.nsIn K mainGlobals "Chronicle" = some (some (.ref c_Chronicle)))
    (pg_Chronicle : PySem.W.plainGet K c_Chronicle Str.empty = true)
    (hd_Chronicle : PySem.W.hasDictIn K c_Chronicle = true)
    (po_Chronicle : PySem.W.plainOver K c_Chronicle = true)
    (sa_Chronicle : PySem.W.findIn K (.ref c_Chronicle) "__setattr__" = some (some (.builtin "object.__setattr__")))
    (mk_Chronicle : PySem.W.makesIn K c_Chronicle = true)
    (kc_Chronicle : PySem.W.keepIn K (.ref c_Chronicle) = true)
    (no_Chronicle_reign_length : PySem.W.findIn K (.ref c_Chronicle) "reign_length" = some none)
    (no_Chronicle_name_total : PySem.W.findIn K (.ref c_Chronicle) "name_total" = some none)
    (no_Chronicle_first_year : PySem.W.findIn K (.ref c_Chronicle) "first_year" = some none)
    (no_Chronicle_last_year : PySem.W.findIn K (.ref c_Chronicle) "last_year" = some none)
    (no_Chronicle_entries : PySem.W.findIn K (.ref c_Chronicle) "entries" = some none)
    (no_Chronicle_history : PySem.W.findIn K (.ref c_Chronicle) "history" = some none)
    (a_Span : PySem.W.nsIn K mainGlobals "Span" = some (some (.ref c_Span)))
    (pg_Span : PySem.W.plainGet K c_Span Str.empty = true)
    (hd_Span : PySem.W.hasDictIn K c_Span = true)
    (po_Span : PySem.W.plainOver K c_Span = true)
    (sa_Span : PySem.W.findIn K (.ref c_Span) "__setattr__" = some (some (.builtin "object.__setattr__")))
    (mk_Span : PySem.W.makesIn K c_Span = true)
    (kc_Span : PySem.W.keepIn K (.ref c_Span) = true)
    (no_Span_soonest : PySem.W.findIn K (.ref c_Span) "soonest" = some none)
    (no_Span_latest : PySem.W.findIn K (.ref c_Span) "latest" = some none)
    (a_History_init : PySem.W.findIn K (.ref c_History) "__init__" = some (some (.ref f_History_init)))
    (i_History_init : PySem.W.isFn K (.ref f_History_init) = true)
    (l_History_init : K.lookup f_History_init = some ⟨oc_History_init, od_History_init, .func (PySem.W.fnOf "__init__" "History.__init__" (defArgs s_History_init) (defBody s_History_init) (defScope s_History_init) .none kV_History_init dc_History_init pm_History_init an_History_init cd_History_init ct_History_init), sl_History_init⟩)
    (cc_History_init : PySem.W.codeIn K cd_History_init "History.__init__" = true)
    (k_History_init : PySem.W.keepIn K (.ref f_History_init) = true)
    (a_History_note_change : PySem.W.findIn K (.ref c_History) "note_change" = some (some (.ref f_History_note_change)))
    (i_History_note_change : PySem.W.isFn K (.ref f_History_note_change) = true)
    (l_History_note_change : K.lookup f_History_note_change = some ⟨oc_History_note_change, od_History_note_change, .func (PySem.W.fnOf "note_change" "History.note_change" (defArgs s_History_note_change) (defBody s_History_note_change) (defScope s_History_note_change) .none kV_History_note_change dc_History_note_change pm_History_note_change an_History_note_change cd_History_note_change ct_History_note_change), sl_History_note_change⟩)
    (cc_History_note_change : PySem.W.codeIn K cd_History_note_change "History.note_change" = true)
    (k_History_note_change : PySem.W.keepIn K (.ref f_History_note_change) = true)
    (a_History_take_back : PySem.W.findIn K (.ref c_History) "take_back" = some (some (.ref f_History_take_back)))
    (i_History_take_back : PySem.W.isFn K (.ref f_History_take_back) = true)
    (l_History_take_back : K.lookup f_History_take_back = some ⟨oc_History_take_back, od_History_take_back, .func (PySem.W.fnOf "take_back" "History.take_back" (defArgs s_History_take_back) (defBody s_History_take_back) (defScope s_History_take_back) .none kV_History_take_back dc_History_take_back pm_History_take_back an_History_take_back cd_History_take_back ct_History_take_back), sl_History_take_back⟩)
    (cc_History_take_back : PySem.W.codeIn K cd_History_take_back "History.take_back" = true)
    (k_History_take_back : PySem.W.keepIn K (.ref f_History_take_back) = true)
    (a_History_do_again : PySem.W.findIn K (.ref c_History) "do_again" = some (some (.ref f_History_do_again)))
    (i_History_do_again : PySem.W.isFn K (.ref f_History_do_again) = true)
    (l_History_do_again : K.lookup f_History_do_again = some ⟨oc_History_do_again, od_History_do_again, .func (PySem.W.fnOf "do_again" "History.do_again" (defArgs s_History_do_again) (defBody s_History_do_again) (defScope s_History_do_again) .none kV_History_do_again dc_History_do_again pm_History_do_again an_History_do_again cd_History_do_again ct_History_do_again), sl_History_do_again⟩)
    (cc_History_do_again : PySem.W.codeIn K cd_History_do_again "History.do_again" = true)
    (k_History_do_again : PySem.W.keepIn K (.ref f_History_do_again) = true)
    (a_Entry_init : PySem.W.findIn K (.ref c_Entry) "__init__" = some (some (.ref f_Entry_init)))
    (i_Entry_init : PySem.W.isFn K (.ref f_Entry_init) = true)
    (l_Entry_init : K.lookup f_Entry_init = some ⟨oc_Entry_init, od_Entry_init, .func (PySem.W.fnOf "__init__" "Entry.__init__" (defArgs s_Entry_init) (defBody s_Entry_init) (defScope s_Entry_init) .none kV_Entry_init dc_Entry_init pm_Entry_init an_Entry_init cd_Entry_init ct_Entry_init), sl_Entry_init⟩)
    (cc_Entry_init : PySem.W.codeIn K cd_Entry_init "Entry.__init__" = true)
    (k_Entry_init : PySem.W.keepIn K (.ref f_Entry_init) = true)
    (a_Chronicle_init : PySem.W.findIn K (.ref c_Chronicle) "__init__" = some (some (.ref f_Chronicle_init)))
    (i_Chronicle_init : PySem.W.isFn K (.ref f_Chronicle_init) = true)
    (l_Chronicle_init : K.lookup f_Chronicle_init = some ⟨oc_Chronicle_init, od_Chronicle_init, .func (PySem.W.fnOf "__init__" "Chronicle.__init__" (defArgs s_Chronicle_init) (defBody s_Chronicle_init) (defScope s_Chronicle_init) .none kV_Chronicle_init dc_Chronicle_init pm_Chronicle_init an_Chronicle_init cd_Chronicle_init ct_Chronicle_init), sl_Chronicle_init⟩)
    (cc_Chronicle_init : PySem.W.codeIn K cd_Chronicle_init "Chronicle.__init__" = true)
    (k_Chronicle_init : PySem.W.keepIn K (.ref f_Chronicle_init) = true)
    (a_Chronicle_begin : PySem.W.findIn K (.ref c_Chronicle) "begin" = some (some (.ref f_Chronicle_begin)))
    (i_Chronicle_begin : PySem.W.isFn K (.ref f_Chronicle_begin) = true)
    (l_Chronicle_begin : K.lookup f_Chronicle_begin = some ⟨oc_Chronicle_begin, od_Chronicle_begin, .func (PySem.W.fnOf "begin" "Chronicle.begin" (defArgs s_Chronicle_begin) (defBody s_Chronicle_begin) (defScope s_Chronicle_begin) .none kV_Chronicle_begin dc_Chronicle_begin pm_Chronicle_begin an_Chronicle_begin cd_Chronicle_begin ct_Chronicle_begin), sl_Chronicle_begin⟩)
    (cc_Chronicle_begin : PySem.W.codeIn K cd_Chronicle_begin "Chronicle.begin" = true)
    (k_Chronicle_begin : PySem.W.keepIn K (.ref f_Chronicle_begin) = true)
    (a_Chronicle_has_entry : PySem.W.findIn K (.ref c_Chronicle) "has_entry" = some (some (.ref f_Chronicle_has_entry)))
    (i_Chronicle_has_entry : PySem.W.isFn K (.ref f_Chronicle_has_entry) = true)
    (l_Chronicle_has_entry : K.lookup f_Chronicle_has_entry = some ⟨oc_Chronicle_has_entry, od_Chronicle_has_entry, .func (PySem.W.fnOf "has_entry" "Chronicle.has_entry" (defArgs s_Chronicle_has_entry) (defBody s_Chronicle_has_entry) (defScope s_Chronicle_has_entry) .none kV_Chronicle_has_entry dc_Chronicle_has_entry pm_Chronicle_has_entry an_Chronicle_has_entry cd_Chronicle_has_entry ct_Chronicle_has_entry), sl_Chronicle_has_entry⟩)
    (cc_Chronicle_has_entry : PySem.W.codeIn K cd_Chronicle_has_entry "Chronicle.has_entry" = true)
    (k_Chronicle_has_entry : PySem.W.keepIn K (.ref f_Chronicle_has_entry) = true)
    (a_Chronicle_state : PySem.W.findIn K (.ref c_Chronicle) "state" = some (some (.ref f_Chronicle_state)))
    (i_Chronicle_state : PySem.W.isFn K (.ref f_Chronicle_state) = true)
    (l_Chronicle_state : K.lookup f_Chronicle_state = some ⟨oc_Chronicle_state, od_Chronicle_state, .func (PySem.W.fnOf "state" "Chronicle.state" (defArgs s_Chronicle_state) (defBody s_Chronicle_state) (defScope s_Chronicle_state) .none kV_Chronicle_state dc_Chronicle_state pm_Chronicle_state an_Chronicle_state cd_Chronicle_state ct_Chronicle_state), sl_Chronicle_state⟩)
    (cc_Chronicle_state : PySem.W.codeIn K cd_Chronicle_state "Chronicle.state" = true)
    (k_Chronicle_state : PySem.W.keepIn K (.ref f_Chronicle_state) = true)
    (a_Chronicle_return_to : PySem.W.findIn K (.ref c_Chronicle) "return_to" = some (some (.ref f_Chronicle_return_to)))
    (i_Chronicle_return_to : PySem.W.isFn K (.ref f_Chronicle_return_to) = true)
    (l_Chronicle_return_to : K.lookup f_Chronicle_return_to = some ⟨oc_Chronicle_return_to, od_Chronicle_return_to, .func (PySem.W.fnOf "return_to" "Chronicle.return_to" (defArgs s_Chronicle_return_to) (defBody s_Chronicle_return_to) (defScope s_Chronicle_return_to) .none kV_Chronicle_return_to dc_Chronicle_return_to pm_Chronicle_return_to an_Chronicle_return_to cd_Chronicle_return_to ct_Chronicle_return_to), sl_Chronicle_return_to⟩)
    (cc_Chronicle_return_to : PySem.W.codeIn K cd_Chronicle_return_to "Chronicle.return_to" = true)
    (k_Chronicle_return_to : PySem.W.keepIn K (.ref f_Chronicle_return_to) = true)
    (a_Chronicle_change_entries : PySem.W.findIn K (.ref c_Chronicle) "change_entries" = some (some (.ref f_Chronicle_change_entries)))
    (i_Chronicle_change_entries : PySem.W.isFn K (.ref f_Chronicle_change_entries) = true)
    (l_Chronicle_change_entries : K.lookup f_Chronicle_change_entries = some ⟨oc_Chronicle_change_entries, od_Chronicle_change_entries, .func (PySem.W.fnOf "change_entries" "Chronicle.change_entries" (defArgs s_Chronicle_change_entries) (defBody s_Chronicle_change_entries) (defScope s_Chronicle_change_entries) .none kV_Chronicle_change_entries dc_Chronicle_change_entries pm_Chronicle_change_entries an_Chronicle_change_entries cd_Chronicle_change_entries ct_Chronicle_change_entries), sl_Chronicle_change_entries⟩)
    (cc_Chronicle_change_entries : PySem.W.codeIn K cd_Chronicle_change_entries "Chronicle.change_entries" = true)
    (k_Chronicle_change_entries : PySem.W.keepIn K (.ref f_Chronicle_change_entries) = true)
    (a_Chronicle_change_last_year : PySem.W.findIn K (.ref c_Chronicle) "change_last_year" = some (some (.ref f_Chronicle_change_last_year)))
    (i_Chronicle_change_last_year : PySem.W.isFn K (.ref f_Chronicle_change_last_year) = true)
    (l_Chronicle_change_last_year : K.lookup f_Chronicle_change_last_year = some ⟨oc_Chronicle_change_last_year, od_Chronicle_change_last_year, .func (PySem.W.fnOf "change_last_year" "Chronicle.change_last_year" (defArgs s_Chronicle_change_last_year) (defBody s_Chronicle_change_last_year) (defScope s_Chronicle_change_last_year) .none kV_Chronicle_change_last_year dc_Chronicle_change_last_year pm_Chronicle_change_last_year an_Chronicle_change_last_year cd_Chronicle_change_last_year ct_Chronicle_change_last_year), sl_Chronicle_change_last_year⟩)
    (cc_Chronicle_change_last_year : PySem.W.codeIn K cd_Chronicle_change_last_year "Chronicle.change_last_year" = true)
    (k_Chronicle_change_last_year : PySem.W.keepIn K (.ref f_Chronicle_change_last_year) = true)
    (a_Chronicle_change_known : PySem.W.findIn K (.ref c_Chronicle) "change_known" = some (some (.ref f_Chronicle_change_known)))
    (i_Chronicle_change_known : PySem.W.isFn K (.ref f_Chronicle_change_known) = true)
    (l_Chronicle_change_known : K.lookup f_Chronicle_change_known = some ⟨oc_Chronicle_change_known, od_Chronicle_change_known, .func (PySem.W.fnOf "change_known" "Chronicle.change_known" (defArgs s_Chronicle_change_known) (defBody s_Chronicle_change_known) (defScope s_Chronicle_change_known) .none kV_Chronicle_change_known dc_Chronicle_change_known pm_Chronicle_change_known an_Chronicle_change_known cd_Chronicle_change_known ct_Chronicle_change_known), sl_Chronicle_change_known⟩)
    (cc_Chronicle_change_known : PySem.W.codeIn K cd_Chronicle_change_known "Chronicle.change_known" = true)
    (k_Chronicle_change_known : PySem.W.keepIn K (.ref f_Chronicle_change_known) = true)
    (a_Chronicle_step_back : PySem.W.findIn K (.ref c_Chronicle) "step_back" = some (some (.ref f_Chronicle_step_back)))
    (i_Chronicle_step_back : PySem.W.isFn K (.ref f_Chronicle_step_back) = true)
    (l_Chronicle_step_back : K.lookup f_Chronicle_step_back = some ⟨oc_Chronicle_step_back, od_Chronicle_step_back, .func (PySem.W.fnOf "step_back" "Chronicle.step_back" (defArgs s_Chronicle_step_back) (defBody s_Chronicle_step_back) (defScope s_Chronicle_step_back) .none kV_Chronicle_step_back dc_Chronicle_step_back pm_Chronicle_step_back an_Chronicle_step_back cd_Chronicle_step_back ct_Chronicle_step_back), sl_Chronicle_step_back⟩)
    (cc_Chronicle_step_back : PySem.W.codeIn K cd_Chronicle_step_back "Chronicle.step_back" = true)
    (k_Chronicle_step_back : PySem.W.keepIn K (.ref f_Chronicle_step_back) = true)
    (a_Chronicle_step_again : PySem.W.findIn K (.ref c_Chronicle) "step_again" = some (some (.ref f_Chronicle_step_again)))
    (i_Chronicle_step_again : PySem.W.isFn K (.ref f_Chronicle_step_again) = true)
    (l_Chronicle_step_again : K.lookup f_Chronicle_step_again = some ⟨oc_Chronicle_step_again, od_Chronicle_step_again, .func (PySem.W.fnOf "step_again" "Chronicle.step_again" (defArgs s_Chronicle_step_again) (defBody s_Chronicle_step_again) (defScope s_Chronicle_step_again) .none kV_Chronicle_step_again dc_Chronicle_step_again pm_Chronicle_step_again an_Chronicle_step_again cd_Chronicle_step_again ct_Chronicle_step_again), sl_Chronicle_step_again⟩)
    (cc_Chronicle_step_again : PySem.W.codeIn K cd_Chronicle_step_again "Chronicle.step_again" = true)
    (k_Chronicle_step_again : PySem.W.keepIn K (.ref f_Chronicle_step_again) = true)
    (a_round_length : PySem.W.nsIn K mainGlobals "round_length" = some (some (.ref f_round_length)))
    (l_round_length : K.lookup f_round_length = some ⟨oc_round_length, od_round_length, .func (PySem.W.fnOf "round_length" "round_length" (defArgs s_round_length) (defBody s_round_length) (defScope s_round_length) .none kV_round_length dc_round_length pm_round_length an_round_length cd_round_length ct_round_length), sl_round_length⟩)
    (cc_round_length : PySem.W.codeIn K cd_round_length "round_length" = true)
    (k_round_length : PySem.W.keepIn K (.ref f_round_length) = true)
    (a_year_name : PySem.W.nsIn K mainGlobals "year_name" = some (some (.ref f_year_name)))
    (l_year_name : K.lookup f_year_name = some ⟨oc_year_name, od_year_name, .func (PySem.W.fnOf "year_name" "year_name" (defArgs s_year_name) (defBody s_year_name) (defScope s_year_name) .none kV_year_name dc_year_name pm_year_name an_year_name cd_year_name ct_year_name), sl_year_name⟩)
    (cc_year_name : PySem.W.codeIn K cd_year_name "year_name" = true)
    (k_year_name : PySem.W.keepIn K (.ref f_year_name) = true)
    (a_year_in_reign : PySem.W.nsIn K mainGlobals "year_in_reign" = some (some (.ref f_year_in_reign)))
    (l_year_in_reign : K.lookup f_year_in_reign = some ⟨oc_year_in_reign, od_year_in_reign, .func (PySem.W.fnOf "year_in_reign" "year_in_reign" (defArgs s_year_in_reign) (defBody s_year_in_reign) (defScope s_year_in_reign) .none kV_year_in_reign dc_year_in_reign pm_year_in_reign an_year_in_reign cd_year_in_reign ct_year_in_reign), sl_year_in_reign⟩)
    (cc_year_in_reign : PySem.W.codeIn K cd_year_in_reign "year_in_reign" = true)
    (k_year_in_reign : PySem.W.keepIn K (.ref f_year_in_reign) = true)
    (a_year_round : PySem.W.nsIn K mainGlobals "year_round" = some (some (.ref f_year_round)))
    (l_year_round : K.lookup f_year_round = some ⟨oc_year_round, od_year_round, .func (PySem.W.fnOf "year_round" "year_round" (defArgs s_year_round) (defBody s_year_round) (defScope s_year_round) .none kV_year_round dc_year_round pm_year_round an_year_round cd_year_round ct_year_round), sl_year_round⟩)
    (cc_year_round : PySem.W.codeIn K cd_year_round "year_round" = true)
    (k_year_round : PySem.W.keepIn K (.ref f_year_round) = true)
    (a_told_years : PySem.W.nsIn K mainGlobals "told_years" = some (some (.ref f_told_years)))
    (l_told_years : K.lookup f_told_years = some ⟨oc_told_years, od_told_years, .func (PySem.W.fnOf "told_years" "told_years" (defArgs s_told_years) (defBody s_told_years) (defScope s_told_years) .none kV_told_years dc_told_years pm_told_years an_told_years cd_told_years ct_told_years), sl_told_years⟩)
    (cc_told_years : PySem.W.codeIn K cd_told_years "told_years" = true)
    (k_told_years : PySem.W.keepIn K (.ref f_told_years) = true)
    (a_entry_years : PySem.W.nsIn K mainGlobals "entry_years" = some (some (.ref f_entry_years)))
    (l_entry_years : K.lookup f_entry_years = some ⟨oc_entry_years, od_entry_years, .func (PySem.W.fnOf "entry_years" "entry_years" (defArgs s_entry_years) (defBody s_entry_years) (defScope s_entry_years) .none kV_entry_years dc_entry_years pm_entry_years an_entry_years cd_entry_years ct_entry_years), sl_entry_years⟩)
    (cc_entry_years : PySem.W.codeIn K cd_entry_years "entry_years" = true)
    (k_entry_years : PySem.W.keepIn K (.ref f_entry_years) = true)
    (a_all_entry_years : PySem.W.nsIn K mainGlobals "all_entry_years" = some (some (.ref f_all_entry_years)))
    (l_all_entry_years : K.lookup f_all_entry_years = some ⟨oc_all_entry_years, od_all_entry_years, .func (PySem.W.fnOf "all_entry_years" "all_entry_years" (defArgs s_all_entry_years) (defBody s_all_entry_years) (defScope s_all_entry_years) .none kV_all_entry_years dc_all_entry_years pm_all_entry_years an_all_entry_years cd_all_entry_years ct_all_entry_years), sl_all_entry_years⟩)
    (cc_all_entry_years : PySem.W.codeIn K cd_all_entry_years "all_entry_years" = true)
    (k_all_entry_years : PySem.W.keepIn K (.ref f_all_entry_years) = true)
    (a_fits_as_last_year : PySem.W.nsIn K mainGlobals "fits_as_last_year" = some (some (.ref f_fits_as_last_year)))
    (l_fits_as_last_year : K.lookup f_fits_as_last_year = some ⟨oc_fits_as_last_year, od_fits_as_last_year, .func (PySem.W.fnOf "fits_as_last_year" "fits_as_last_year" (defArgs s_fits_as_last_year) (defBody s_fits_as_last_year) (defScope s_fits_as_last_year) .none kV_fits_as_last_year dc_fits_as_last_year pm_fits_as_last_year an_fits_as_last_year cd_fits_as_last_year ct_fits_as_last_year), sl_fits_as_last_year⟩)
    (cc_fits_as_last_year : PySem.W.codeIn K cd_fits_as_last_year "fits_as_last_year" = true)
    (k_fits_as_last_year : PySem.W.keepIn K (.ref f_fits_as_last_year) = true)
    (a_fits_as_start : PySem.W.nsIn K mainGlobals "fits_as_start" = some (some (.ref f_fits_as_start)))
    (l_fits_as_start : K.lookup f_fits_as_start = some ⟨oc_fits_as_start, od_fits_as_start, .func (PySem.W.fnOf "fits_as_start" "fits_as_start" (defArgs s_fits_as_start) (defBody s_fits_as_start) (defScope s_fits_as_start) .none kV_fits_as_start dc_fits_as_start pm_fits_as_start an_fits_as_start cd_fits_as_start ct_fits_as_start), sl_fits_as_start⟩)
    (cc_fits_as_start : PySem.W.codeIn K cd_fits_as_start "fits_as_start" = true)
    (k_fits_as_start : PySem.W.keepIn K (.ref f_fits_as_start) = true)
    (a_ny_start : PySem.W.nsIn K mainGlobals "ny_start" = some (some (.ref f_ny_start)))
    (l_ny_start : K.lookup f_ny_start = some ⟨oc_ny_start, od_ny_start, .func (PySem.W.fnOf "ny_start" "ny_start" (defArgs s_ny_start) (defBody s_ny_start) (defScope s_ny_start) .none kV_ny_start dc_ny_start pm_ny_start an_ny_start cd_ny_start ct_ny_start), sl_ny_start⟩)
    (cc_ny_start : PySem.W.codeIn K cd_ny_start "ny_start" = true)
    (k_ny_start : PySem.W.keepIn K (.ref f_ny_start) = true)
    (a_ny_tell : PySem.W.nsIn K mainGlobals "ny_tell" = some (some (.ref f_ny_tell)))
    (l_ny_tell : K.lookup f_ny_tell = some ⟨oc_ny_tell, od_ny_tell, .func (PySem.W.fnOf "ny_tell" "ny_tell" (defArgs s_ny_tell) (defBody s_ny_tell) (defScope s_ny_tell) .none kV_ny_tell dc_ny_tell pm_ny_tell an_ny_tell cd_ny_tell ct_ny_tell), sl_ny_tell⟩)
    (cc_ny_tell : PySem.W.codeIn K cd_ny_tell "ny_tell" = true)
    (k_ny_tell : PySem.W.keepIn K (.ref f_ny_tell) = true)
    (a_ny_drop : PySem.W.nsIn K mainGlobals "ny_drop" = some (some (.ref f_ny_drop)))
    (l_ny_drop : K.lookup f_ny_drop = some ⟨oc_ny_drop, od_ny_drop, .func (PySem.W.fnOf "ny_drop" "ny_drop" (defArgs s_ny_drop) (defBody s_ny_drop) (defScope s_ny_drop) .none kV_ny_drop dc_ny_drop pm_ny_drop an_ny_drop cd_ny_drop ct_ny_drop), sl_ny_drop⟩)
    (cc_ny_drop : PySem.W.codeIn K cd_ny_drop "ny_drop" = true)
    (k_ny_drop : PySem.W.keepIn K (.ref f_ny_drop) = true)
    (a_ny_know : PySem.W.nsIn K mainGlobals "ny_know" = some (some (.ref f_ny_know)))
    (l_ny_know : K.lookup f_ny_know = some ⟨oc_ny_know, od_ny_know, .func (PySem.W.fnOf "ny_know" "ny_know" (defArgs s_ny_know) (defBody s_ny_know) (defScope s_ny_know) .none kV_ny_know dc_ny_know pm_ny_know an_ny_know cd_ny_know ct_ny_know), sl_ny_know⟩)
    (cc_ny_know : PySem.W.codeIn K cd_ny_know "ny_know" = true)
    (k_ny_know : PySem.W.keepIn K (.ref f_ny_know) = true)
    (a_ny_forget : PySem.W.nsIn K mainGlobals "ny_forget" = some (some (.ref f_ny_forget)))
    (l_ny_forget : K.lookup f_ny_forget = some ⟨oc_ny_forget, od_ny_forget, .func (PySem.W.fnOf "ny_forget" "ny_forget" (defArgs s_ny_forget) (defBody s_ny_forget) (defScope s_ny_forget) .none kV_ny_forget dc_ny_forget pm_ny_forget an_ny_forget cd_ny_forget ct_ny_forget), sl_ny_forget⟩)
    (cc_ny_forget : PySem.W.codeIn K cd_ny_forget "ny_forget" = true)
    (k_ny_forget : PySem.W.keepIn K (.ref f_ny_forget) = true)
    (a_ny_up_to : PySem.W.nsIn K mainGlobals "ny_up_to" = some (some (.ref f_ny_up_to)))
    (l_ny_up_to : K.lookup f_ny_up_to = some ⟨oc_ny_up_to, od_ny_up_to, .func (PySem.W.fnOf "ny_up_to" "ny_up_to" (defArgs s_ny_up_to) (defBody s_ny_up_to) (defScope s_ny_up_to) .none kV_ny_up_to dc_ny_up_to pm_ny_up_to an_ny_up_to cd_ny_up_to ct_ny_up_to), sl_ny_up_to⟩)
    (cc_ny_up_to : PySem.W.codeIn K cd_ny_up_to "ny_up_to" = true)
    (k_ny_up_to : PySem.W.keepIn K (.ref f_ny_up_to) = true)
    (a_ny_back : PySem.W.nsIn K mainGlobals "ny_back" = some (some (.ref f_ny_back)))
    (l_ny_back : K.lookup f_ny_back = some ⟨oc_ny_back, od_ny_back, .func (PySem.W.fnOf "ny_back" "ny_back" (defArgs s_ny_back) (defBody s_ny_back) (defScope s_ny_back) .none kV_ny_back dc_ny_back pm_ny_back an_ny_back cd_ny_back ct_ny_back), sl_ny_back⟩)
    (cc_ny_back : PySem.W.codeIn K cd_ny_back "ny_back" = true)
    (k_ny_back : PySem.W.keepIn K (.ref f_ny_back) = true)
    (a_ny_again : PySem.W.nsIn K mainGlobals "ny_again" = some (some (.ref f_ny_again)))
    (l_ny_again : K.lookup f_ny_again = some ⟨oc_ny_again, od_ny_again, .func (PySem.W.fnOf "ny_again" "ny_again" (defArgs s_ny_again) (defBody s_ny_again) (defScope s_ny_again) .none kV_ny_again dc_ny_again pm_ny_again an_ny_again cd_ny_again ct_ny_again), sl_ny_again⟩)
    (cc_ny_again : PySem.W.codeIn K cd_ny_again "ny_again" = true)
    (k_ny_again : PySem.W.keepIn K (.ref f_ny_again) = true)
    (a_ny_name : PySem.W.nsIn K mainGlobals "ny_name" = some (some (.ref f_ny_name)))
    (l_ny_name : K.lookup f_ny_name = some ⟨oc_ny_name, od_ny_name, .func (PySem.W.fnOf "ny_name" "ny_name" (defArgs s_ny_name) (defBody s_ny_name) (defScope s_ny_name) .none kV_ny_name dc_ny_name pm_ny_name an_ny_name cd_ny_name ct_ny_name), sl_ny_name⟩)
    (cc_ny_name : PySem.W.codeIn K cd_ny_name "ny_name" = true)
    (k_ny_name : PySem.W.keepIn K (.ref f_ny_name) = true)
    (a_ny_years : PySem.W.nsIn K mainGlobals "ny_years" = some (some (.ref f_ny_years)))
    (l_ny_years : K.lookup f_ny_years = some ⟨oc_ny_years, od_ny_years, .func (PySem.W.fnOf "ny_years" "ny_years" (defArgs s_ny_years) (defBody s_ny_years) (defScope s_ny_years) .none kV_ny_years dc_ny_years pm_ny_years an_ny_years cd_ny_years ct_ny_years), sl_ny_years⟩)
    (cc_ny_years : PySem.W.codeIn K cd_ny_years "ny_years" = true)
    (k_ny_years : PySem.W.keepIn K (.ref f_ny_years) = true)
    (a_ny_told : PySem.W.nsIn K mainGlobals "ny_told" = some (some (.ref f_ny_told)))
    (l_ny_told : K.lookup f_ny_told = some ⟨oc_ny_told, od_ny_told, .func (PySem.W.fnOf "ny_told" "ny_told" (defArgs s_ny_told) (defBody s_ny_told) (defScope s_ny_told) .none kV_ny_told dc_ny_told pm_ny_told an_ny_told cd_ny_told ct_ny_told), sl_ny_told⟩)
    (cc_ny_told : PySem.W.codeIn K cd_ny_told "ny_told" = true)
    (k_ny_told : PySem.W.keepIn K (.ref f_ny_told) = true)
    (a_ny_state : PySem.W.nsIn K mainGlobals "ny_state" = some (some (.ref f_ny_state)))
    (l_ny_state : K.lookup f_ny_state = some ⟨oc_ny_state, od_ny_state, .func (PySem.W.fnOf "ny_state" "ny_state" (defArgs s_ny_state) (defBody s_ny_state) (defScope s_ny_state) .none kV_ny_state dc_ny_state pm_ny_state an_ny_state cd_ny_state ct_ny_state), sl_ny_state⟩)
    (cc_ny_state : PySem.W.codeIn K cd_ny_state "ny_state" = true)
    (k_ny_state : PySem.W.keepIn K (.ref f_ny_state) = true)
    (a_Span_init : PySem.W.findIn K (.ref c_Span) "__init__" = some (some (.ref f_Span_init)))
    (i_Span_init : PySem.W.isFn K (.ref f_Span_init) = true)
    (l_Span_init : K.lookup f_Span_init = some ⟨oc_Span_init, od_Span_init, .func (PySem.W.fnOf "__init__" "Span.__init__" (defArgs s_Span_init) (defBody s_Span_init) (defScope s_Span_init) .none kV_Span_init dc_Span_init pm_Span_init an_Span_init cd_Span_init ct_Span_init), sl_Span_init⟩)
    (cc_Span_init : PySem.W.codeIn K cd_Span_init "Span.__init__" = true)
    (k_Span_init : PySem.W.keepIn K (.ref f_Span_init) = true)
    (a_Span_is_one_year : PySem.W.findIn K (.ref c_Span) "is_one_year" = some (some (.ref f_Span_is_one_year)))
    (i_Span_is_one_year : PySem.W.isFn K (.ref f_Span_is_one_year) = true)
    (l_Span_is_one_year : K.lookup f_Span_is_one_year = some ⟨oc_Span_is_one_year, od_Span_is_one_year, .func (PySem.W.fnOf "is_one_year" "Span.is_one_year" (defArgs s_Span_is_one_year) (defBody s_Span_is_one_year) (defScope s_Span_is_one_year) .none kV_Span_is_one_year dc_Span_is_one_year pm_Span_is_one_year an_Span_is_one_year cd_Span_is_one_year ct_Span_is_one_year), sl_Span_is_one_year⟩)
    (cc_Span_is_one_year : PySem.W.codeIn K cd_Span_is_one_year "Span.is_one_year" = true)
    (k_Span_is_one_year : PySem.W.keepIn K (.ref f_Span_is_one_year) = true)
    (a_first_later : PySem.W.nsIn K mainGlobals "first_later" = some (some (.ref f_first_later)))
    (l_first_later : K.lookup f_first_later = some ⟨oc_first_later, od_first_later, .func (PySem.W.fnOf "first_later" "first_later" (defArgs s_first_later) (defBody s_first_later) (defScope s_first_later) .none kV_first_later dc_first_later pm_first_later an_first_later cd_first_later ct_first_later), sl_first_later⟩)
    (cc_first_later : PySem.W.codeIn K cd_first_later "first_later" = true)
    (k_first_later : PySem.W.keepIn K (.ref f_first_later) = true)
    (a_last_earlier : PySem.W.nsIn K mainGlobals "last_earlier" = some (some (.ref f_last_earlier)))
    (l_last_earlier : K.lookup f_last_earlier = some ⟨oc_last_earlier, od_last_earlier, .func (PySem.W.fnOf "last_earlier" "last_earlier" (defArgs s_last_earlier) (defBody s_last_earlier) (defScope s_last_earlier) .none kV_last_earlier dc_last_earlier pm_last_earlier an_last_earlier cd_last_earlier ct_last_earlier), sl_last_earlier⟩)
    (cc_last_earlier : PySem.W.codeIn K cd_last_earlier "last_earlier" = true)
    (k_last_earlier : PySem.W.keepIn K (.ref f_last_earlier) = true)
    (a_soonest_reading : PySem.W.nsIn K mainGlobals "soonest_reading" = some (some (.ref f_soonest_reading)))
    (l_soonest_reading : K.lookup f_soonest_reading = some ⟨oc_soonest_reading, od_soonest_reading, .func (PySem.W.fnOf "soonest_reading" "soonest_reading" (defArgs s_soonest_reading) (defBody s_soonest_reading) (defScope s_soonest_reading) .none kV_soonest_reading dc_soonest_reading pm_soonest_reading an_soonest_reading cd_soonest_reading ct_soonest_reading), sl_soonest_reading⟩)
    (cc_soonest_reading : PySem.W.codeIn K cd_soonest_reading "soonest_reading" = true)
    (k_soonest_reading : PySem.W.keepIn K (.ref f_soonest_reading) = true)
    (a_latest_reading : PySem.W.nsIn K mainGlobals "latest_reading" = some (some (.ref f_latest_reading)))
    (l_latest_reading : K.lookup f_latest_reading = some ⟨oc_latest_reading, od_latest_reading, .func (PySem.W.fnOf "latest_reading" "latest_reading" (defArgs s_latest_reading) (defBody s_latest_reading) (defScope s_latest_reading) .none kV_latest_reading dc_latest_reading pm_latest_reading an_latest_reading cd_latest_reading ct_latest_reading), sl_latest_reading⟩)
    (cc_latest_reading : PySem.W.codeIn K cd_latest_reading "latest_reading" = true)
    (k_latest_reading : PySem.W.keepIn K (.ref f_latest_reading) = true)
    (a_entry_spans : PySem.W.nsIn K mainGlobals "entry_spans" = some (some (.ref f_entry_spans)))
    (l_entry_spans : K.lookup f_entry_spans = some ⟨oc_entry_spans, od_entry_spans, .func (PySem.W.fnOf "entry_spans" "entry_spans" (defArgs s_entry_spans) (defBody s_entry_spans) (defScope s_entry_spans) .none kV_entry_spans dc_entry_spans pm_entry_spans an_entry_spans cd_entry_spans ct_entry_spans), sl_entry_spans⟩)
    (cc_entry_spans : PySem.W.codeIn K cd_entry_spans "entry_spans" = true)
    (k_entry_spans : PySem.W.keepIn K (.ref f_entry_spans) = true)
    (a_ways_to_reach : PySem.W.nsIn K mainGlobals "ways_to_reach" = some (some (.ref f_ways_to_reach)))
    (l_ways_to_reach : K.lookup f_ways_to_reach = some ⟨oc_ways_to_reach, od_ways_to_reach, .func (PySem.W.fnOf "ways_to_reach" "ways_to_reach" (defArgs s_ways_to_reach) (defBody s_ways_to_reach) (defScope s_ways_to_reach) .none kV_ways_to_reach dc_ways_to_reach pm_ways_to_reach an_ways_to_reach cd_ways_to_reach ct_ways_to_reach), sl_ways_to_reach⟩)
    (cc_ways_to_reach : PySem.W.codeIn K cd_ways_to_reach "ways_to_reach" = true)
    (k_ways_to_reach : PySem.W.keepIn K (.ref f_ways_to_reach) = true)
    (a_count_readings : PySem.W.nsIn K mainGlobals "count_readings" = some (some (.ref f_count_readings)))
    (l_count_readings : K.lookup f_count_readings = some ⟨oc_count_readings, od_count_readings, .func (PySem.W.fnOf "count_readings" "count_readings" (defArgs s_count_readings) (defBody s_count_readings) (defScope s_count_readings) .none kV_count_readings dc_count_readings pm_count_readings an_count_readings cd_count_readings ct_count_readings), sl_count_readings⟩)
    (cc_count_readings : PySem.W.codeIn K cd_count_readings "count_readings" = true)
    (k_count_readings : PySem.W.keepIn K (.ref f_count_readings) = true)
    (a_reading_answer : PySem.W.nsIn K mainGlobals "reading_answer" = some (some (.ref f_reading_answer)))
    (l_reading_answer : K.lookup f_reading_answer = some ⟨oc_reading_answer, od_reading_answer, .func (PySem.W.fnOf "reading_answer" "reading_answer" (defArgs s_reading_answer) (defBody s_reading_answer) (defScope s_reading_answer) .none kV_reading_answer dc_reading_answer pm_reading_answer an_reading_answer cd_reading_answer ct_reading_answer), sl_reading_answer⟩)
    (cc_reading_answer : PySem.W.codeIn K cd_reading_answer "reading_answer" = true)
    (k_reading_answer : PySem.W.keepIn K (.ref f_reading_answer) = true)
    (a_all_spans : PySem.W.nsIn K mainGlobals "all_spans" = some (some (.ref f_all_spans)))
    (l_all_spans : K.lookup f_all_spans = some ⟨oc_all_spans, od_all_spans, .func (PySem.W.fnOf "all_spans" "all_spans" (defArgs s_all_spans) (defBody s_all_spans) (defScope s_all_spans) .none kV_all_spans dc_all_spans pm_all_spans an_all_spans cd_all_spans ct_all_spans), sl_all_spans⟩)
    (cc_all_spans : PySem.W.codeIn K cd_all_spans "all_spans" = true)
    (k_all_spans : PySem.W.keepIn K (.ref f_all_spans) = true)
    (a_ny_soonest : PySem.W.nsIn K mainGlobals "ny_soonest" = some (some (.ref f_ny_soonest)))
    (l_ny_soonest : K.lookup f_ny_soonest = some ⟨oc_ny_soonest, od_ny_soonest, .func (PySem.W.fnOf "ny_soonest" "ny_soonest" (defArgs s_ny_soonest) (defBody s_ny_soonest) (defScope s_ny_soonest) .none kV_ny_soonest dc_ny_soonest pm_ny_soonest an_ny_soonest cd_ny_soonest ct_ny_soonest), sl_ny_soonest⟩)
    (cc_ny_soonest : PySem.W.codeIn K cd_ny_soonest "ny_soonest" = true)
    (k_ny_soonest : PySem.W.keepIn K (.ref f_ny_soonest) = true)
    (a_ny_latest : PySem.W.nsIn K mainGlobals "ny_latest" = some (some (.ref f_ny_latest)))
    (l_ny_latest : K.lookup f_ny_latest = some ⟨oc_ny_latest, od_ny_latest, .func (PySem.W.fnOf "ny_latest" "ny_latest" (defArgs s_ny_latest) (defBody s_ny_latest) (defScope s_ny_latest) .none kV_ny_latest dc_ny_latest pm_ny_latest an_ny_latest cd_ny_latest ct_ny_latest), sl_ny_latest⟩)
    (cc_ny_latest : PySem.W.codeIn K cd_ny_latest "ny_latest" = true)
    (k_ny_latest : PySem.W.keepIn K (.ref f_ny_latest) = true)
    (a_ny_count : PySem.W.nsIn K mainGlobals "ny_count" = some (some (.ref f_ny_count)))
    (l_ny_count : K.lookup f_ny_count = some ⟨oc_ny_count, od_ny_count, .func (PySem.W.fnOf "ny_count" "ny_count" (defArgs s_ny_count) (defBody s_ny_count) (defScope s_ny_count) .none kV_ny_count dc_ny_count pm_ny_count an_ny_count cd_ny_count ct_ny_count), sl_ny_count⟩)
    (cc_ny_count : PySem.W.codeIn K cd_ny_count "ny_count" = true)
    (k_ny_count : PySem.W.keepIn K (.ref f_ny_count) = true)
    (a_ny_sure : PySem.W.nsIn K mainGlobals "ny_sure" = some (some (.ref f_ny_sure)))
    (l_ny_sure : K.lookup f_ny_sure = some ⟨oc_ny_sure, od_ny_sure, .func (PySem.W.fnOf "ny_sure" "ny_sure" (defArgs s_ny_sure) (defBody s_ny_sure) (defScope s_ny_sure) .none kV_ny_sure dc_ny_sure pm_ny_sure an_ny_sure cd_ny_sure ct_ny_sure), sl_ny_sure⟩)
    (cc_ny_sure : PySem.W.codeIn K cd_ny_sure "ny_sure" = true)
    (k_ny_sure : PySem.W.keepIn K (.ref f_ny_sure) = true)
    (a_ny_when : PySem.W.nsIn K mainGlobals "ny_when" = some (some (.ref f_ny_when)))
    (l_ny_when : K.lookup f_ny_when = some ⟨oc_ny_when, od_ny_when, .func (PySem.W.fnOf "ny_when" "ny_when" (defArgs s_ny_when) (defBody s_ny_when) (defScope s_ny_when) .none kV_ny_when dc_ny_when pm_ny_when an_ny_when cd_ny_when ct_ny_when), sl_ny_when⟩)
    (cc_ny_when : PySem.W.codeIn K cd_ny_when "ny_when" = true)
    (k_ny_when : PySem.W.keepIn K (.ref f_ny_when) = true)
    (a_ny_apart : PySem.W.nsIn K mainGlobals "ny_apart" = some (some (.ref f_ny_apart)))
    (l_ny_apart : K.lookup f_ny_apart = some ⟨oc_ny_apart, od_ny_apart, .func (PySem.W.fnOf "ny_apart" "ny_apart" (defArgs s_ny_apart) (defBody s_ny_apart) (defScope s_ny_apart) .none kV_ny_apart dc_ny_apart pm_ny_apart an_ny_apart cd_ny_apart ct_ny_apart), sl_ny_apart⟩)
    (cc_ny_apart : PySem.W.codeIn K cd_ny_apart "ny_apart" = true)
    (k_ny_apart : PySem.W.keepIn K (.ref f_ny_apart) = true)
    (a_ny_one : PySem.W.nsIn K mainGlobals "ny_one" = some (some (.ref f_ny_one)))
    (l_ny_one : K.lookup f_ny_one = some ⟨oc_ny_one, od_ny_one, .func (PySem.W.fnOf "ny_one" "ny_one" (defArgs s_ny_one) (defBody s_ny_one) (defScope s_ny_one) .none kV_ny_one dc_ny_one pm_ny_one an_ny_one cd_ny_one ct_ny_one), sl_ny_one⟩)
    (cc_ny_one : PySem.W.codeIn K cd_ny_one "ny_one" = true)
    (k_ny_one : PySem.W.keepIn K (.ref f_ny_one) = true)
    (a_ny_rounds : PySem.W.nsIn K mainGlobals "ny_rounds" = some (some (.ref f_ny_rounds)))
    (l_ny_rounds : K.lookup f_ny_rounds = some ⟨oc_ny_rounds, od_ny_rounds, .func (PySem.W.fnOf "ny_rounds" "ny_rounds" (defArgs s_ny_rounds) (defBody s_ny_rounds) (defScope s_ny_rounds) .none kV_ny_rounds dc_ny_rounds pm_ny_rounds an_ny_rounds cd_ny_rounds ct_ny_rounds), sl_ny_rounds⟩)
    (cc_ny_rounds : PySem.W.codeIn K cd_ny_rounds "ny_rounds" = true)
    (k_ny_rounds : PySem.W.keepIn K (.ref f_ny_rounds) = true)
    (a_ny_could : PySem.W.nsIn K mainGlobals "ny_could" = some (some (.ref f_ny_could)))
    (l_ny_could : K.lookup f_ny_could = some ⟨oc_ny_could, od_ny_could, .func (PySem.W.fnOf "ny_could" "ny_could" (defArgs s_ny_could) (defBody s_ny_could) (defScope s_ny_could) .none kV_ny_could dc_ny_could pm_ny_could an_ny_could cd_ny_could ct_ny_could), sl_ny_could⟩)
    (cc_ny_could : PySem.W.codeIn K cd_ny_could "ny_could" = true)
    (k_ny_could : PySem.W.keepIn K (.ref f_ny_could) = true)
    (a_change_answer : PySem.W.nsIn K mainGlobals "change_answer" = some (some (.ref f_change_answer)))
    (l_change_answer : K.lookup f_change_answer = some ⟨oc_change_answer, od_change_answer, .func (PySem.W.fnOf "change_answer" "change_answer" (defArgs s_change_answer) (defBody s_change_answer) (defScope s_change_answer) .none kV_change_answer dc_change_answer pm_change_answer an_change_answer cd_change_answer ct_change_answer), sl_change_answer⟩)
    (cc_change_answer : PySem.W.codeIn K cd_change_answer "change_answer" = true)
    (k_change_answer : PySem.W.keepIn K (.ref f_change_answer) = true)
    (a_reading_question_answer : PySem.W.nsIn K mainGlobals "reading_question_answer" = some (some (.ref f_reading_question_answer)))
    (l_reading_question_answer : K.lookup f_reading_question_answer = some ⟨oc_reading_question_answer, od_reading_question_answer, .func (PySem.W.fnOf "reading_question_answer" "reading_question_answer" (defArgs s_reading_question_answer) (defBody s_reading_question_answer) (defScope s_reading_question_answer) .none kV_reading_question_answer dc_reading_question_answer pm_reading_question_answer an_reading_question_answer cd_reading_question_answer ct_reading_question_answer), sl_reading_question_answer⟩)
    (cc_reading_question_answer : PySem.W.codeIn K cd_reading_question_answer "reading_question_answer" = true)
    (k_reading_question_answer : PySem.W.keepIn K (.ref f_reading_question_answer) = true)
    (a_question_answer : PySem.W.nsIn K mainGlobals "question_answer" = some (some (.ref f_question_answer)))
    (l_question_answer : K.lookup f_question_answer = some ⟨oc_question_answer, od_question_answer, .func (PySem.W.fnOf "question_answer" "question_answer" (defArgs s_question_answer) (defBody s_question_answer) (defScope s_question_answer) .none kV_question_answer dc_question_answer pm_question_answer an_question_answer cd_question_answer ct_question_answer), sl_question_answer⟩)
    (cc_question_answer : PySem.W.codeIn K cd_question_answer "question_answer" = true)
    (k_question_answer : PySem.W.keepIn K (.ref f_question_answer) = true)
    (a_call_answer : PySem.W.nsIn K mainGlobals "call_answer" = some (some (.ref f_call_answer)))
    (l_call_answer : K.lookup f_call_answer = some ⟨oc_call_answer, od_call_answer, .func (PySem.W.fnOf "call_answer" "call_answer" (defArgs s_call_answer) (defBody s_call_answer) (defScope s_call_answer) .none kV_call_answer dc_call_answer pm_call_answer an_call_answer cd_call_answer ct_call_answer), sl_call_answer⟩)
    (cc_call_answer : PySem.W.codeIn K cd_call_answer "call_answer" = true)
    (k_call_answer : PySem.W.keepIn K (.ref f_call_answer) = true)
    (a_answers : PySem.W.nsIn K mainGlobals "answers" = some (some (.ref f_answers)))
    (l_answers : K.lookup f_answers = some ⟨oc_answers, od_answers, .func (PySem.W.fnOf "answers" "answers" (defArgs s_answers) (defBody s_answers) (defScope s_answers) .none kV_answers dc_answers pm_answers an_answers cd_answers ct_answers), sl_answers⟩)
    (cc_answers : PySem.W.codeIn K cd_answers "answers" = true)
    (k_answers : PySem.W.keepIn K (.ref f_answers) = true)
    (g_ALREADY_SO : PySem.W.nsIn K mainGlobals "ALREADY_SO" = some (some (.int (-17) u_ALREADY_SO)))
    (g_CANNOT_BE : PySem.W.nsIn K mainGlobals "CANNOT_BE" = some (some (.int (-33) u_CANNOT_BE)))
    (g_COUNTED_UP_TO : PySem.W.nsIn K mainGlobals "COUNTED_UP_TO" = some (some (.int (1000000007) u_COUNTED_UP_TO)))
    (g_FEWEST_NAMES : PySem.W.nsIn K mainGlobals "FEWEST_NAMES" = some (some (.int (2) u_FEWEST_NAMES)))
    (g_FULL : PySem.W.nsIn K mainGlobals "FULL" = some (some (.int (-28) u_FULL)))
    (g_HIGHEST_FIRST_YEAR : PySem.W.nsIn K mainGlobals "HIGHEST_FIRST_YEAR" = some (some (.int (500) u_HIGHEST_FIRST_YEAR)))
    (g_HIGHEST_YEAR : PySem.W.nsIn K mainGlobals "HIGHEST_YEAR" = some (some (.int (2000) u_HIGHEST_YEAR)))
    (g_MOST_CHANGES : PySem.W.nsIn K mainGlobals "MOST_CHANGES" = some (some (.int (20) u_MOST_CHANGES)))
    (g_MOST_ENTRIES : PySem.W.nsIn K mainGlobals "MOST_ENTRIES" = some (some (.int (10) u_MOST_ENTRIES)))
    (g_MOST_NAMES : PySem.W.nsIn K mainGlobals "MOST_NAMES" = some (some (.int (16) u_MOST_NAMES)))
    (g_MOST_REIGN_YEARS : PySem.W.nsIn K mainGlobals "MOST_REIGN_YEARS" = some (some (.int (40) u_MOST_REIGN_YEARS)))
    (g_NOTHING_TO_END : PySem.W.nsIn K mainGlobals "NOTHING_TO_END" = some (some (.int (-6) u_NOTHING_TO_END)))
    (g_NOT_THERE : PySem.W.nsIn K mainGlobals "NOT_THERE" = some (some (.int (-2) u_NOT_THERE)))
    (g_OUT_OF_BOUNDS : PySem.W.nsIn K mainGlobals "OUT_OF_BOUNDS" = some (some (.int (-22) u_OUT_OF_BOUNDS)))
    (g_CHANGES : PySem.W.nsIn K mainGlobals "CHANGES" = some (some (.ref t_CHANGES)))
    (l_CHANGES : K.lookup t_CHANGES = some ⟨.type "tuple", od_CHANGES, .seq #[.int 0 u_CHANGES0, .int 1 u_CHANGES1, .int 2 u_CHANGES2, .int 3 u_CHANGES3, .int 4 u_CHANGES4, .int 5 u_CHANGES5, .int 18 u_CHANGES6, .int 19 u_CHANGES7] n_CHANGES, sl_CHANGES⟩)
    (g_NUMBERS_BEHIND : PySem.W.nsIn K mainGlobals "NUMBERS_BEHIND" = some (some (.ref t_NUMBERS_BEHIND)))
    (l_NUMBERS_BEHIND : K.lookup t_NUMBERS_BEHIND = some ⟨.type "tuple", od_NUMBERS_BEHIND, .seq #[.int 4 u_NUMBERS_BEHIND0, .int 2 u_NUMBERS_BEHIND1, .int 0 u_NUMBERS_BEHIND2, .int 2 u_NUMBERS_BEHIND3, .int 1 u_NUMBERS_BEHIND4, .int 1 u_NUMBERS_BEHIND5, .int 1 u_NUMBERS_BEHIND6, .int 1 u_NUMBERS_BEHIND7, .int 0 u_NUMBERS_BEHIND8, .int 0 u_NUMBERS_BEHIND9, .int 0 u_NUMBERS_BEHIND10, .int 0 u_NUMBERS_BEHIND11, .int 1 u_NUMBERS_BEHIND12, .int 2 u_NUMBERS_BEHIND13, .int 0 u_NUMBERS_BEHIND14, .int 1 u_NUMBERS_BEHIND15, .int 2 u_NUMBERS_BEHIND16, .int 1 u_NUMBERS_BEHIND17, .int 0 u_NUMBERS_BEHIND18, .int 0 u_NUMBERS_BEHIND19, .int 0 u_NUMBERS_BEHIND20] n_NUMBERS_BEHIND, sl_NUMBERS_BEHIND⟩)
    (g_READING_QUESTIONS : PySem.W.nsIn K mainGlobals "READING_QUESTIONS" = some (some (.ref t_READING_QUESTIONS)))
    (l_READING_QUESTIONS : K.lookup t_READING_QUESTIONS = some ⟨.type "tuple", od_READING_QUESTIONS, .seq #[.int 8 u_READING_QUESTIONS0, .int 9 u_READING_QUESTIONS1, .int 10 u_READING_QUESTIONS2, .int 11 u_READING_QUESTIONS3, .int 12 u_READING_QUESTIONS4, .int 13 u_READING_QUESTIONS5, .int 14 u_READING_QUESTIONS6, .int 15 u_READING_QUESTIONS7, .int 16 u_READING_QUESTIONS8] n_READING_QUESTIONS, sl_READING_QUESTIONS⟩)
    (z_all : PySem.W.nsIn K mainGlobals "all" = some none)
    (z_len : PySem.W.nsIn K mainGlobals "len" = some none)
    (z_list : PySem.W.nsIn K mainGlobals "list" = some none)
    (z_max : PySem.W.nsIn K mainGlobals "max" = some none)
    (z_range : PySem.W.nsIn K mainGlobals "range" = some none)
    (z_reversed : PySem.W.nsIn K mainGlobals "reversed" = some none)
    (z_sum : PySem.W.nsIn K mainGlobals "sum" = some none)
    (z_zip : PySem.W.nsIn K mainGlobals "zip" = some none)
    : ∃ fd : FuncData, (∀ (s : Shared) (us : List Value), us.length = (p_answers : List Str).length → BindsTo s fd ⟨us, []⟩ ((p_answers : List Str).zip us)) ∧ ∀ base : Heap, K.In base → base.Ns mainGlobals mg → FnOk P w K mg base CX0 9 fa fd p_answers (spAns K) := by
  have e := hfa.symm.trans (PySem.W.mg_of X G a_answers)
  have e2 : f_answers = fa := by
    injection e with e
    injection e with e
    exact e.symm
  subst e2
  have F_History_init := fun_mk (st := s_History_init) l_History_init cc_History_init k_History_init
  have F_History_note_change := fun_mk (st := s_History_note_change) l_History_note_change cc_History_note_change k_History_note_change
  have F_History_take_back := fun_mk (st := s_History_take_back) l_History_take_back cc_History_take_back k_History_take_back
  have F_History_do_again := fun_mk (st := s_History_do_again) l_History_do_again cc_History_do_again k_History_do_again
  have F_Entry_init := fun_mk (st := s_Entry_init) l_Entry_init cc_Entry_init k_Entry_init
  have F_Chronicle_init := fun_mk (st := s_Chronicle_init) l_Chronicle_init cc_Chronicle_init k_Chronicle_init
  have F_Chronicle_begin := fun_mk (st := s_Chronicle_begin) l_Chronicle_begin cc_Chronicle_begin k_Chronicle_begin
  have F_Chronicle_has_entry := fun_mk (st := s_Chronicle_has_entry) l_Chronicle_has_entry cc_Chronicle_has_entry k_Chronicle_has_entry
  have F_Chronicle_state := fun_mk (st := s_Chronicle_state) l_Chronicle_state cc_Chronicle_state k_Chronicle_state
  have F_Chronicle_return_to := fun_mk (st := s_Chronicle_return_to) l_Chronicle_return_to cc_Chronicle_return_to k_Chronicle_return_to
  have F_Chronicle_change_entries := fun_mk (st := s_Chronicle_change_entries) l_Chronicle_change_entries cc_Chronicle_change_entries k_Chronicle_change_entries
  have F_Chronicle_change_last_year := fun_mk (st := s_Chronicle_change_last_year) l_Chronicle_change_last_year cc_Chronicle_change_last_year k_Chronicle_change_last_year
  have F_Chronicle_change_known := fun_mk (st := s_Chronicle_change_known) l_Chronicle_change_known cc_Chronicle_change_known k_Chronicle_change_known
  have F_Chronicle_step_back := fun_mk (st := s_Chronicle_step_back) l_Chronicle_step_back cc_Chronicle_step_back k_Chronicle_step_back
  have F_Chronicle_step_again := fun_mk (st := s_Chronicle_step_again) l_Chronicle_step_again cc_Chronicle_step_again k_Chronicle_step_again
  have F_round_length := fun_mk (st := s_round_length) l_round_length cc_round_length k_round_length
  have F_year_name := fun_mk (st := s_year_name) l_year_name cc_year_name k_year_name
  have F_year_in_reign := fun_mk (st := s_year_in_reign) l_year_in_reign cc_year_in_reign k_year_in_reign
  have F_year_round := fun_mk (st := s_year_round) l_year_round cc_year_round k_year_round
  have F_told_years := fun_mk (st := s_told_years) l_told_years cc_told_years k_told_years
  have F_entry_years := fun_mk (st := s_entry_years) l_entry_years cc_entry_years k_entry_years
  have F_all_entry_years := fun_mk (st := s_all_entry_years) l_all_entry_years cc_all_entry_years k_all_entry_years
  have F_fits_as_last_year := fun_mk (st := s_fits_as_last_year) l_fits_as_last_year cc_fits_as_last_year k_fits_as_last_year
  have F_fits_as_start := fun_mk (st := s_fits_as_start) l_fits_as_start cc_fits_as_start k_fits_as_start
  have F_ny_start := fun_mk (st := s_ny_start) l_ny_start cc_ny_start k_ny_start
  have F_ny_tell := fun_mk (st := s_ny_tell) l_ny_tell cc_ny_tell k_ny_tell
  have F_ny_drop := fun_mk (st := s_ny_drop) l_ny_drop cc_ny_drop k_ny_drop
  have F_ny_know := fun_mk (st := s_ny_know) l_ny_know cc_ny_know k_ny_know
  have F_ny_forget := fun_mk (st := s_ny_forget) l_ny_forget cc_ny_forget k_ny_forget
  have F_ny_up_to := fun_mk (st := s_ny_up_to) l_ny_up_to cc_ny_up_to k_ny_up_to
  have F_ny_back := fun_mk (st := s_ny_back) l_ny_back cc_ny_back k_ny_back
  have F_ny_again := fun_mk (st := s_ny_again) l_ny_again cc_ny_again k_ny_again
  have F_ny_name := fun_mk (st := s_ny_name) l_ny_name cc_ny_name k_ny_name
  have F_ny_years := fun_mk (st := s_ny_years) l_ny_years cc_ny_years k_ny_years
  have F_ny_told := fun_mk (st := s_ny_told) l_ny_told cc_ny_told k_ny_told
  have F_ny_state := fun_mk (st := s_ny_state) l_ny_state cc_ny_state k_ny_state
  have F_Span_init := fun_mk (st := s_Span_init) l_Span_init cc_Span_init k_Span_init
  have F_Span_is_one_year := fun_mk (st := s_Span_is_one_year) l_Span_is_one_year cc_Span_is_one_year k_Span_is_one_year
  have F_first_later := fun_mk (st := s_first_later) l_first_later cc_first_later k_first_later
  have F_last_earlier := fun_mk (st := s_last_earlier) l_last_earlier cc_last_earlier k_last_earlier
  have F_soonest_reading := fun_mk (st := s_soonest_reading) l_soonest_reading cc_soonest_reading k_soonest_reading
  have F_latest_reading := fun_mk (st := s_latest_reading) l_latest_reading cc_latest_reading k_latest_reading
  have F_entry_spans := fun_mk (st := s_entry_spans) l_entry_spans cc_entry_spans k_entry_spans
  have F_ways_to_reach := fun_mk (st := s_ways_to_reach) l_ways_to_reach cc_ways_to_reach k_ways_to_reach
  have F_count_readings := fun_mk (st := s_count_readings) l_count_readings cc_count_readings k_count_readings
  have F_reading_answer := fun_mk (st := s_reading_answer) l_reading_answer cc_reading_answer k_reading_answer
  have F_all_spans := fun_mk (st := s_all_spans) l_all_spans cc_all_spans k_all_spans
  have F_ny_soonest := fun_mk (st := s_ny_soonest) l_ny_soonest cc_ny_soonest k_ny_soonest
  have F_ny_latest := fun_mk (st := s_ny_latest) l_ny_latest cc_ny_latest k_ny_latest
  have F_ny_count := fun_mk (st := s_ny_count) l_ny_count cc_ny_count k_ny_count
  have F_ny_sure := fun_mk (st := s_ny_sure) l_ny_sure cc_ny_sure k_ny_sure
  have F_ny_when := fun_mk (st := s_ny_when) l_ny_when cc_ny_when k_ny_when
  have F_ny_apart := fun_mk (st := s_ny_apart) l_ny_apart cc_ny_apart k_ny_apart
  have F_ny_one := fun_mk (st := s_ny_one) l_ny_one cc_ny_one k_ny_one
  have F_ny_rounds := fun_mk (st := s_ny_rounds) l_ny_rounds cc_ny_rounds k_ny_rounds
  have F_ny_could := fun_mk (st := s_ny_could) l_ny_could cc_ny_could k_ny_could
  have F_change_answer := fun_mk (st := s_change_answer) l_change_answer cc_change_answer k_change_answer
  have F_reading_question_answer := fun_mk (st := s_reading_question_answer) l_reading_question_answer cc_reading_question_answer k_reading_question_answer
  have F_question_answer := fun_mk (st := s_question_answer) l_question_answer cc_question_answer k_question_answer
  have F_call_answer := fun_mk (st := s_call_answer) l_call_answer cc_call_answer k_call_answer
  have F_answers := fun_mk (st := s_answers) l_answers cc_answers k_answers
  let A : Ad := ⟨c_History, c_Entry, c_Chronicle, c_Span, f_History_init, f_History_note_change, f_History_take_back, f_History_do_again, f_Entry_init, f_Chronicle_init, f_Chronicle_begin, f_Chronicle_has_entry, f_Chronicle_state, f_Chronicle_return_to, f_Chronicle_change_entries, f_Chronicle_change_last_year, f_Chronicle_change_known, f_Chronicle_step_back, f_Chronicle_step_again, f_round_length, f_year_name, f_year_in_reign, f_year_round, f_told_years, f_entry_years, f_all_entry_years, f_fits_as_last_year, f_fits_as_start, f_ny_start, f_ny_tell, f_ny_drop, f_ny_know, f_ny_forget, f_ny_up_to, f_ny_back, f_ny_again, f_ny_name, f_ny_years, f_ny_told, f_ny_state, f_Span_init, f_Span_is_one_year, f_first_later, f_last_earlier, f_soonest_reading, f_latest_reading, f_entry_spans, f_ways_to_reach, f_count_readings, f_reading_answer, f_all_spans, f_ny_soonest, f_ny_latest, f_ny_count, f_ny_sure, f_ny_when, f_ny_apart, f_ny_one, f_ny_rounds, f_ny_could, f_change_answer, f_reading_question_answer, f_question_answer, f_call_answer, f_answers, t_CHANGES, t_NUMBERS_BEHIND, t_READING_QUESTIONS⟩
  let D : Fd := ⟨PySem.W.fnOf "__init__" "History.__init__" (defArgs s_History_init) (defBody s_History_init) (defScope s_History_init) .none kV_History_init dc_History_init pm_History_init an_History_init cd_History_init ct_History_init, PySem.W.fnOf "note_change" "History.note_change" (defArgs s_History_note_change) (defBody s_History_note_change) (defScope s_History_note_change) .none kV_History_note_change dc_History_note_change pm_History_note_change an_History_note_change cd_History_note_change ct_History_note_change, PySem.W.fnOf "take_back" "History.take_back" (defArgs s_History_take_back) (defBody s_History_take_back) (defScope s_History_take_back) .none kV_History_take_back dc_History_take_back pm_History_take_back an_History_take_back cd_History_take_back ct_History_take_back, PySem.W.fnOf "do_again" "History.do_again" (defArgs s_History_do_again) (defBody s_History_do_again) (defScope s_History_do_again) .none kV_History_do_again dc_History_do_again pm_History_do_again an_History_do_again cd_History_do_again ct_History_do_again, PySem.W.fnOf "__init__" "Entry.__init__" (defArgs s_Entry_init) (defBody s_Entry_init) (defScope s_Entry_init) .none kV_Entry_init dc_Entry_init pm_Entry_init an_Entry_init cd_Entry_init ct_Entry_init, PySem.W.fnOf "__init__" "Chronicle.__init__" (defArgs s_Chronicle_init) (defBody s_Chronicle_init) (defScope s_Chronicle_init) .none kV_Chronicle_init dc_Chronicle_init pm_Chronicle_init an_Chronicle_init cd_Chronicle_init ct_Chronicle_init, PySem.W.fnOf "begin" "Chronicle.begin" (defArgs s_Chronicle_begin) (defBody s_Chronicle_begin) (defScope s_Chronicle_begin) .none kV_Chronicle_begin dc_Chronicle_begin pm_Chronicle_begin an_Chronicle_begin cd_Chronicle_begin ct_Chronicle_begin, PySem.W.fnOf "has_entry" "Chronicle.has_entry" (defArgs s_Chronicle_has_entry) (defBody s_Chronicle_has_entry) (defScope s_Chronicle_has_entry) .none kV_Chronicle_has_entry dc_Chronicle_has_entry pm_Chronicle_has_entry an_Chronicle_has_entry cd_Chronicle_has_entry ct_Chronicle_has_entry, PySem.W.fnOf "state" "Chronicle.state" (defArgs s_Chronicle_state) (defBody s_Chronicle_state) (defScope s_Chronicle_state) .none kV_Chronicle_state dc_Chronicle_state pm_Chronicle_state an_Chronicle_state cd_Chronicle_state ct_Chronicle_state, PySem.W.fnOf "return_to" "Chronicle.return_to" (defArgs s_Chronicle_return_to) (defBody s_Chronicle_return_to) (defScope s_Chronicle_return_to) .none kV_Chronicle_return_to dc_Chronicle_return_to pm_Chronicle_return_to an_Chronicle_return_to cd_Chronicle_return_to ct_Chronicle_return_to, PySem.W.fnOf "change_entries" "Chronicle.change_entries" (defArgs s_Chronicle_change_entries) (defBody s_Chronicle_change_entries) (defScope s_Chronicle_change_entries) .none kV_Chronicle_change_entries dc_Chronicle_change_entries pm_Chronicle_change_entries an_Chronicle_change_entries cd_Chronicle_change_entries ct_Chronicle_change_entries, PySem.W.fnOf "change_last_year" "Chronicle.change_last_year" (defArgs s_Chronicle_change_last_year) (defBody s_Chronicle_change_last_year) (defScope s_Chronicle_change_last_year) .none kV_Chronicle_change_last_year dc_Chronicle_change_last_year pm_Chronicle_change_last_year an_Chronicle_change_last_year cd_Chronicle_change_last_year ct_Chronicle_change_last_year, PySem.W.fnOf "change_known" "Chronicle.change_known" (defArgs s_Chronicle_change_known) (defBody s_Chronicle_change_known) (defScope s_Chronicle_change_known) .none kV_Chronicle_change_known dc_Chronicle_change_known pm_Chronicle_change_known an_Chronicle_change_known cd_Chronicle_change_known ct_Chronicle_change_known, PySem.W.fnOf "step_back" "Chronicle.step_back" (defArgs s_Chronicle_step_back) (defBody s_Chronicle_step_back) (defScope s_Chronicle_step_back) .none kV_Chronicle_step_back dc_Chronicle_step_back pm_Chronicle_step_back an_Chronicle_step_back cd_Chronicle_step_back ct_Chronicle_step_back, PySem.W.fnOf "step_again" "Chronicle.step_again" (defArgs s_Chronicle_step_again) (defBody s_Chronicle_step_again) (defScope s_Chronicle_step_again) .none kV_Chronicle_step_again dc_Chronicle_step_again pm_Chronicle_step_again an_Chronicle_step_again cd_Chronicle_step_again ct_Chronicle_step_again, PySem.W.fnOf "round_length" "round_length" (defArgs s_round_length) (defBody s_round_length) (defScope s_round_length) .none kV_round_length dc_round_length pm_round_length an_round_length cd_round_length ct_round_length, PySem.W.fnOf "year_name" "year_name" (defArgs s_year_name) (defBody s_year_name) (defScope s_year_name) .none kV_year_name dc_year_name pm_year_name an_year_name cd_year_name ct_year_name, PySem.W.fnOf "year_in_reign" "year_in_reign" (defArgs s_year_in_reign) (defBody s_year_in_reign) (defScope s_year_in_reign) .none kV_year_in_reign dc_year_in_reign pm_year_in_reign an_year_in_reign cd_year_in_reign ct_year_in_reign, PySem.W.fnOf "year_round" "year_round" (defArgs s_year_round) (defBody s_year_round) (defScope s_year_round) .none kV_year_round dc_year_round pm_year_round an_year_round cd_year_round ct_year_round, PySem.W.fnOf "told_years" "told_years" (defArgs s_told_years) (defBody s_told_years) (defScope s_told_years) .none kV_told_years dc_told_years pm_told_years an_told_years cd_told_years ct_told_years, PySem.W.fnOf "entry_years" "entry_years" (defArgs s_entry_years) (defBody s_entry_years) (defScope s_entry_years) .none kV_entry_years dc_entry_years pm_entry_years an_entry_years cd_entry_years ct_entry_years, PySem.W.fnOf "all_entry_years" "all_entry_years" (defArgs s_all_entry_years) (defBody s_all_entry_years) (defScope s_all_entry_years) .none kV_all_entry_years dc_all_entry_years pm_all_entry_years an_all_entry_years cd_all_entry_years ct_all_entry_years, PySem.W.fnOf "fits_as_last_year" "fits_as_last_year" (defArgs s_fits_as_last_year) (defBody s_fits_as_last_year) (defScope s_fits_as_last_year) .none kV_fits_as_last_year dc_fits_as_last_year pm_fits_as_last_year an_fits_as_last_year cd_fits_as_last_year ct_fits_as_last_year, PySem.W.fnOf "fits_as_start" "fits_as_start" (defArgs s_fits_as_start) (defBody s_fits_as_start) (defScope s_fits_as_start) .none kV_fits_as_start dc_fits_as_start pm_fits_as_start an_fits_as_start cd_fits_as_start ct_fits_as_start, PySem.W.fnOf "ny_start" "ny_start" (defArgs s_ny_start) (defBody s_ny_start) (defScope s_ny_start) .none kV_ny_start dc_ny_start pm_ny_start an_ny_start cd_ny_start ct_ny_start, PySem.W.fnOf "ny_tell" "ny_tell" (defArgs s_ny_tell) (defBody s_ny_tell) (defScope s_ny_tell) .none kV_ny_tell dc_ny_tell pm_ny_tell an_ny_tell cd_ny_tell ct_ny_tell, PySem.W.fnOf "ny_drop" "ny_drop" (defArgs s_ny_drop) (defBody s_ny_drop) (defScope s_ny_drop) .none kV_ny_drop dc_ny_drop pm_ny_drop an_ny_drop cd_ny_drop ct_ny_drop, PySem.W.fnOf "ny_know" "ny_know" (defArgs s_ny_know) (defBody s_ny_know) (defScope s_ny_know) .none kV_ny_know dc_ny_know pm_ny_know an_ny_know cd_ny_know ct_ny_know, PySem.W.fnOf "ny_forget" "ny_forget" (defArgs s_ny_forget) (defBody s_ny_forget) (defScope s_ny_forget) .none kV_ny_forget dc_ny_forget pm_ny_forget an_ny_forget cd_ny_forget ct_ny_forget, PySem.W.fnOf "ny_up_to" "ny_up_to" (defArgs s_ny_up_to) (defBody s_ny_up_to) (defScope s_ny_up_to) .none kV_ny_up_to dc_ny_up_to pm_ny_up_to an_ny_up_to cd_ny_up_to ct_ny_up_to, PySem.W.fnOf "ny_back" "ny_back" (defArgs s_ny_back) (defBody s_ny_back) (defScope s_ny_back) .none kV_ny_back dc_ny_back pm_ny_back an_ny_back cd_ny_back ct_ny_back, PySem.W.fnOf "ny_again" "ny_again" (defArgs s_ny_again) (defBody s_ny_again) (defScope s_ny_again) .none kV_ny_again dc_ny_again pm_ny_again an_ny_again cd_ny_again ct_ny_again, PySem.W.fnOf "ny_name" "ny_name" (defArgs s_ny_name) (defBody s_ny_name) (defScope s_ny_name) .none kV_ny_name dc_ny_name pm_ny_name an_ny_name cd_ny_name ct_ny_name, PySem.W.fnOf "ny_years" "ny_years" (defArgs s_ny_years) (defBody s_ny_years) (defScope s_ny_years) .none kV_ny_years dc_ny_years pm_ny_years an_ny_years cd_ny_years ct_ny_years, PySem.W.fnOf "ny_told" "ny_told" (defArgs s_ny_told) (defBody s_ny_told) (defScope s_ny_told) .none kV_ny_told dc_ny_told pm_ny_told an_ny_told cd_ny_told ct_ny_told, PySem.W.fnOf "ny_state" "ny_state" (defArgs s_ny_state) (defBody s_ny_state) (defScope s_ny_state) .none kV_ny_state dc_ny_state pm_ny_state an_ny_state cd_ny_state ct_ny_state, PySem.W.fnOf "__init__" "Span.__init__" (defArgs s_Span_init) (defBody s_Span_init) (defScope s_Span_init) .none kV_Span_init dc_Span_init pm_Span_init an_Span_init cd_Span_init ct_Span_init, PySem.W.fnOf "is_one_year" "Span.is_one_year" (defArgs s_Span_is_one_year) (defBody s_Span_is_one_year) (defScope s_Span_is_one_year) .none kV_Span_is_one_year dc_Span_is_one_year pm_Span_is_one_year an_Span_is_one_year cd_Span_is_one_year ct_Span_is_one_year, PySem.W.fnOf "first_later" "first_later" (defArgs s_first_later) (defBody s_first_later) (defScope s_first_later) .none kV_first_later dc_first_later pm_first_later an_first_later cd_first_later ct_first_later, PySem.W.fnOf "last_earlier" "last_earlier" (defArgs s_last_earlier) (defBody s_last_earlier) (defScope s_last_earlier) .none kV_last_earlier dc_last_earlier pm_last_earlier an_last_earlier cd_last_earlier ct_last_earlier, PySem.W.fnOf "soonest_reading" "soonest_reading" (defArgs s_soonest_reading) (defBody s_soonest_reading) (defScope s_soonest_reading) .none kV_soonest_reading dc_soonest_reading pm_soonest_reading an_soonest_reading cd_soonest_reading ct_soonest_reading, PySem.W.fnOf "latest_reading" "latest_reading" (defArgs s_latest_reading) (defBody s_latest_reading) (defScope s_latest_reading) .none kV_latest_reading dc_latest_reading pm_latest_reading an_latest_reading cd_latest_reading ct_latest_reading, PySem.W.fnOf "entry_spans" "entry_spans" (defArgs s_entry_spans) (defBody s_entry_spans) (defScope s_entry_spans) .none kV_entry_spans dc_entry_spans pm_entry_spans an_entry_spans cd_entry_spans ct_entry_spans, PySem.W.fnOf "ways_to_reach" "ways_to_reach" (defArgs s_ways_to_reach) (defBody s_ways_to_reach) (defScope s_ways_to_reach) .none kV_ways_to_reach dc_ways_to_reach pm_ways_to_reach an_ways_to_reach cd_ways_to_reach ct_ways_to_reach, PySem.W.fnOf "count_readings" "count_readings" (defArgs s_count_readings) (defBody s_count_readings) (defScope s_count_readings) .none kV_count_readings dc_count_readings pm_count_readings an_count_readings cd_count_readings ct_count_readings, PySem.W.fnOf "reading_answer" "reading_answer" (defArgs s_reading_answer) (defBody s_reading_answer) (defScope s_reading_answer) .none kV_reading_answer dc_reading_answer pm_reading_answer an_reading_answer cd_reading_answer ct_reading_answer, PySem.W.fnOf "all_spans" "all_spans" (defArgs s_all_spans) (defBody s_all_spans) (defScope s_all_spans) .none kV_all_spans dc_all_spans pm_all_spans an_all_spans cd_all_spans ct_all_spans, PySem.W.fnOf "ny_soonest" "ny_soonest" (defArgs s_ny_soonest) (defBody s_ny_soonest) (defScope s_ny_soonest) .none kV_ny_soonest dc_ny_soonest pm_ny_soonest an_ny_soonest cd_ny_soonest ct_ny_soonest, PySem.W.fnOf "ny_latest" "ny_latest" (defArgs s_ny_latest) (defBody s_ny_latest) (defScope s_ny_latest) .none kV_ny_latest dc_ny_latest pm_ny_latest an_ny_latest cd_ny_latest ct_ny_latest, PySem.W.fnOf "ny_count" "ny_count" (defArgs s_ny_count) (defBody s_ny_count) (defScope s_ny_count) .none kV_ny_count dc_ny_count pm_ny_count an_ny_count cd_ny_count ct_ny_count, PySem.W.fnOf "ny_sure" "ny_sure" (defArgs s_ny_sure) (defBody s_ny_sure) (defScope s_ny_sure) .none kV_ny_sure dc_ny_sure pm_ny_sure an_ny_sure cd_ny_sure ct_ny_sure, PySem.W.fnOf "ny_when" "ny_when" (defArgs s_ny_when) (defBody s_ny_when) (defScope s_ny_when) .none kV_ny_when dc_ny_when pm_ny_when an_ny_when cd_ny_when ct_ny_when, PySem.W.fnOf "ny_apart" "ny_apart" (defArgs s_ny_apart) (defBody s_ny_apart) (defScope s_ny_apart) .none kV_ny_apart dc_ny_apart pm_ny_apart an_ny_apart cd_ny_apart ct_ny_apart, PySem.W.fnOf "ny_one" "ny_one" (defArgs s_ny_one) (defBody s_ny_one) (defScope s_ny_one) .none kV_ny_one dc_ny_one pm_ny_one an_ny_one cd_ny_one ct_ny_one, PySem.W.fnOf "ny_rounds" "ny_rounds" (defArgs s_ny_rounds) (defBody s_ny_rounds) (defScope s_ny_rounds) .none kV_ny_rounds dc_ny_rounds pm_ny_rounds an_ny_rounds cd_ny_rounds ct_ny_rounds, PySem.W.fnOf "ny_could" "ny_could" (defArgs s_ny_could) (defBody s_ny_could) (defScope s_ny_could) .none kV_ny_could dc_ny_could pm_ny_could an_ny_could cd_ny_could ct_ny_could, PySem.W.fnOf "change_answer" "change_answer" (defArgs s_change_answer) (defBody s_change_answer) (defScope s_change_answer) .none kV_change_answer dc_change_answer pm_change_answer an_change_answer cd_change_answer ct_change_answer, PySem.W.fnOf "reading_question_answer" "reading_question_answer" (defArgs s_reading_question_answer) (defBody s_reading_question_answer) (defScope s_reading_question_answer) .none kV_reading_question_answer dc_reading_question_answer pm_reading_question_answer an_reading_question_answer cd_reading_question_answer ct_reading_question_answer, PySem.W.fnOf "question_answer" "question_answer" (defArgs s_question_answer) (defBody s_question_answer) (defScope s_question_answer) .none kV_question_answer dc_question_answer pm_question_answer an_question_answer cd_question_answer ct_question_answer, PySem.W.fnOf "call_answer" "call_answer" (defArgs s_call_answer) (defBody s_call_answer) (defScope s_call_answer) .none kV_call_answer dc_call_answer pm_call_answer an_call_answer cd_call_answer ct_call_answer, PySem.W.fnOf "answers" "answers" (defArgs s_answers) (defBody s_answers) (defScope s_answers) .none kV_answers dc_answers pm_answers an_answers cd_answers ct_answers⟩
  have T : Txt K mg A D := {
    cl_History := ⟨pg_History, hd_History, po_History, sa_History⟩
    g_History := PySem.W.mg_of X G a_History
    no_History_past := no_History_past
    no_History_undone := no_History_undone
    mk_History := ⟨mk_History, a_History_init, i_History_init, kc_History⟩
    me_History_note_change := ⟨a_History_note_change, i_History_note_change, k_History_note_change⟩
    me_History_take_back := ⟨a_History_take_back, i_History_take_back, k_History_take_back⟩
    me_History_do_again := ⟨a_History_do_again, i_History_do_again, k_History_do_again⟩
    cl_Entry := ⟨pg_Entry, hd_Entry, po_Entry, sa_Entry⟩
    g_Entry := PySem.W.mg_of X G a_Entry
    no_Entry_name := no_Entry_name
    no_Entry_reign_year := no_Entry_reign_year
    no_Entry_known := no_Entry_known
    mk_Entry := ⟨mk_Entry, a_Entry_init, i_Entry_init, kc_Entry⟩
    cl_Chronicle := ⟨pg_Chronicle, hd_Chronicle, po_Chronicle, sa_Chronicle⟩
    g_Chronicle := PySem.W.mg_of X G a_Chronicle
    no_Chronicle_reign_length := no_Chronicle_reign_length
    no_Chronicle_name_total := no_Chronicle_name_total
    no_Chronicle_first_year := no_Chronicle_first_year
    no_Chronicle_last_year := no_Chronicle_last_year
    no_Chronicle_entries := no_Chronicle_entries
    no_Chronicle_history := no_Chronicle_history
    mk_Chronicle := ⟨mk_Chronicle, a_Chronicle_init, i_Chronicle_init, kc_Chronicle⟩
    me_Chronicle_begin := ⟨a_Chronicle_begin, i_Chronicle_begin, k_Chronicle_begin⟩
    me_Chronicle_has_entry := ⟨a_Chronicle_has_entry, i_Chronicle_has_entry, k_Chronicle_has_entry⟩
    me_Chronicle_state := ⟨a_Chronicle_state, i_Chronicle_state, k_Chronicle_state⟩
    me_Chronicle_return_to := ⟨a_Chronicle_return_to, i_Chronicle_return_to, k_Chronicle_return_to⟩
    me_Chronicle_change_entries := ⟨a_Chronicle_change_entries, i_Chronicle_change_entries, k_Chronicle_change_entries⟩
    me_Chronicle_change_last_year := ⟨a_Chronicle_change_last_year, i_Chronicle_change_last_year, k_Chronicle_change_last_year⟩
    me_Chronicle_change_known := ⟨a_Chronicle_change_known, i_Chronicle_change_known, k_Chronicle_change_known⟩
    me_Chronicle_step_back := ⟨a_Chronicle_step_back, i_Chronicle_step_back, k_Chronicle_step_back⟩
    me_Chronicle_step_again := ⟨a_Chronicle_step_again, i_Chronicle_step_again, k_Chronicle_step_again⟩
    cl_Span := ⟨pg_Span, hd_Span, po_Span, sa_Span⟩
    g_Span := PySem.W.mg_of X G a_Span
    no_Span_soonest := no_Span_soonest
    no_Span_latest := no_Span_latest
    mk_Span := ⟨mk_Span, a_Span_init, i_Span_init, kc_Span⟩
    me_Span_is_one_year := ⟨a_Span_is_one_year, i_Span_is_one_year, k_Span_is_one_year⟩
    F_History_init := F_History_init
    b_History_init := F_History_init.binds (ps := p_History_init) fun _ _ _ _ _ _ us hl => match us, hl with | [_], _ => rfl
    F_History_note_change := F_History_note_change
    b_History_note_change := F_History_note_change.binds (ps := p_History_note_change) fun _ _ _ _ _ _ us hl => match us, hl with | [_, _], _ => rfl
    F_History_take_back := F_History_take_back
    b_History_take_back := F_History_take_back.binds (ps := p_History_take_back) fun _ _ _ _ _ _ us hl => match us, hl with | [_, _], _ => rfl
    F_History_do_again := F_History_do_again
    b_History_do_again := F_History_do_again.binds (ps := p_History_do_again) fun _ _ _ _ _ _ us hl => match us, hl with | [_, _], _ => rfl
    F_Entry_init := F_Entry_init
    b_Entry_init := F_Entry_init.binds (ps := p_Entry_init) fun _ _ _ _ _ _ us hl => match us, hl with | [_, _, _, _], _ => rfl
    F_Chronicle_init := F_Chronicle_init
    b_Chronicle_init := F_Chronicle_init.binds (ps := p_Chronicle_init) fun _ _ _ _ _ _ us hl => match us, hl with | [_], _ => rfl
    F_Chronicle_begin := F_Chronicle_begin
    b_Chronicle_begin := F_Chronicle_begin.binds (ps := p_Chronicle_begin) fun _ _ _ _ _ _ us hl => match us, hl with | [_, _, _, _, _], _ => rfl
    F_Chronicle_has_entry := F_Chronicle_has_entry
    b_Chronicle_has_entry := F_Chronicle_has_entry.binds (ps := p_Chronicle_has_entry) fun _ _ _ _ _ _ us hl => match us, hl with | [_, _], _ => rfl
    F_Chronicle_state := F_Chronicle_state
    b_Chronicle_state := F_Chronicle_state.binds (ps := p_Chronicle_state) fun _ _ _ _ _ _ us hl => match us, hl with | [_], _ => rfl
    F_Chronicle_return_to := F_Chronicle_return_to
    b_Chronicle_return_to := F_Chronicle_return_to.binds (ps := p_Chronicle_return_to) fun _ _ _ _ _ _ us hl => match us, hl with | [_, _], _ => rfl
    F_Chronicle_change_entries := F_Chronicle_change_entries
    b_Chronicle_change_entries := F_Chronicle_change_entries.binds (ps := p_Chronicle_change_entries) fun _ _ _ _ _ _ us hl => match us, hl with | [_, _], _ => rfl
    F_Chronicle_change_last_year := F_Chronicle_change_last_year
    b_Chronicle_change_last_year := F_Chronicle_change_last_year.binds (ps := p_Chronicle_change_last_year) fun _ _ _ _ _ _ us hl => match us, hl with | [_, _], _ => rfl
    F_Chronicle_change_known := F_Chronicle_change_known
    b_Chronicle_change_known := F_Chronicle_change_known.binds (ps := p_Chronicle_change_known) fun _ _ _ _ _ _ us hl => match us, hl with | [_, _, _], _ => rfl
    F_Chronicle_step_back := F_Chronicle_step_back
    b_Chronicle_step_back := F_Chronicle_step_back.binds (ps := p_Chronicle_step_back) fun _ _ _ _ _ _ us hl => match us, hl with | [_], _ => rfl
    F_Chronicle_step_again := F_Chronicle_step_again
    b_Chronicle_step_again := F_Chronicle_step_again.binds (ps := p_Chronicle_step_again) fun _ _ _ _ _ _ us hl => match us, hl with | [_], _ => rfl
    F_round_length := F_round_length
    b_round_length := F_round_length.binds (ps := p_round_length) fun _ _ _ _ _ _ us hl => match us, hl with | [_], _ => rfl
    g_round_length := PySem.W.mg_of X G a_round_length
    F_year_name := F_year_name
    b_year_name := F_year_name.binds (ps := p_year_name) fun _ _ _ _ _ _ us hl => match us, hl with | [_, _], _ => rfl
    g_year_name := PySem.W.mg_of X G a_year_name
    F_year_in_reign := F_year_in_reign
    b_year_in_reign := F_year_in_reign.binds (ps := p_year_in_reign) fun _ _ _ _ _ _ us hl => match us, hl with | [_, _], _ => rfl
    g_year_in_reign := PySem.W.mg_of X G a_year_in_reign
    F_year_round := F_year_round
    b_year_round := F_year_round.binds (ps := p_year_round) fun _ _ _ _ _ _ us hl => match us, hl with | [_, _], _ => rfl
    g_year_round := PySem.W.mg_of X G a_year_round
    F_told_years := F_told_years
    b_told_years := F_told_years.binds (ps := p_told_years) fun _ _ _ _ _ _ us hl => match us, hl with | [_, _], _ => rfl
    g_told_years := PySem.W.mg_of X G a_told_years
    F_entry_years := F_entry_years
    b_entry_years := F_entry_years.binds (ps := p_entry_years) fun _ _ _ _ _ _ us hl => match us, hl with | [_, _], _ => rfl
    g_entry_years := PySem.W.mg_of X G a_entry_years
    F_all_entry_years := F_all_entry_years
    b_all_entry_years := F_all_entry_years.binds (ps := p_all_entry_years) fun _ _ _ _ _ _ us hl => match us, hl with | [_], _ => rfl
    g_all_entry_years := PySem.W.mg_of X G a_all_entry_years
    F_fits_as_last_year := F_fits_as_last_year
    b_fits_as_last_year := F_fits_as_last_year.binds (ps := p_fits_as_last_year) fun _ _ _ _ _ _ us hl => match us, hl with | [_, _], _ => rfl
    g_fits_as_last_year := PySem.W.mg_of X G a_fits_as_last_year
    F_fits_as_start := F_fits_as_start
    b_fits_as_start := F_fits_as_start.binds (ps := p_fits_as_start) fun _ _ _ _ _ _ us hl => match us, hl with | [_, _, _, _], _ => rfl
    g_fits_as_start := PySem.W.mg_of X G a_fits_as_start
    F_ny_start := F_ny_start
    b_ny_start := F_ny_start.binds (ps := p_ny_start) fun _ _ _ _ _ _ us hl => match us, hl with | [_, _, _, _, _], _ => rfl
    g_ny_start := PySem.W.mg_of X G a_ny_start
    F_ny_tell := F_ny_tell
    b_ny_tell := F_ny_tell.binds (ps := p_ny_tell) fun _ _ _ _ _ _ us hl => match us, hl with | [_, _, _], _ => rfl
    g_ny_tell := PySem.W.mg_of X G a_ny_tell
    F_ny_drop := F_ny_drop
    b_ny_drop := F_ny_drop.binds (ps := p_ny_drop) fun _ _ _ _ _ _ us hl => match us, hl with | [_], _ => rfl
    g_ny_drop := PySem.W.mg_of X G a_ny_drop
    F_ny_know := F_ny_know
    b_ny_know := F_ny_know.binds (ps := p_ny_know) fun _ _ _ _ _ _ us hl => match us, hl with | [_, _, _], _ => rfl
    g_ny_know := PySem.W.mg_of X G a_ny_know
    F_ny_forget := F_ny_forget
    b_ny_forget := F_ny_forget.binds (ps := p_ny_forget) fun _ _ _ _ _ _ us hl => match us, hl with | [_, _], _ => rfl
    g_ny_forget := PySem.W.mg_of X G a_ny_forget
    F_ny_up_to := F_ny_up_to
    b_ny_up_to := F_ny_up_to.binds (ps := p_ny_up_to) fun _ _ _ _ _ _ us hl => match us, hl with | [_, _], _ => rfl
    g_ny_up_to := PySem.W.mg_of X G a_ny_up_to
    F_ny_back := F_ny_back
    b_ny_back := F_ny_back.binds (ps := p_ny_back) fun _ _ _ _ _ _ us hl => match us, hl with | [_], _ => rfl
    g_ny_back := PySem.W.mg_of X G a_ny_back
    F_ny_again := F_ny_again
    b_ny_again := F_ny_again.binds (ps := p_ny_again) fun _ _ _ _ _ _ us hl => match us, hl with | [_], _ => rfl
    g_ny_again := PySem.W.mg_of X G a_ny_again
    F_ny_name := F_ny_name
    b_ny_name := F_ny_name.binds (ps := p_ny_name) fun _ _ _ _ _ _ us hl => match us, hl with | [_, _], _ => rfl
    g_ny_name := PySem.W.mg_of X G a_ny_name
    F_ny_years := F_ny_years
    b_ny_years := F_ny_years.binds (ps := p_ny_years) fun _ _ _ _ _ _ us hl => match us, hl with | [_, _], _ => rfl
    g_ny_years := PySem.W.mg_of X G a_ny_years
    F_ny_told := F_ny_told
    b_ny_told := F_ny_told.binds (ps := p_ny_told) fun _ _ _ _ _ _ us hl => match us, hl with | [_, _], _ => rfl
    g_ny_told := PySem.W.mg_of X G a_ny_told
    F_ny_state := F_ny_state
    b_ny_state := F_ny_state.binds (ps := p_ny_state) fun _ _ _ _ _ _ us hl => match us, hl with | [_], _ => rfl
    g_ny_state := PySem.W.mg_of X G a_ny_state
    F_Span_init := F_Span_init
    b_Span_init := F_Span_init.binds (ps := p_Span_init) fun _ _ _ _ _ _ us hl => match us, hl with | [_, _, _], _ => rfl
    F_Span_is_one_year := F_Span_is_one_year
    b_Span_is_one_year := F_Span_is_one_year.binds (ps := p_Span_is_one_year) fun _ _ _ _ _ _ us hl => match us, hl with | [_], _ => rfl
    F_first_later := F_first_later
    b_first_later := F_first_later.binds (ps := p_first_later) fun _ _ _ _ _ _ us hl => match us, hl with | [_, _], _ => rfl
    g_first_later := PySem.W.mg_of X G a_first_later
    F_last_earlier := F_last_earlier
    b_last_earlier := F_last_earlier.binds (ps := p_last_earlier) fun _ _ _ _ _ _ us hl => match us, hl with | [_, _], _ => rfl
    g_last_earlier := PySem.W.mg_of X G a_last_earlier
    F_soonest_reading := F_soonest_reading
    b_soonest_reading := F_soonest_reading.binds (ps := p_soonest_reading) fun _ _ _ _ _ _ us hl => match us, hl with | [_], _ => rfl
    g_soonest_reading := PySem.W.mg_of X G a_soonest_reading
    F_latest_reading := F_latest_reading
    b_latest_reading := F_latest_reading.binds (ps := p_latest_reading) fun _ _ _ _ _ _ us hl => match us, hl with | [_, _], _ => rfl
    g_latest_reading := PySem.W.mg_of X G a_latest_reading
    F_entry_spans := F_entry_spans
    b_entry_spans := F_entry_spans.binds (ps := p_entry_spans) fun _ _ _ _ _ _ us hl => match us, hl with | [_, _], _ => rfl
    g_entry_spans := PySem.W.mg_of X G a_entry_spans
    F_ways_to_reach := F_ways_to_reach
    b_ways_to_reach := F_ways_to_reach.binds (ps := p_ways_to_reach) fun _ _ _ _ _ _ us hl => match us, hl with | [_, _, _], _ => rfl
    g_ways_to_reach := PySem.W.mg_of X G a_ways_to_reach
    F_count_readings := F_count_readings
    b_count_readings := F_count_readings.binds (ps := p_count_readings) fun _ _ _ _ _ _ us hl => match us, hl with | [_], _ => rfl
    g_count_readings := PySem.W.mg_of X G a_count_readings
    F_reading_answer := F_reading_answer
    b_reading_answer := F_reading_answer.binds (ps := p_reading_answer) fun _ _ _ _ _ _ us hl => match us, hl with | [_], _ => rfl
    g_reading_answer := PySem.W.mg_of X G a_reading_answer
    F_all_spans := F_all_spans
    b_all_spans := F_all_spans.binds (ps := p_all_spans) fun _ _ _ _ _ _ us hl => match us, hl with | [_], _ => rfl
    g_all_spans := PySem.W.mg_of X G a_all_spans
    F_ny_soonest := F_ny_soonest
    b_ny_soonest := F_ny_soonest.binds (ps := p_ny_soonest) fun _ _ _ _ _ _ us hl => match us, hl with | [_], _ => rfl
    g_ny_soonest := PySem.W.mg_of X G a_ny_soonest
    F_ny_latest := F_ny_latest
    b_ny_latest := F_ny_latest.binds (ps := p_ny_latest) fun _ _ _ _ _ _ us hl => match us, hl with | [_], _ => rfl
    g_ny_latest := PySem.W.mg_of X G a_ny_latest
    F_ny_count := F_ny_count
    b_ny_count := F_ny_count.binds (ps := p_ny_count) fun _ _ _ _ _ _ us hl => match us, hl with | [_], _ => rfl
    g_ny_count := PySem.W.mg_of X G a_ny_count
    F_ny_sure := F_ny_sure
    b_ny_sure := F_ny_sure.binds (ps := p_ny_sure) fun _ _ _ _ _ _ us hl => match us, hl with | [_], _ => rfl
    g_ny_sure := PySem.W.mg_of X G a_ny_sure
    F_ny_when := F_ny_when
    b_ny_when := F_ny_when.binds (ps := p_ny_when) fun _ _ _ _ _ _ us hl => match us, hl with | [_, _], _ => rfl
    g_ny_when := PySem.W.mg_of X G a_ny_when
    F_ny_apart := F_ny_apart
    b_ny_apart := F_ny_apart.binds (ps := p_ny_apart) fun _ _ _ _ _ _ us hl => match us, hl with | [_, _, _], _ => rfl
    g_ny_apart := PySem.W.mg_of X G a_ny_apart
    F_ny_one := F_ny_one
    b_ny_one := F_ny_one.binds (ps := p_ny_one) fun _ _ _ _ _ _ us hl => match us, hl with | [_], _ => rfl
    g_ny_one := PySem.W.mg_of X G a_ny_one
    F_ny_rounds := F_ny_rounds
    b_ny_rounds := F_ny_rounds.binds (ps := p_ny_rounds) fun _ _ _ _ _ _ us hl => match us, hl with | [_, _], _ => rfl
    g_ny_rounds := PySem.W.mg_of X G a_ny_rounds
    F_ny_could := F_ny_could
    b_ny_could := F_ny_could.binds (ps := p_ny_could) fun _ _ _ _ _ _ us hl => match us, hl with | [_, _, _], _ => rfl
    g_ny_could := PySem.W.mg_of X G a_ny_could
    F_change_answer := F_change_answer
    b_change_answer := F_change_answer.binds (ps := p_change_answer) fun _ _ _ _ _ _ us hl => match us, hl with | [_, _, _], _ => rfl
    g_change_answer := PySem.W.mg_of X G a_change_answer
    F_reading_question_answer := F_reading_question_answer
    b_reading_question_answer := F_reading_question_answer.binds (ps := p_reading_question_answer) fun _ _ _ _ _ _ us hl => match us, hl with | [_, _, _], _ => rfl
    g_reading_question_answer := PySem.W.mg_of X G a_reading_question_answer
    F_question_answer := F_question_answer
    b_question_answer := F_question_answer.binds (ps := p_question_answer) fun _ _ _ _ _ _ us hl => match us, hl with | [_, _, _], _ => rfl
    g_question_answer := PySem.W.mg_of X G a_question_answer
    F_call_answer := F_call_answer
    b_call_answer := F_call_answer.binds (ps := p_call_answer) fun _ _ _ _ _ _ us hl => match us, hl with | [_, _, _], _ => rfl
    g_call_answer := PySem.W.mg_of X G a_call_answer
    F_answers := F_answers
    b_answers := F_answers.binds (ps := p_answers) fun _ _ _ _ _ _ us hl => match us, hl with | [_], _ => rfl
    g_answers := PySem.W.mg_of X G a_answers
    g_ALREADY_SO := ⟨_, PySem.W.mg_of X G g_ALREADY_SO⟩
    g_CANNOT_BE := ⟨_, PySem.W.mg_of X G g_CANNOT_BE⟩
    g_COUNTED_UP_TO := ⟨_, PySem.W.mg_of X G g_COUNTED_UP_TO⟩
    g_FEWEST_NAMES := ⟨_, PySem.W.mg_of X G g_FEWEST_NAMES⟩
    g_FULL := ⟨_, PySem.W.mg_of X G g_FULL⟩
    g_HIGHEST_FIRST_YEAR := ⟨_, PySem.W.mg_of X G g_HIGHEST_FIRST_YEAR⟩
    g_HIGHEST_YEAR := ⟨_, PySem.W.mg_of X G g_HIGHEST_YEAR⟩
    g_MOST_CHANGES := ⟨_, PySem.W.mg_of X G g_MOST_CHANGES⟩
    g_MOST_ENTRIES := ⟨_, PySem.W.mg_of X G g_MOST_ENTRIES⟩
    g_MOST_NAMES := ⟨_, PySem.W.mg_of X G g_MOST_NAMES⟩
    g_MOST_REIGN_YEARS := ⟨_, PySem.W.mg_of X G g_MOST_REIGN_YEARS⟩
    g_NOTHING_TO_END := ⟨_, PySem.W.mg_of X G g_NOTHING_TO_END⟩
    g_NOT_THERE := ⟨_, PySem.W.mg_of X G g_NOT_THERE⟩
    g_OUT_OF_BOUNDS := ⟨_, PySem.W.mg_of X G g_OUT_OF_BOUNDS⟩
    g_CHANGES := PySem.W.mg_of X G g_CHANGES
    v_CHANGES := fun H => .inr ⟨_, _, _, l_CHANGES, rfl, rfl, (by show 8 ≤ sizeLine; decide), (.cons ⟨_, rfl⟩ (.cons ⟨_, rfl⟩ (.cons ⟨_, rfl⟩ (.cons ⟨_, rfl⟩ (.cons ⟨_, rfl⟩ (.cons ⟨_, rfl⟩ (.cons ⟨_, rfl⟩ (.cons ⟨_, rfl⟩ .nil))))))))⟩
    g_NUMBERS_BEHIND := PySem.W.mg_of X G g_NUMBERS_BEHIND
    v_NUMBERS_BEHIND := fun H => .inr ⟨_, _, _, l_NUMBERS_BEHIND, rfl, rfl, (by show 21 ≤ sizeLine; decide), (.cons ⟨_, rfl⟩ (.cons ⟨_, rfl⟩ (.cons ⟨_, rfl⟩ (.cons ⟨_, rfl⟩ (.cons ⟨_, rfl⟩ (.cons ⟨_, rfl⟩ (.cons ⟨_, rfl⟩ (.cons ⟨_, rfl⟩ (.cons ⟨_, rfl⟩ (.cons ⟨_, rfl⟩ (.cons ⟨_, rfl⟩ (.cons ⟨_, rfl⟩ (.cons ⟨_, rfl⟩ (.cons ⟨_, rfl⟩ (.cons ⟨_, rfl⟩ (.cons ⟨_, rfl⟩ (.cons ⟨_, rfl⟩ (.cons ⟨_, rfl⟩ (.cons ⟨_, rfl⟩ (.cons ⟨_, rfl⟩ (.cons ⟨_, rfl⟩ .nil)))))))))))))))))))))⟩
    g_READING_QUESTIONS := PySem.W.mg_of X G g_READING_QUESTIONS
    v_READING_QUESTIONS := fun H => .inr ⟨_, _, _, l_READING_QUESTIONS, rfl, rfl, (by show 9 ≤ sizeLine; decide), (.cons ⟨_, rfl⟩ (.cons ⟨_, rfl⟩ (.cons ⟨_, rfl⟩ (.cons ⟨_, rfl⟩ (.cons ⟨_, rfl⟩ (.cons ⟨_, rfl⟩ (.cons ⟨_, rfl⟩ (.cons ⟨_, rfl⟩ (.cons ⟨_, rfl⟩ .nil)))))))))⟩
    z_all := PySem.W.mg_none_of X G z_all
    z_len := PySem.W.mg_none_of X G z_len
    z_list := PySem.W.mg_none_of X G z_list
    z_max := PySem.W.mg_none_of X G z_max
    z_range := PySem.W.mg_none_of X G z_range
    z_reversed := PySem.W.mg_none_of X G z_reversed
    z_sum := PySem.W.mg_none_of X G z_sum
    z_zip := PySem.W.mg_none_of X G z_zip
  }
  exact ⟨D.d_answers, fun s us hu => match us, hu with | [_], _ => .of_eq rfl, fun base _ _ => ok_answers T⟩
end Ry
open PySem PySem.W PyProof.Rows
set_option maxRecDepth 100000 in
set_option maxHeartbeats 0 in
theorem PySem.Challenge.cw_reignyears_s01_answers_holds : PySem.Challenge.rw_reignyears_s01_answers.Holds := by
  w_on; k_headS; (case hw => exact ⟨[.list [.int 0, .int 1, .int 2, .int 0, .int 0]], by decide +kernel, by decide +kernel⟩)
  k_fillS
  refine L2.walk_specK (r := PySem.Challenge.rw_reignyears_s01_answers) (k := 9) (CX := L2.CX0) (ps := ["calls"]) (sp := Ry.spAns) (by decide +kernel) rfl rfl ⟨rfl, by decide, by decide⟩ (fun w h Y => PySem.W.kIn_of Y) ?F ?S (fun _ _ _ _ z => z)
  case F =>
    intro w mg fa h Y KX G hmg
    refine' Ry.all_mk KX G hmg ?a_History ?pg_History ?hd_History ?po_History ?sa_History ?mk_History ?kc_History ?no_History_past ?no_History_undone ?a_Entry ?pg_Entry ?hd_Entry ?po_Entry ?sa_Entry ?mk_Entry ?kc_Entry ?no_Entry_name ?no_Entry_reign_year ?no_Entry_known ?a_Chronicle ?pg_Chronicle ?hd_Chronicle ?po_Chronicle ?sa_Chronicle ?mk_Chronicle ?kc_Chronicle ?no_Chronicle_reign_length ?no_Chronicle_name_total ?no_Chronicle_first_year ?no_Chronicle_last_year ?no_Chronicle_entries ?no_Chronicle_history ?a_Span ?pg_Span ?hd_Span ?po_Span ?sa_Span ?mk_Span ?kc_Span ?no_Span_soonest ?no_Span_latest ?a_History_init ?i_History_init ?l_History_init ?cc_History_init ?k_History_init ?a_History_note_change ?i_History_note_change ?l_History_note_change ?cc_History_note_change ?k_History_note_change ?a_History_take_back ?i_History_take_back ?l_History_take_back ?cc_History_take_back ?k_History_take_back ?a_History_do_again ?i_History_do_again ?l_History_do_again ?cc_History_do_again ?k_History_do_again ?a_Entry_init ?i_Entry_init ?l_Entry_init ?cc_Entry_init ?k_Entry_init ?a_Chronicle_init ?i_Chronicle_init ?l_Chronicle_init ?cc_Chronicle_init ?k_Chronicle_init ?a_Chronicle_begin ?i_Chronicle_begin ?l_Chronicle_begin ?cc_Chronicle_begin ?k_Chronicle_begin ?a_Chronicle_has_entry ?i_Chronicle_has_entry ?l_Chronicle_has_entry ?cc_Chronicle_has_entry ?k_Chronicle_has_entry ?a_Chronicle_state ?i_Chronicle_state ?l_Chronicle_state ?cc_Chronicle_state ?k_Chronicle_state ?a_Chronicle_return_to ?i_Chronicle_return_to ?l_Chronicle_return_to ?cc_Chronicle_return_to ?k_Chronicle_return_to ?a_Chronicle_change_entries ?i_Chronicle_change_entries ?l_Chronicle_change_entries ?cc_Chronicle_change_entries ?k_Chronicle_change_entries ?a_Chronicle_change_last_year ?i_Chronicle_change_last_year ?l_Chronicle_change_last_year ?cc_Chronicle_change_last_year ?k_Chronicle_change_last_year ?a_Chronicle_change_known ?i_Chronicle_change_known ?l_Chronicle_change_known ?cc_Chronicle_change_known ?k_Chronicle_change_known ?a_Chronicle_step_back ?i_Chronicle_step_back ?l_Chronicle_step_back ?cc_Chronicle_step_back ?k_Chronicle_step_back ?a_Chronicle_step_again ?i_Chronicle_step_again ?l_Chronicle_step_again ?cc_Chronicle_step_again ?k_Chronicle_step_again ?a_round_length ?l_round_length ?cc_round_length ?k_round_length ?a_year_name ?l_year_name ?cc_year_name ?k_year_name ?a_year_in_reign ?l_year_in_reign ?cc_year_in_reign ?k_year_in_reign ?a_year_round ?l_year_round ?cc_year_round ?k_year_round ?a_told_years ?l_told_years ?cc_told_years ?k_told_years ?a_entry_years ?l_entry_years ?cc_entry_years ?k_entry_years ?a_all_entry_years ?l_all_entry_years ?cc_all_entry_years ?k_all_entry_years ?a_fits_as_last_year ?l_fits_as_last_year ?cc_fits_as_last_year ?k_fits_as_last_year ?a_fits_as_start ?l_fits_as_start ?cc_fits_as_start ?k_fits_as_start ?a_ny_start ?l_ny_start ?cc_ny_start ?k_ny_start ?a_ny_tell ?l_ny_tell ?cc_ny_tell ?k_ny_tell ?a_ny_drop ?l_ny_drop ?cc_ny_drop ?k_ny_drop ?a_ny_know ?l_ny_know ?cc_ny_know ?k_ny_know ?a_ny_forget ?l_ny_forget ?cc_ny_forget ?k_ny_forget ?a_ny_up_to ?l_ny_up_to ?cc_ny_up_to ?k_ny_up_to ?a_ny_back ?l_ny_back ?cc_ny_back ?k_ny_back ?a_ny_again ?l_ny_again ?cc_ny_again ?k_ny_again ?a_ny_name ?l_ny_name ?cc_ny_name ?k_ny_name ?a_ny_years ?l_ny_years ?cc_ny_years ?k_ny_years ?a_ny_told ?l_ny_told ?cc_ny_told ?k_ny_told ?a_ny_state ?l_ny_state ?cc_ny_state ?k_ny_state ?a_Span_init ?i_Span_init ?l_Span_init ?cc_Span_init ?k_Span_init ?a_Span_is_one_year ?i_Span_is_one_year ?l_Span_is_one_year ?cc_Span_is_one_year ?k_Span_is_one_year ?a_first_later ?l_first_later ?cc_first_later ?k_first_later ?a_last_earlier ?l_last_earlier ?cc_last_earlier ?k_last_earlier ?a_soonest_reading ?l_soonest_reading ?cc_soonest_reading ?k_soonest_reading ?a_latest_reading ?l_latest_reading ?cc_latest_reading ?k_latest_reading ?a_entry_spans ?l_entry_spans ?cc_entry_spans ?k_entry_spans ?a_ways_to_reach ?l_ways_to_reach ?cc_ways_to_reach ?k_ways_to_reach ?a_count_readings ?l_count_readings ?cc_count_readings ?k_count_readings ?a_reading_answer ?l_reading_answer ?cc_reading_answer ?k_reading_answer ?a_all_spans ?l_all_spans ?cc_all_spans ?k_all_spans ?a_ny_soonest ?l_ny_soonest ?cc_ny_soonest ?k_ny_soonest ?a_ny_latest ?l_ny_latest ?cc_ny_latest ?k_ny_latest ?a_ny_count ?l_ny_count ?cc_ny_count ?k_ny_count ?a_ny_sure ?l_ny_sure ?cc_ny_sure ?k_ny_sure ?a_ny_when ?l_ny_when ?cc_ny_when ?k_ny_when ?a_ny_apart ?l_ny_apart ?cc_ny_apart ?k_ny_apart ?a_ny_one ?l_ny_one ?cc_ny_one ?k_ny_one ?a_ny_rounds ?l_ny_rounds ?cc_ny_rounds ?k_ny_rounds ?a_ny_could ?l_ny_could ?cc_ny_could ?k_ny_could ?a_change_answer ?l_change_answer ?cc_change_answer ?k_change_answer ?a_reading_question_answer ?l_reading_question_answer ?cc_reading_question_answer ?k_reading_question_answer ?a_question_answer ?l_question_answer ?cc_question_answer ?k_question_answer ?a_call_answer ?l_call_answer ?cc_call_answer ?k_call_answer ?a_answers ?l_answers ?cc_answers ?k_answers ?g_ALREADY_SO ?g_CANNOT_BE ?g_COUNTED_UP_TO ?g_FEWEST_NAMES ?g_FULL ?g_HIGHEST_FIRST_YEAR ?g_HIGHEST_YEAR ?g_MOST_CHANGES ?g_MOST_ENTRIES ?g_MOST_NAMES ?g_MOST_REIGN_YEARS ?g_NOTHING_TO_END ?g_NOT_THERE ?g_OUT_OF_BOUNDS ?g_CHANGES ?l_CHANGES ?g_NUMBERS_BEHIND ?l_NUMBERS_BEHIND ?g_READING_QUESTIONS ?l_READING_QUESTIONS ?z_all ?z_len ?z_list ?z_max ?z_range ?z_reversed ?z_sum ?z_zip
    (case a_History => k_is)
    (case pg_History => k_is)
    (case hd_History => k_is)
    (case po_History => k_is)
    (case sa_History => k_is)
    (case mk_History => k_is)
    (case kc_History => k_is)
    (case no_History_past => k_is)
    (case no_History_undone => k_is)
    (case a_Entry => k_is)
    (case pg_Entry => k_is)
    (case hd_Entry => k_is)
    (case po_Entry => k_is)
    (case sa_Entry => k_is)
    (case mk_Entry => k_is)
    (case kc_Entry => k_is)
    (case no_Entry_name => k_is)
    (case no_Entry_reign_year => k_is)
    (case no_Entry_known => k_is)
    (case a_Chronicle => k_is)
    (case pg_Chronicle => k_is)
    (case hd_Chronicle => k_is)
    (case po_Chronicle => k_is)
    (case sa_Chronicle => k_is)
    (case mk_Chronicle => k_is)
    (case kc_Chronicle => k_is)
    (case no_Chronicle_reign_length => k_is)
    (case no_Chronicle_name_total => k_is)
    (case no_Chronicle_first_year => k_is)
    (case no_Chronicle_last_year => k_is)
    (case no_Chronicle_entries => k_is)
    (case no_Chronicle_history => k_is)
    (case a_Span => k_is)
    (case pg_Span => k_is)
    (case hd_Span => k_is)
    (case po_Span => k_is)
    (case sa_Span => k_is)
    (case mk_Span => k_is)
    (case kc_Span => k_is)
    (case no_Span_soonest => k_is)
    (case no_Span_latest => k_is)
    (case a_History_init => k_is)
    (case i_History_init => k_is)
    (case l_History_init => k_is)
    (case cc_History_init => k_is)
    (case k_History_init => k_is)
    (case a_History_note_change => k_is)
    (case i_History_note_change => k_is)
    (case l_History_note_change => k_is)
    (case cc_History_note_change => k_is)
    (case k_History_note_change => k_is)
    (case a_History_take_back => k_is)
    (case i_History_take_back => k_is)
    (case l_History_take_back => k_is)
    (case cc_History_take_back => k_is)
    (case k_History_take_back => k_is)
    (case a_History_do_again => k_is)
    (case i_History_do_again => k_is)
    (case l_History_do_again => k_is)
    (case cc_History_do_again => k_is)
    (case k_History_do_again => k_is)
    (case a_Entry_init => k_is)
    (case i_Entry_init => k_is)
    (case l_Entry_init => k_is)
    (case cc_Entry_init => k_is)
    (case k_Entry_init => k_is)
    (case a_Chronicle_init => k_is)
    (case i_Chronicle_init => k_is)
    (case l_Chronicle_init => k_is)
    (case cc_Chronicle_init => k_is)
    (case k_Chronicle_init => k_is)
    (case a_Chronicle_begin => k_is)
    (case i_Chronicle_begin => k_is)
    (case l_Chronicle_begin => k_is)
    (case cc_Chronicle_begin => k_is)
    (case k_Chronicle_begin => k_is)
    (case a_Chronicle_has_entry => k_is)
    (case i_Chronicle_has_entry => k_is)
    (case l_Chronicle_has_entry => k_is)
    (case cc_Chronicle_has_entry => k_is)
    (case k_Chronicle_has_entry => k_is)
    (case a_Chronicle_state => k_is)
    (case i_Chronicle_state => k_is)
    (case l_Chronicle_state => k_is)
    (case cc_Chronicle_state => k_is)
    (case k_Chronicle_state => k_is)
    (case a_Chronicle_return_to => k_is)
    (case i_Chronicle_return_to => k_is)
    (case l_Chronicle_return_to => k_is)
    (case cc_Chronicle_return_to => k_is)
    (case k_Chronicle_return_to => k_is)
    (case a_Chronicle_change_entries => k_is)
    (case i_Chronicle_change_entries => k_is)
    (case l_Chronicle_change_entries => k_is)
    (case cc_Chronicle_change_entries => k_is)
    (case k_Chronicle_change_entries => k_is)
    (case a_Chronicle_change_last_year => k_is)
    (case i_Chronicle_change_last_year => k_is)
    (case l_Chronicle_change_last_year => k_is)
    (case cc_Chronicle_change_last_year => k_is)
    (case k_Chronicle_change_last_year => k_is)
    (case a_Chronicle_change_known => k_is)
    (case i_Chronicle_change_known => k_is)
    (case l_Chronicle_change_known => k_is)
    (case cc_Chronicle_change_known => k_is)
    (case k_Chronicle_change_known => k_is)
    (case a_Chronicle_step_back => k_is)
    (case i_Chronicle_step_back => k_is)
    (case l_Chronicle_step_back => k_is)
    (case cc_Chronicle_step_back => k_is)
    (case k_Chronicle_step_back => k_is)
    (case a_Chronicle_step_again => k_is)
    (case i_Chronicle_step_again => k_is)
    (case l_Chronicle_step_again => k_is)
    (case cc_Chronicle_step_again => k_is)
    (case k_Chronicle_step_again => k_is)
    (case a_round_length => k_is)
    (case l_round_length => k_is)
    (case cc_round_length => k_is)
    (case k_round_length => k_is)
    (case a_year_name => k_is)
    (case l_year_name => k_is)
    (case cc_year_name => k_is)
    (case k_year_name => k_is)
    (case a_year_in_reign => k_is)
    (case l_year_in_reign => k_is)
    (case cc_year_in_reign => k_is)
    (case k_year_in_reign => k_is)
    (case a_year_round => k_is)
    (case l_year_round => k_is)
    (case cc_year_round => k_is)
    (case k_year_round => k_is)
    (case a_told_years => k_is)
    (case l_told_years => k_is)
    (case cc_told_years => k_is)
    (case k_told_years => k_is)
    (case a_entry_years => k_is)
    (case l_entry_years => k_is)
    (case cc_entry_years => k_is)
    (case k_entry_years => k_is)
    (case a_all_entry_years => k_is)
    (case l_all_entry_years => k_is)
    (case cc_all_entry_years => k_is)
    (case k_all_entry_years => k_is)
    (case a_fits_as_last_year => k_is)
    (case l_fits_as_last_year => k_is)
    (case cc_fits_as_last_year => k_is)
    (case k_fits_as_last_year => k_is)
    (case a_fits_as_start => k_is)
    (case l_fits_as_start => k_is)
    (case cc_fits_as_start => k_is)
    (case k_fits_as_start => k_is)
    (case a_ny_start => k_is)
    (case l_ny_start => k_is)
    (case cc_ny_start => k_is)
    (case k_ny_start => k_is)
    (case a_ny_tell => k_is)
    (case l_ny_tell => k_is)
    (case cc_ny_tell => k_is)
    (case k_ny_tell => k_is)
    (case a_ny_drop => k_is)
    (case l_ny_drop => k_is)
    (case cc_ny_drop => k_is)
    (case k_ny_drop => k_is)
    (case a_ny_know => k_is)
    (case l_ny_know => k_is)
    (case cc_ny_know => k_is)
    (case k_ny_know => k_is)
    (case a_ny_forget => k_is)
    (case l_ny_forget => k_is)
    (case cc_ny_forget => k_is)
    (case k_ny_forget => k_is)
    (case a_ny_up_to => k_is)
    (case l_ny_up_to => k_is)
    (case cc_ny_up_to => k_is)
    (case k_ny_up_to => k_is)
    (case a_ny_back => k_is)
    (case l_ny_back => k_is)
    (case cc_ny_back => k_is)
    (case k_ny_back => k_is)
    (case a_ny_again => k_is)
    (case l_ny_again => k_is)
    (case cc_ny_again => k_is)
    (case k_ny_again => k_is)
    (case a_ny_name => k_is)
    (case l_ny_name => k_is)
    (case cc_ny_name => k_is)
    (case k_ny_name => k_is)
    (case a_ny_years => k_is)
    (case l_ny_years => k_is)
    (case cc_ny_years => k_is)
    (case k_ny_years => k_is)
    (case a_ny_told => k_is)
    (case l_ny_told => k_is)
    (case cc_ny_told => k_is)
    (case k_ny_told => k_is)
    (case a_ny_state => k_is)
    (case l_ny_state => k_is)
    (case cc_ny_state => k_is)
    (case k_ny_state => k_is)
    (case a_Span_init => k_is)
    (case i_Span_init => k_is)
    (case l_Span_init => k_is)
    (case cc_Span_init => k_is)
    (case k_Span_init => k_is)
    (case a_Span_is_one_year => k_is)
    (case i_Span_is_one_year => k_is)
    (case l_Span_is_one_year => k_is)
    (case cc_Span_is_one_year => k_is)
    (case k_Span_is_one_year => k_is)
    (case a_first_later => k_is)
    (case l_first_later => k_is)
    (case cc_first_later => k_is)
    (case k_first_later => k_is)
    (case a_last_earlier => k_is)
    (case l_last_earlier => k_is)
    (case cc_last_earlier => k_is)
    (case k_last_earlier => k_is)
    (case a_soonest_reading => k_is)
    (case l_soonest_reading => k_is)
    (case cc_soonest_reading => k_is)
    (case k_soonest_reading => k_is)
    (case a_latest_reading => k_is)
    (case l_latest_reading => k_is)
    (case cc_latest_reading => k_is)
    (case k_latest_reading => k_is)
    (case a_entry_spans => k_is)
    (case l_entry_spans => k_is)
    (case cc_entry_spans => k_is)
    (case k_entry_spans => k_is)
    (case a_ways_to_reach => k_is)
    (case l_ways_to_reach => k_is)
    (case cc_ways_to_reach => k_is)
    (case k_ways_to_reach => k_is)
    (case a_count_readings => k_is)
    (case l_count_readings => k_is)
    (case cc_count_readings => k_is)
    (case k_count_readings => k_is)
    (case a_reading_answer => k_is)
    (case l_reading_answer => k_is)
    (case cc_reading_answer => k_is)
    (case k_reading_answer => k_is)
    (case a_all_spans => k_is)
    (case l_all_spans => k_is)
    (case cc_all_spans => k_is)
    (case k_all_spans => k_is)
    (case a_ny_soonest => k_is)
    (case l_ny_soonest => k_is)
    (case cc_ny_soonest => k_is)
    (case k_ny_soonest => k_is)
    (case a_ny_latest => k_is)
    (case l_ny_latest => k_is)
    (case cc_ny_latest => k_is)
    (case k_ny_latest => k_is)
    (case a_ny_count => k_is)
    (case l_ny_count => k_is)
    (case cc_ny_count => k_is)
    (case k_ny_count => k_is)
    (case a_ny_sure => k_is)
    (case l_ny_sure => k_is)
    (case cc_ny_sure => k_is)
    (case k_ny_sure => k_is)
    (case a_ny_when => k_is)
    (case l_ny_when => k_is)
    (case cc_ny_when => k_is)
    (case k_ny_when => k_is)
    (case a_ny_apart => k_is)
    (case l_ny_apart => k_is)
    (case cc_ny_apart => k_is)
    (case k_ny_apart => k_is)
    (case a_ny_one => k_is)
    (case l_ny_one => k_is)
    (case cc_ny_one => k_is)
    (case k_ny_one => k_is)
    (case a_ny_rounds => k_is)
    (case l_ny_rounds => k_is)
    (case cc_ny_rounds => k_is)
    (case k_ny_rounds => k_is)
    (case a_ny_could => k_is)
    (case l_ny_could => k_is)
    (case cc_ny_could => k_is)
    (case k_ny_could => k_is)
    (case a_change_answer => k_is)
    (case l_change_answer => k_is)
    (case cc_change_answer => k_is)
    (case k_change_answer => k_is)
    (case a_reading_question_answer => k_is)
    (case l_reading_question_answer => k_is)
    (case cc_reading_question_answer => k_is)
    (case k_reading_question_answer => k_is)
    (case a_question_answer => k_is)
    (case l_question_answer => k_is)
    (case cc_question_answer => k_is)
    (case k_question_answer => k_is)
    (case a_call_answer => k_is)
    (case l_call_answer => k_is)
    (case cc_call_answer => k_is)
    (case k_call_answer => k_is)
    (case a_answers => k_is)
    (case l_answers => k_is)
    (case cc_answers => k_is)
    (case k_answers => k_is)
    (case g_ALREADY_SO => k_is)
    (case g_CANNOT_BE => k_is)
    (case g_COUNTED_UP_TO => k_is)
    (case g_FEWEST_NAMES => k_is)
    (case g_FULL => k_is)
    (case g_HIGHEST_FIRST_YEAR => k_is)
    (case g_HIGHEST_YEAR => k_is)
    (case g_MOST_CHANGES => k_is)
    (case g_MOST_ENTRIES => k_is)
    (case g_MOST_NAMES => k_is)
    (case g_MOST_REIGN_YEARS => k_is)
    (case g_NOTHING_TO_END => k_is)
    (case g_NOT_THERE => k_is)
    (case g_OUT_OF_BOUNDS => k_is)
    (case g_CHANGES => k_is)
    (case l_CHANGES => k_is)
    (case g_NUMBERS_BEHIND => k_is)
    (case l_NUMBERS_BEHIND => k_is)
    (case g_READING_QUESTIONS => k_is)
    (case l_READING_QUESTIONS => k_is)
    (case z_all => k_is)
    (case z_len => k_is)
    (case z_list => k_is)
    (case z_max => k_is)
    (case z_range => k_is)
    (case z_reversed => k_is)
    (case z_sum => k_is)
    (case z_zip => k_is)
  case S =>
    intro K H xs a hO hwi hask hx
    cases hx with
    | cons h1 h2 =>
      cases h2
      cases h1 with
      | lst hs ha =>
        have e := L2.ints_dw a.1 _ ha
        subst e
        have q : ((Codec.inLen 0 6000 a.1 && a.1.all (Codec.inInt 0 4294967295)) && true) = true := hwi
        rw [Bool.and_eq_true, Bool.and_eq_true] at q
        exact ⟨_, a.1, rfl, hs, (Codec.inNat_iff.mp q.1.1).2, hask, fun H2 p hp => .lst (L2.SqL.of hp) (L2.dw_ints _)⟩


