import PyProof.Rows.All
import Wide.All
import OpenK.AllK
import Wide.FinOn
import Open.SpecLaws
import KE.OsGo
import HandS.ForSpec
import HandS.ForMost
import PySem.Challenge.RW_roomsforever_s01_answers
import HandS.SortKw
import KE.KMinKey
import HandS.Walk
import KE.SortKeyHeap
import HandS.Nested
import HandS.EndTab
import HandS.HeadHook4
import HandS.CallLocal
import KE.HD4
set_option Elab.async false
section

namespace RM
open Cl05
/-- it is within its times, be it given up or not -/
def InR (p : Plan) (k : Nat) : Prop := (p.days = 0 → k = 0) ∧ (p.days ≠ 0 → p.times = 0 ∨ k < p.times)
theorem hasTime_iff {p : Plan} {k : Nat} : hasTime p k = true ↔ InR p k ∧ k ∉ p.skipped := by
  unfold hasTime InR
  by_cases h : p.days = 0
  · simp [h]
  · simp [h]
theorem InR.le {p : Plan} {k l : Nat} (h : InR p k) (hl : l ≤ k) : InR p l := by
  refine ⟨fun e => ?_, fun e => ?_⟩
  · have := h.1 e; omega
  · rcases h.2 e with z | z
    · exact Or.inl z
    · exact Or.inr (by omega)
/-- a plan's length is as it may be -/
structure Len (p : Plan) : Prop where
  lo : 1 ≤ p.long
  hi : p.long ≤ 1440
theorem per_pos {p : Plan} (h : p.days ≠ 0) : 1440 ≤ period p := by unfold period; omega
theorem per_zero {p : Plan} (h : p.days = 0) : period p = 0 := by unfold period; omega
/-- the k-th time of p and the j-th of q share a moment -/
structure Ovl (p q : Plan) (k j : Nat) : Prop where
  hp : hasTime p k = true
  hq : hasTime q j = true
  a : timeOf p k < timeOf q j + q.long
  b : timeOf q j < timeOf p k + p.long
def at_ (p q : Plan) (k j : Nat) : Nat := max (timeOf p k) (timeOf q j)
/-- the first moment that both have, or none -/
def IsFirst (p q : Plan) : Option Nat → Prop
  | none => ∀ k j, ¬ Ovl p q k j
  | some m => (∃ k j, Ovl p q k j ∧ m = at_ p q k j) ∧ ∀ k j, Ovl p q k j → m ≤ at_ p q k j
theorem IsFirst.uniq {p q : Plan} {a b : Option Nat} (ha : IsFirst p q a) (hb : IsFirst p q b) : a = b := by
  cases a with
  | none => cases b with
    | none => rfl
    | some m => obtain ⟨⟨k, j, h, _⟩, _⟩ := hb; exact absurd h (ha k j)
  | some m => cases b with
    | none => obtain ⟨⟨k, j, h, _⟩, _⟩ := ha; exact absurd h (hb k j)
    | some n =>
      obtain ⟨⟨k, j, h, e⟩, l⟩ := ha
      obtain ⟨⟨k', j', h', e'⟩, l'⟩ := hb
      have h1 := l k' j' h'
      have h2 := l' k j h
      congr 1
      omega
/-- times one behind another don't touch -/
theorem time_lt {p : Plan} (hl : Len p) {k l : Nat} (hk : InR p l) (h : k < l) : timeOf p k + p.long ≤ timeOf p l := by
  have hd : p.days ≠ 0 := fun e => by have := hk.1 e; omega
  have hP := per_pos hd
  have h2 := hl.hi
  unfold timeOf
  have : (k + 1) * period p ≤ l * period p := Nat.mul_le_mul_right _ h
  rw [Nat.succ_mul] at this
  omega
theorem time_mono {p : Plan} {k l : Nat} (h : k ≤ l) : timeOf p k ≤ timeOf p l := by
  unfold timeOf
  have : k * period p ≤ l * period p := Nat.mul_le_mul_right _ h
  omega
/-! ### one stretch against a plan -/
structure Hit (q : Plan) (u n j : Nat) : Prop where
  hq : hasTime q j = true
  a : u < timeOf q j + q.long
  b : timeOf q j < u + n
theorem hit_cond {q : Plan} (hl : Len q) {u n j : Nat} (hn : 1 ≤ n) : (hasTime q j = true ∧ max u (timeOf q j) < min (u + n) (timeOf q j + q.long)) ↔ Hit q u n j := by
  have := hl.lo
  constructor
  · rintro ⟨h, c⟩
    exact ⟨h, by omega, by omega⟩
  · rintro ⟨h, a, b⟩
    exact ⟨h, by omega⟩
theorem around_all {q : Plan} (hl : Len q) {u n j : Nat} (hn : n ≤ 1440) (h : Hit q u n j) : j ∈ around q u := by
  obtain ⟨h0, a, b⟩ := h
  obtain ⟨⟨r1, r2⟩, _⟩ := hasTime_iff.mp h0
  have h2 := hl.hi
  unfold around
  by_cases hd : q.days = 0
  · rw [if_pos hd, r1 hd]; simp
  · rw [if_neg hd]
    have hP := per_pos hd
    unfold timeOf at a b
    by_cases hu : u < q.from_
    · rw [if_pos hu]
      cases j with
      | zero => simp
      | succ j => rw [Nat.succ_mul] at b; omega
    · rw [if_neg hu]
      have e := Nat.div_add_mod (u - q.from_) (period q)
      have m := Nat.mod_lt (u - q.from_) (show period q > 0 by omega)
      rw [Nat.mul_comm] at e
      generalize hk : (u - q.from_) / period q = k at e ⊢
      have lo : ¬ j < k := fun z => by
        have : (j + 1) * period q ≤ k * period q := Nat.mul_le_mul_right _ z
        rw [Nat.succ_mul] at this
        omega
      have hi : ¬ k + 2 ≤ j := fun z => by
        have : (k + 2) * period q ≤ j * period q := Nat.mul_le_mul_right _ z
        rw [Nat.add_mul] at this
        omega
      have : j = k ∨ j = k + 1 := by omega
      rcases this with rfl | rfl <;> simp
/-- in around the first that is hit comes first in time -/
theorem around_sorted {q : Plan} {u : Nat} : (around q u).Pairwise (· < ·) := by
  unfold around
  split
  · simp
  · split
    · simp
    · simp
theorem meetsAt_none {q : Plan} (hl : Len q) {u n : Nat} (hn1 : 1 ≤ n) (hn : n ≤ 1440) (h : meetsAt q u n = none) (j : Nat) : ¬ Hit q u n j := by
  intro hj
  unfold meetsAt at h
  rw [List.findSome?_eq_none_iff] at h
  have := h j (around_all hl hn hj)
  rw [if_pos ((hit_cond hl hn1).mpr hj)] at this
  cases this
theorem meetsAt_some {q : Plan} (hl : Len q) {u n m : Nat} (hn1 : 1 ≤ n) (hn : n ≤ 1440) (h : meetsAt q u n = some m) :
    (∃ j, Hit q u n j ∧ m = max u (timeOf q j)) ∧ ∀ j, Hit q u n j → m ≤ max u (timeOf q j) := by
  unfold meetsAt at h
  rw [List.findSome?_eq_some_iff] at h
  obtain ⟨l1, k, l2, e, hk, hn0⟩ := h
  have c : Hit q u n k ∧ m = max u (timeOf q k) := by
    by_cases c : hasTime q k = true ∧ max u (timeOf q k) < min (u + n) (timeOf q k + q.long)
    · rw [if_pos c] at hk
      exact ⟨(hit_cond hl hn1).mp c, (Option.some.inj hk).symm⟩
    · rw [if_neg c] at hk; cases hk
  refine ⟨⟨k, c⟩, fun j hj => ?_⟩
  have mem := around_all hl hn hj
  rw [e] at mem
  rw [List.mem_append] at mem
  rcases mem with mem | mem
  · have := hn0 j mem
    rw [if_pos ((hit_cond hl hn1).mpr hj)] at this
    cases this
  · have srt := around_sorted (q := q) (u := u)
    rw [e] at srt
    have srt2 := (List.pairwise_append.mp srt).2.1
    rw [List.pairwise_cons] at srt2
    rw [c.2]
    have : k ≤ j := by
      rcases List.mem_cons.mp mem with z | z
      · omega
      · have := srt2.1 j z; omega
    have := time_mono (p := q) this
    omega
end RM
end

section

namespace RM
open Cl05
/-! ### one that is not given up among many -/
theorem drop_one {f : Nat → Nat} (s : Nat) : ∀ (c : List Nat), c.Nodup → (∀ x ∈ c, ∀ y ∈ c, f x = f y → x = y) → c.length ≤ (c.filter fun t => f t != s).length + 1
  | [], _, _ => by simp
  | x :: c, nd, inj => by
    rw [List.nodup_cons] at nd
    have ih := drop_one s c nd.2 fun a ha b hb => inj a (List.mem_cons_of_mem _ ha) b (List.mem_cons_of_mem _ hb)
    by_cases hx : f x = s
    · have : (c.filter fun t => f t != s) = c := by
        rw [List.filter_eq_self]
        intro y hy
        simp only [bne_iff_ne, ne_eq]
        intro e
        have := inj x List.mem_cons_self y (List.mem_cons_of_mem _ hy) (hx.trans e.symm)
        exact nd.1 (this ▸ hy)
      simp [hx, this]
    · simp [hx]
      omega
theorem drop_all {f : Nat → Nat} : ∀ (l c : List Nat), c.Nodup → (∀ x ∈ c, ∀ y ∈ c, f x = f y → x = y) → ∃ c' : List Nat, c'.Nodup ∧ (∀ x ∈ c', x ∈ c) ∧ c.length ≤ c'.length + l.length ∧ ∀ x ∈ c', f x ∉ l
  | [], c, nd, _ => ⟨c, nd, fun _ h => h, by simp, by simp⟩
  | s :: l, c, nd, inj => by
    obtain ⟨c', n', s', l', k'⟩ := drop_all (f := f) l (c.filter fun t => f t != s) (nd.filter _) fun x hx y hy => inj x (List.mem_filter.mp hx).1 y (List.mem_filter.mp hy).1
    refine ⟨c', n', fun x hx => (List.mem_filter.mp (s' x hx)).1, ?_, fun x hx => ?_⟩
    · have := drop_one (f := f) s c nd inj
      simp only [List.length_cons]
      omega
    · have h1 := (List.mem_filter.mp (s' x hx)).2
      simp only [bne_iff_ne, ne_eq] at h1
      simp only [List.mem_cons, not_or]
      exact ⟨h1, k' x hx⟩
theorem one_left {f g : Nat → Nat} (l r : List Nat) (c : List Nat) (nd : c.Nodup) (fi : ∀ x ∈ c, ∀ y ∈ c, f x = f y → x = y) (gi : ∀ x ∈ c, ∀ y ∈ c, g x = g y → x = y) (hc : l.length + r.length < c.length) : ∃ t ∈ c, f t ∉ l ∧ g t ∉ r := by
  obtain ⟨c1, n1, s1, l1, k1⟩ := drop_all l c nd fi
  obtain ⟨c2, n2, s2, l2, k2⟩ := drop_all (f := g) r c1 n1 fun x hx y hy => gi x (s1 x hx) y (s1 y hy)
  cases c2 with
  | nil => simp at l2; omega
  | cons t c2 => exact ⟨t, s1 t (s2 t List.mem_cons_self), k1 t (s2 t List.mem_cons_self), k2 t List.mem_cons_self⟩
/-! ### the first of all -/
/-- a pair far out has one ahead of it -/
theorem shift_back {p q : Plan} {k j a b : Nat} (ha : 0 < a) (hb : 0 < b) (hab : a * period p = b * period q) (hN1 : a * (p.skipped.length + q.skipped.length + 1) ≤ k) (hN2 : b * (p.skipped.length + q.skipped.length + 1) ≤ j) (h : Ovl p q k j) :
    ∃ k' j', k' < k ∧ Ovl p q k' j' := by
  obtain ⟨rp, _⟩ := hasTime_iff.mp h.hp
  obtain ⟨rq, _⟩ := hasTime_iff.mp h.hq
  have key : ∀ t, t ≤ p.skipped.length + q.skipped.length + 1 → a * t ≤ k ∧ b * t ≤ j := fun t ht =>
    ⟨Nat.le_trans (Nat.mul_le_mul_left a ht) hN1, Nat.le_trans (Nat.mul_le_mul_left b ht) hN2⟩
  obtain ⟨t, ht, h1, h2⟩ := one_left (f := fun t => k - a * t) (g := fun t => j - b * t) p.skipped q.skipped ((List.range (p.skipped.length + q.skipped.length + 1)).map (· + 1)) (by
      refine List.Pairwise.map _ ?_ List.nodup_range
      intro x y h z
      exact h (by omega)) (fun x hx y hy e => by
      simp only [List.mem_map, List.mem_range] at hx hy
      obtain ⟨x', hx', rfl⟩ := hx
      obtain ⟨y', hy', rfl⟩ := hy
      have k1 := key (x' + 1) (by omega)
      have k2 := key (y' + 1) (by omega)
      have : a * (x' + 1) = a * (y' + 1) := by omega
      exact Nat.eq_of_mul_eq_mul_left ha this) (fun x hx y hy e => by
      simp only [List.mem_map, List.mem_range] at hx hy
      obtain ⟨x', hx', rfl⟩ := hx
      obtain ⟨y', hy', rfl⟩ := hy
      have k1 := key (x' + 1) (by omega)
      have k2 := key (y' + 1) (by omega)
      have : b * (x' + 1) = b * (y' + 1) := by omega
      exact Nat.eq_of_mul_eq_mul_left hb this) (by simp)
  simp only [List.mem_map, List.mem_range] at ht
  obtain ⟨t', ht', rfl⟩ := ht
  obtain ⟨k1, k2⟩ := key (t' + 1) (by omega)
  have kp : 0 < a * (t' + 1) := Nat.mul_pos ha (by omega)
  refine ⟨k - a * (t' + 1), j - b * (t' + 1), by omega, hasTime_iff.mpr ⟨rp.le (by omega), h1⟩, hasTime_iff.mpr ⟨rq.le (by omega), h2⟩, ?_, ?_⟩
  all_goals
    have ea := h.a
    have eb := h.b
    unfold timeOf at *
    rw [Nat.sub_mul, Nat.sub_mul]
    have e1 : a * (t' + 1) * period p = b * (t' + 1) * period q := by
      rw [Nat.mul_right_comm, hab, Nat.mul_right_comm]
    have l1 : a * (t' + 1) * period p ≤ k * period p := Nat.mul_le_mul_right _ k1
    have l2 : b * (t' + 1) * period q ≤ j * period q := Nat.mul_le_mul_right _ k2
    omega
def first (p q : Plan) : Nat := if p.days = 0 ∨ q.from_ ≤ p.from_ then 0 else (q.from_ - p.from_) / period p - 1
def many (p q : Plan) : Nat := if p.days = 0 then 1 else (if q.days = 0 then 3 else q.days / Nat.gcd p.days q.days * (p.skipped.length + q.skipped.length + 2) + 3)
theorem first_le {p q : Plan} (lp : Len p) {k j : Nat} (h : Ovl p q k j) : first p q ≤ k := by
  unfold first
  split
  · omega
  · rename_i c
    have hd : p.days ≠ 0 := fun z => c (Or.inl z)
    have hf : ¬ q.from_ ≤ p.from_ := fun z => c (Or.inr z)
    have hP := per_pos hd
    have hb := h.b
    have hl := lp.hi
    unfold timeOf at hb
    have e := Nat.div_mul_le_self (q.from_ - p.from_) (period p)
    generalize (q.from_ - p.from_) / period p = D at e ⊢
    apply Decidable.byContradiction
    intro z
    have : (k + 2) * period p ≤ D * period p := Nat.mul_le_mul_right _ (by omega)
    rw [Nat.add_mul] at this
    have : 0 ≤ j * period q := Nat.zero_le _
    omega
/-- of a pair behind the window there is one ahead of it -/
theorem ahead {p q : Plan} (lp : Len p) (lq : Len q) {k j : Nat} (h : Ovl p q k j) (hk : first p q + many p q ≤ k) : ∃ k' j', k' < k ∧ Ovl p q k' j' := by
  obtain ⟨rp, _⟩ := hasTime_iff.mp h.hp
  obtain ⟨rq, _⟩ := hasTime_iff.mp h.hq
  have ha := h.a
  have hql := lq.hi
  by_cases hd : p.days = 0
  · have := rp.1 hd
    unfold many at hk
    rw [if_pos hd] at hk
    omega
  have hP := per_pos hd
  have hD : (first p q + 2) * period p + p.from_ > q.from_ := by
    unfold first
    split
    · rename_i c
      rcases c with c | c
      · exact absurd c hd
      · rw [Nat.zero_add]; omega
    · rename_i c
      have e := Nat.div_add_mod (q.from_ - p.from_) (period p)
      have m := Nat.mod_lt (q.from_ - p.from_) (show period p > 0 by omega)
      rw [Nat.mul_comm] at e
      generalize (q.from_ - p.from_) / period p = D at e ⊢
      have : (D + 1) * period p ≤ (D - 1 + 2) * period p := Nat.mul_le_mul_right _ (by omega)
      rw [Nat.succ_mul] at this
      omega
  unfold many at hk
  rw [if_neg hd] at hk
  unfold timeOf at ha
  by_cases hd2 : q.days = 0
  · rw [if_pos hd2] at hk
    rw [per_zero hd2] at ha
    have : (first p q + 2 + 1) * period p ≤ k * period p := Nat.mul_le_mul_right _ (by omega)
    rw [Nat.succ_mul] at this
    omega
  · rw [if_neg hd2] at hk
    have hQ := per_pos hd2
    have hg : 0 < Nat.gcd p.days q.days := Nat.gcd_pos_of_pos_left _ (by omega)
    obtain ⟨b, hb⟩ := Nat.gcd_dvd_left p.days q.days
    obtain ⟨a, ea⟩ := Nat.gcd_dvd_right p.days q.days
    generalize hG : Nat.gcd p.days q.days = g at hk hg hb ea
    have ea' : q.days / g = a := by rw [ea, Nat.mul_div_cancel_left _ hg]
    rw [ea'] at hk
    have pa : 0 < a := Nat.pos_of_ne_zero fun z => hd2 (by rw [ea, z, Nat.mul_zero])
    have pb : 0 < b := Nat.pos_of_ne_zero fun z => hd (by rw [hb, z, Nat.mul_zero])
    have hab : a * period p = b * period q := by
      unfold period
      rw [hb, ea]
      rw [show a * (1440 * (g * b)) = b * (1440 * (g * a)) by simp [Nat.mul_comm, Nat.mul_left_comm, Nat.mul_assoc]]
    generalize hN : p.skipped.length + q.skipped.length = n at hk
    have s1 : a * (n + 2) = a * (n + 1) + a := by rw [← Nat.mul_succ]
    have hk2 : (first p q + 2 + a * (n + 2) + 1) * period p ≤ k * period p := Nat.mul_le_mul_right _ (by omega)
    rw [Nat.succ_mul, Nat.add_mul] at hk2
    have e3 : a * (n + 2) * period p = b * (n + 2) * period q := by
      rw [Nat.mul_right_comm, hab, Nat.mul_right_comm]
    have hj : b * (n + 2) * period q < j * period q := by omega
    have hj2 : b * (n + 2) < j := Nat.lt_of_mul_lt_mul_right hj
    have s2 : b * (n + 2) = b * (n + 1) + b := by rw [← Nat.mul_succ]
    exact shift_back pa pb hab (by rw [hN]; omega) (by rw [hN]; omega) h
theorem ahead_in {p q : Plan} (lp : Len p) (lq : Len q) : ∀ (k j : Nat), Ovl p q k j → ∃ k' j', k' ≤ k ∧ k' < first p q + many p q ∧ Ovl p q k' j' := by
  intro k
  induction k using Nat.strongRecOn with
  | _ k ih =>
    intro j h
    by_cases c : k < first p q + many p q
    · exact ⟨k, j, Nat.le_refl _, c, h⟩
    · obtain ⟨k1, j1, l1, h1⟩ := ahead lp lq h (by omega)
      obtain ⟨k2, j2, l2, c2, h2⟩ := ih k1 l1 j1 h1
      exact ⟨k2, j2, by omega, c2, h2⟩
theorem meets_first {p q : Plan} (lp : Len p) (lq : Len q) : IsFirst p q (meets p q) := by
  have eM : meets p q = (List.range (many p q)).findSome? fun (i : Nat) => if hasTime p (first p q + i) = true then meetsAt q (timeOf p (first p q + i)) p.long else none := rfl
  have hit : ∀ {k j}, hasTime p k = true → (Hit q (timeOf p k) p.long j ↔ Ovl p q k j) := fun hk => ⟨fun ⟨a, b, c⟩ => ⟨hk, a, b, c⟩, fun ⟨_, a, b, c⟩ => ⟨a, b, c⟩⟩
  cases e : meets p q with
  | none =>
    intro k j h
    rw [eM, List.findSome?_eq_none_iff] at e
    obtain ⟨k', j', _, l2, h'⟩ := ahead_in lp lq k j h
    have l1 := first_le lp h'
    have := e (k' - first p q) (by rw [List.mem_range]; omega)
    rw [show first p q + (k' - first p q) = k' by omega, if_pos h'.hp] at this
    exact meetsAt_none lq lp.lo lp.hi this j' ((hit h'.hp).mpr h')
  | some m =>
    rw [eM, List.findSome?_eq_some_iff] at e
    obtain ⟨l1, i, l2, er, hi, hn⟩ := e
    by_cases c : hasTime p (first p q + i) = true
    · rw [if_pos c] at hi
      obtain ⟨⟨j, hj, em⟩, least⟩ := meetsAt_some lq lp.lo lp.hi hi
      have hO := (hit c).mp hj
      refine ⟨⟨first p q + i, j, hO, em⟩, fun k' j' h' => ?_⟩
      obtain ⟨k2, j2, c1, c2, h2⟩ := ahead_in lp lq k' j' h'
      have c3 := first_le lp h2
      -- k2 is none of those ahead of i
      have hge : first p q + i ≤ k2 := by
        apply Decidable.byContradiction
        intro z
        have srt : (List.range (many p q)).Pairwise (· < ·) := List.pairwise_lt_range
        have mem : k2 - first p q ∈ List.range (many p q) := by rw [List.mem_range]; omega
        rw [er] at srt mem
        rw [List.mem_append, List.mem_cons] at mem
        rcases mem with mem | mem | mem
        · have := hn _ mem
          rw [show first p q + (k2 - first p q) = k2 by omega, if_pos h2.hp] at this
          exact meetsAt_none lq lp.lo lp.hi this j2 ((hit h2.hp).mpr h2)
        · omega
        · have := (List.pairwise_cons.mp (List.pairwise_append.mp srt).2.1).1 _ mem
          omega
      by_cases ek : k' = first p q + i
      · subst ek
        exact least j' ((hit c).mpr h')
      · have lt := time_lt lp (hasTime_iff.mp h'.hp).1 (show first p q + i < k' by omega)
        have := hO.b
        have := hO.a
        unfold at_
        have hj1 := hj.b
        have := lp.lo
        omega
    · rw [if_neg c] at hi; cases hi
end RM
end

section

namespace RM
open Cl05
/-! ### pairs by how far the one begins behind the other -/
structure AtLead (p q : Plan) (L : Int) (k j : Nat) : Prop where
  hp : hasTime p k = true
  hq : hasTime q j = true
  e : (timeOf q j : Int) = timeOf p k + L
def IsLead (p q : Plan) (L : Int) : Option Nat → Prop
  | none => ∀ k j, ¬ AtLead p q L k j
  | some m => (∃ k j, AtLead p q L k j ∧ m = at_ p q k j) ∧ ∀ k j, AtLead p q L k j → m ≤ at_ p q k j
theorem timeOf_int (p : Plan) (k : Nat) : (timeOf p k : Int) = p.from_ + 1440 * ((k : Int) * p.days) := by
  unfold timeOf period
  rw [Int.natCast_add, Int.natCast_mul, Int.natCast_mul, Int.mul_left_comm]
  rfl
/-- a lead that a pair may have -/
def InL (p q : Plan) (L : Int) : Prop := -(q.long : Int) < L ∧ L < p.long
def behind (p q : Plan) : Int := ((q.from_ : Int) - p.from_) % 1440
theorem ovl_lead {p q : Plan} (lp : Len p) (lq : Len q) {k j : Nat} : Ovl p q k j ↔ ∃ L, (L = behind p q ∨ L = behind p q - 1440) ∧ InL p q L ∧ AtLead p q L k j := by
  have h1 := lp.hi
  have h2 := lq.hi
  constructor
  · rintro ⟨hp, hq, a, b⟩
    refine ⟨(timeOf q j : Int) - timeOf p k, ?_, ⟨by omega, by omega⟩, hp, hq, by omega⟩
    have e1 := timeOf_int p k
    have e2 := timeOf_int q j
    unfold behind
    generalize (k : Int) * p.days = x at e1
    generalize (j : Int) * q.days = y at e2
    omega
  · rintro ⟨L, _, ⟨a, b⟩, hp, hq, e⟩
    exact ⟨hp, hq, by omega, by omega⟩
def omin : Option Nat → Option Nat → Option Nat
  | none, b => b
  | some a, none => some a
  | some a, some b => some (min a b)
def LeadOr (p q : Plan) (L : Int) (o : Option Nat) : Prop := (InL p q L → IsLead p q L o) ∧ (¬ InL p q L → o = none)
theorem isFirst_of {p q : Plan} (lp : Len p) (lq : Len q) {a b : Option Nat} (ha : LeadOr p q (behind p q) a) (hb : LeadOr p q (behind p q - 1440) b) : IsFirst p q (omin a b) := by
  have fa : ∀ m, a = some m → (∃ k j, Ovl p q k j ∧ m = at_ p q k j) := fun m e => by
    by_cases c : InL p q (behind p q)
    · have := ha.1 c
      rw [e] at this
      obtain ⟨⟨k, j, h, em⟩, _⟩ := this
      exact ⟨k, j, (ovl_lead lp lq).mpr ⟨_, Or.inl rfl, c, h⟩, em⟩
    · have := ha.2 c
      rw [e] at this
      cases this
  have fb : ∀ m, b = some m → (∃ k j, Ovl p q k j ∧ m = at_ p q k j) := fun m e => by
    by_cases c : InL p q (behind p q - 1440)
    · have := hb.1 c
      rw [e] at this
      obtain ⟨⟨k, j, h, em⟩, _⟩ := this
      exact ⟨k, j, (ovl_lead lp lq).mpr ⟨_, Or.inr rfl, c, h⟩, em⟩
    · have := hb.2 c
      rw [e] at this
      cases this
  have all : ∀ k j, Ovl p q k j → (∃ m, a = some m ∧ m ≤ at_ p q k j) ∨ (∃ m, b = some m ∧ m ≤ at_ p q k j) := fun k j h => by
    obtain ⟨L, hL, hI, h⟩ := (ovl_lead lp lq).mp h
    rcases hL with rfl | rfl
    · left
      have := ha.1 hI
      cases a with
      | none => exact absurd h (this k j)
      | some m => exact ⟨m, rfl, this.2 k j h⟩
    · right
      have := hb.1 hI
      cases b with
      | none => exact absurd h (this k j)
      | some m => exact ⟨m, rfl, this.2 k j h⟩
  cases a with
  | none =>
    cases b with
    | none =>
      intro k j h
      rcases all k j h with ⟨m, e, _⟩ | ⟨m, e, _⟩ <;> cases e
    | some b =>
      refine ⟨fb b rfl, fun k j h => ?_⟩
      rcases all k j h with ⟨m, e, l⟩ | ⟨m, e, l⟩
      · cases e
      · cases e; exact l
  | some a =>
    cases b with
    | none =>
      refine ⟨fa a rfl, fun k j h => ?_⟩
      rcases all k j h with ⟨m, e, l⟩ | ⟨m, e, l⟩
      · cases e; exact l
      · cases e
    | some b =>
      refine ⟨?_, fun k j h => ?_⟩
      · by_cases c : a ≤ b
        · rw [Nat.min_eq_left c]; exact fa a rfl
        · rw [Nat.min_eq_right (by omega)]; exact fb b rfl
      · rcases all k j h with ⟨m, e, l⟩ | ⟨m, e, l⟩ <;> cases e <;> omega
/-! ### the least match -/
def LM (s t : Nat) (sh : Int) : Option Nat → Prop
  | none => ∀ k j : Nat, (k : Int) * s + sh ≠ j * t
  | some k => (∃ j : Nat, (k : Int) * s + sh = j * t) ∧ ∀ k' j' : Nat, (k' : Int) * s + sh = j' * t → k ≤ k'
/-- where the search begins -/
def least (s : Nat) (sh : Int) : Nat := (max 0 (-(sh / (s : Int)))).toNat
theorem least_iff {s : Nat} {sh : Int} (hs : 0 < s) {k : Nat} : least s sh ≤ k ↔ 0 ≤ (k : Int) * s + sh := by
  unfold least
  have hs' : (0 : Int) < s := by omega
  rw [Int.toNat_le]
  have e : -(sh / (s : Int)) ≤ k ↔ 0 ≤ (k : Int) * s + sh := by
    constructor
    · intro h
      have h1 : (-(k : Int)) ≤ sh / s := by omega
      rw [Int.le_ediv_iff_mul_le hs'] at h1
      rw [Int.neg_mul] at h1
      omega
    · intro h
      have h1 : (-(k : Int)) * s ≤ sh := by rw [Int.neg_mul]; omega
      have := (Int.le_ediv_iff_mul_le hs').mpr h1
      omega
  rw [← e]
  omega
theorem match_iff {s t : Nat} {sh : Int} (hs : 0 < s) (ht : 0 < t) {k : Nat} : (∃ j : Nat, (k : Int) * s + sh = j * t) ↔ least s sh ≤ k ∧ ((k : Int) * s + sh) % t = 0 := by
  rw [least_iff hs]
  constructor
  · rintro ⟨j, e⟩
    have : (0 : Int) ≤ j * t := Int.mul_nonneg (by omega) (by omega)
    exact ⟨by omega, by rw [e, Int.mul_emod_left]⟩
  · rintro ⟨h0, h1⟩
    refine ⟨(((k : Int) * s + sh) / t).toNat, ?_⟩
    have h2 := Int.ediv_nonneg h0 (show (0 : Int) ≤ t by omega)
    rw [Int.toNat_of_nonneg h2]
    have := Int.mul_ediv_add_emod ((k : Int) * s + sh) t
    rw [h1, Int.mul_comm] at this
    omega
theorem lm_some {s t : Nat} {sh : Int} (hs : 0 < s) (ht : 0 < t) {i : Nat} (h : (((least s sh + i : Nat) : Int) * s + sh) % t = 0) (hn : ∀ i', i' < i → ¬ (((least s sh + i' : Nat) : Int) * s + sh) % t = 0) : LM s t sh (some (least s sh + i)) := by
  refine ⟨(match_iff hs ht).mpr ⟨by omega, h⟩, fun k' j' e => ?_⟩
  obtain ⟨l, m⟩ := (match_iff hs ht).mp ⟨j', e⟩
  apply Decidable.byContradiction
  intro z
  refine hn (k' - least s sh) (by omega) ?_
  rw [show least s sh + (k' - least s sh) = k' by omega]
  exact m
theorem lm_none {s t : Nat} {sh : Int} (hs : 0 < s) (ht : 0 < t) (hn : ∀ i', i' < t → ¬ (((least s sh + i' : Nat) : Int) * s + sh) % t = 0) : LM s t sh none := by
  intro k j e
  obtain ⟨l, m⟩ := (match_iff hs ht).mp ⟨j, e⟩
  refine hn ((k - least s sh) % t) (Nat.mod_lt _ ht) ?_
  have hd := Nat.div_add_mod (k - least s sh) t
  generalize (k - least s sh) / t = c at hd
  generalize (k - least s sh) % t = i at hd ⊢
  have ek : (k : Int) = ((least s sh + i : Nat) : Int) + t * c := by
    have : k = least s sh + i + t * c := by omega
    rw [this]; push_cast; rfl
  rw [ek, Int.add_mul] at m
  have : ((least s sh + i : Nat) : Int) * s + t * c * s + sh = ((least s sh + i : Nat) : Int) * s + sh + t * (c * s) := by rw [Int.mul_assoc]; omega
  rw [this, Int.add_mul_emod_self_left] at m
  exact m
/-! ### the loop over the pairs of one lead -/
def step (p : Plan) : Nat := max p.days 1
structure OkP (p : Plan) : Prop where
  len : Len p
  first : p.from_ ≤ 1000000
  days : p.days ≤ 60
  times : p.times ≤ 500
  once : p.days = 0 → p.times = 1
theorem step_pos (p : Plan) : 0 < step p := by unfold step; omega
theorem step_le {p : Plan} (h : OkP p) : step p ≤ 60 := by unfold step; have := h.days; omega
/-- has_time -/
def hasT (p : Plan) (k : Nat) : Bool := p.times == 0 || decide (k < p.times)
theorem hasT_iff {p : Plan} (h : OkP p) {k : Nat} : hasT p k = true ↔ InR p k := by
  unfold hasT InR
  by_cases hd : p.days = 0
  · have := h.once hd
    simp [hd, this]
  · simp [hd]
def shift (p q : Plan) (L : Int) : Int := ((p.from_ : Int) + L - q.from_) / 1440
def Cong (p q : Plan) (L : Int) : Prop := ((p.from_ : Int) + L - q.from_) % 1440 = 0
theorem cong_behind (p q : Plan) : Cong p q (behind p q) := by unfold Cong behind; omega
theorem cong_behind2 (p q : Plan) : Cong p q (behind p q - 1440) := by unfold Cong behind; omega
theorem days_step {p : Plan} {k : Nat} (h : InR p k) : (k : Int) * p.days = k * step p := by
  by_cases hd : p.days = 0
  · rw [h.1 hd]; simp
  · have : step p = p.days := by unfold step; omega
    rw [this]
theorem lead_iff {p q : Plan} {L : Int} (hc : Cong p q L) {k j : Nat} (hk : InR p k) (hj : InR q j) : (timeOf q j : Int) = timeOf p k + L ↔ (k : Int) * step p + shift p q L = j * step q := by
  rw [timeOf_int, timeOf_int, days_step hk, days_step hj]
  unfold shift
  unfold Cong at hc
  generalize (k : Int) * step p = x
  generalize (j : Int) * step q = y
  omega
/-- what holds between two turns -/
structure Turn (p q : Plan) (L : Int) (w r : Nat) : Prop where
  e : (w : Int) * step p + shift p q L = r * step q
  lo : ∀ k j, AtLead p q L k j → w ≤ k ∧ r ≤ j
theorem turn_start {p q : Plan} {L : Int} (hc : Cong p q L) {w : Nat} (h : LM (step p) (step q) (shift p q L) (some w)) : ∃ r : Nat, (w : Int) * step p + shift p q L = r * step q ∧ Turn p q L w r := by
  obtain ⟨⟨r, er⟩, least⟩ := h
  refine ⟨r, er, er, fun k j hA => ?_⟩
  have e := (lead_iff hc (hasTime_iff.mp hA.hp).1 (hasTime_iff.mp hA.hq).1).mp hA.e
  have h1 := least k j e
  refine ⟨h1, ?_⟩
  have h2 : (w : Int) * step p ≤ k * step p := Int.mul_le_mul_of_nonneg_right (by omega) (by omega)
  have h3 : (r : Int) * step q ≤ j * step q := by omega
  have h4 := Int.le_of_mul_le_mul_right h3 (show (0 : Int) < step q by have := step_pos q; omega)
  omega
theorem turn_none0 {p q : Plan} {L : Int} (hc : Cong p q L) (h : LM (step p) (step q) (shift p q L) none) : IsLead p q L none := fun k j hA =>
  h k j ((lead_iff hc (hasTime_iff.mp hA.hp).1 (hasTime_iff.mp hA.hq).1).mp hA.e)
theorem turn_none {p q : Plan} {L : Int} (op : OkP p) (oq : OkP q) {w r : Nat} (h : Turn p q L w r) (hn : ¬ (hasT p w = true ∧ hasT q r = true)) : IsLead p q L none := by
  intro k j hA
  obtain ⟨h1, h2⟩ := h.lo k j hA
  exact hn ⟨(hasT_iff op).mpr ((hasTime_iff.mp hA.hp).1.le h1), (hasT_iff oq).mpr ((hasTime_iff.mp hA.hq).1.le h2)⟩
theorem turn_some {p q : Plan} {L : Int} (op : OkP p) (oq : OkP q) (hc : Cong p q L) {w r : Nat} (h : Turn p q L w r) (hp : hasT p w = true) (hq : hasT q r = true) (np : w ∉ p.skipped) (nq : r ∉ q.skipped) : IsLead p q L (some (at_ p q w r)) := by
  have ip := (hasT_iff op).mp hp
  have iq := (hasT_iff oq).mp hq
  refine ⟨⟨w, r, ⟨hasTime_iff.mpr ⟨ip, np⟩, hasTime_iff.mpr ⟨iq, nq⟩, (lead_iff hc ip iq).mpr h.e⟩, rfl⟩, fun k j hA => ?_⟩
  obtain ⟨h1, h2⟩ := h.lo k j hA
  have := time_mono (p := p) h1
  have := time_mono (p := q) h2
  unfold at_
  omega
theorem turn_next {p q : Plan} {L : Int} (hc : Cong p q L) {w r : Nat} (h : Turn p q L w r) (hs : w ∈ p.skipped ∨ r ∈ q.skipped) : Turn p q L (w + step q / Nat.gcd (step p) (step q)) (r + step p / Nat.gcd (step p) (step q)) := by
  have hg : 0 < Nat.gcd (step p) (step q) := Nat.gcd_pos_of_pos_left _ (step_pos p)
  have sp := step_pos p
  have sq := step_pos q
  have he := h.e
  have hlo := h.lo
  obtain ⟨b, hb⟩ := Nat.gcd_dvd_left (step p) (step q)
  obtain ⟨a, ha⟩ := Nat.gcd_dvd_right (step p) (step q)
  have hco : Nat.Coprime (step p / Nat.gcd (step p) (step q)) (step q / Nat.gcd (step p) (step q)) := Nat.coprime_div_gcd_div_gcd hg
  have eb : step p / Nat.gcd (step p) (step q) = b := by rw [Nat.div_eq_iff_eq_mul_right hg (Nat.gcd_dvd_left _ _)]; exact hb
  have ea : step q / Nat.gcd (step p) (step q) = a := by rw [Nat.div_eq_iff_eq_mul_right hg (Nat.gcd_dvd_right _ _)]; exact ha
  rw [eb, ea] at hco ⊢
  generalize Nat.gcd (step p) (step q) = g at hg hb ha
  have pa : 0 < a := Nat.pos_of_ne_zero fun z => by rw [z, Nat.mul_zero] at ha; omega
  have pb : 0 < b := Nat.pos_of_ne_zero fun z => by rw [z, Nat.mul_zero] at hb; omega
  constructor
  · have : (a : Int) * step p = b * step q := by
      rw [ha, hb]; push_cast
      simp [Int.mul_comm, Int.mul_left_comm]
    push_cast
    rw [Int.add_mul, Int.add_mul]
    omega
  · intro k j hA
    obtain ⟨h1, h2⟩ := hlo k j hA
    have e := (lead_iff hc (hasTime_iff.mp hA.hp).1 (hasTime_iff.mp hA.hq).1).mp hA.e
    have e2 : (((k - w : Nat) : Int)) * step p = ((j - r : Nat) : Int) * step q := by
      rw [Int.ofNat_sub h1, Int.ofNat_sub h2, Int.sub_mul, Int.sub_mul]
      omega
    have e3 : (k - w) * step p = (j - r) * step q := by exact_mod_cast e2
    have ne : k ≠ w := fun z => by
      have z2 : j = r := by
        rw [z, Nat.sub_self, Nat.zero_mul] at e3
        have := Nat.mul_eq_zero.mp e3.symm
        omega
      rcases hs with hs | hs
      · exact (hasTime_iff.mp hA.hp).2 (z ▸ hs)
      · exact (hasTime_iff.mp hA.hq).2 (z2 ▸ hs)
    have e4 : (k - w) * b = (j - r) * a := by
      rw [hb, ha] at e3
      have : g * ((k - w) * b) = g * ((j - r) * a) := by
        rw [Nat.mul_left_comm, e3, Nat.mul_left_comm]
      exact Nat.eq_of_mul_eq_mul_left hg this
    have dv : a ∣ (k - w) := by
      have : a ∣ (k - w) * b := ⟨j - r, by rw [e4, Nat.mul_comm]⟩
      exact Nat.Coprime.dvd_of_dvd_mul_right (Nat.Coprime.symm hco) this
    obtain ⟨c, hcc⟩ := dv
    have pc : 0 < c := Nat.pos_of_ne_zero fun z => by rw [z, Nat.mul_zero] at hcc; omega
    have ej : j - r = c * b := by
      rw [hcc] at e4
      have : a * (j - r) = a * (c * b) := by rw [Nat.mul_comm a (j - r), ← e4, Nat.mul_assoc]
      exact Nat.eq_of_mul_eq_mul_left pa this
    have l1 : a * 1 ≤ a * c := Nat.mul_le_mul_left _ pc
    have l2 : 1 * b ≤ c * b := Nat.mul_le_mul_right _ pc
    omega
/-! ### how long the loop goes on -/
def left (p q : Plan) (w r : Nat) : Nat := (p.skipped.filter fun k => decide (w ≤ k)).length + (q.skipped.filter fun k => decide (r ≤ k)).length
theorem filt_le (l : List Nat) {a b : Nat} (h : a ≤ b) : (l.filter fun k => decide (b ≤ k)).length ≤ (l.filter fun k => decide (a ≤ k)).length := by
  induction l with
  | nil => simp
  | cons x l ih =>
    by_cases h1 : b ≤ x
    · have h2 : a ≤ x := by omega
      simp [h1, h2, ih]
    · by_cases h2 : a ≤ x
      · simp [h1, h2]; omega
      · simp [h1, h2, ih]
theorem filt_lt (l : List Nat) {a b : Nat} (h : a < b) (m : a ∈ l) : (l.filter fun k => decide (b ≤ k)).length < (l.filter fun k => decide (a ≤ k)).length := by
  induction l with
  | nil => cases m
  | cons x l ih =>
    have h3 := filt_le l (Nat.le_of_lt h)
    rcases List.mem_cons.mp m with rfl | m
    · have h1 : ¬ b ≤ a := by omega
      simp [h1]; omega
    · have := ih m
      by_cases h1 : b ≤ x
      · have h2 : a ≤ x := by omega
        simp [h1, h2]; omega
      · by_cases h2 : a ≤ x
        · simp [h1, h2]; omega
        · simp [h1, h2]; omega
theorem left_lt {p q : Plan} {w r a b : Nat} (ha : 0 < a) (hb : 0 < b) (hs : w ∈ p.skipped ∨ r ∈ q.skipped) : left p q (w + a) (r + b) < left p q w r := by
  unfold left
  have l1 := filt_le p.skipped (show w ≤ w + a by omega)
  have l2 := filt_le q.skipped (show r ≤ r + b by omega)
  rcases hs with h | h
  · have := filt_lt p.skipped (show w < w + a by omega) h
    omega
  · have := filt_lt q.skipped (show r < r + b by omega) h
    omega
end RM
end

section

namespace RM
open Cl05
/-! ### at: who has a moment -/
def Has (p : Plan) (u : Nat) : Prop := ∃ k, hasTime p k = true ∧ timeOf p k ≤ u ∧ u < timeOf p k + p.long
theorem at_most_one {p : Plan} (hl : Len p) {k l u : Nat} (hk : InR p k) (hll : InR p l) (a : timeOf p k ≤ u) (b : u < timeOf p k + p.long) (c : timeOf p l ≤ u) (d : u < timeOf p l + p.long) : k = l := by
  rcases Nat.lt_trichotomy k l with h | h | h
  · have := time_lt hl hll h; omega
  · exact h
  · have := time_lt hl hk h; omega
theorem takes_iff {p : Plan} (hl : Len p) {u : Nat} : takes p u = true ↔ Has p u := by
  unfold takes
  simp only [Bool.and_eq_true, decide_eq_true_eq]
  constructor
  · rintro ⟨h1, h2, h3⟩
    refine ⟨_, h2, ?_, h3⟩
    by_cases hd : p.days = 0
    · rw [if_pos hd]
      unfold timeOf
      omega
    · rw [if_neg hd]
      unfold timeOf
      have := Nat.div_mul_le_self (u - p.from_) (period p)
      omega
  · rintro ⟨k, h1, h2, h3⟩
    have hf : p.from_ ≤ u := by
      unfold timeOf at h2
      omega
    have hk := (hasTime_iff.mp h1).1
    have ek : k = if p.days = 0 then 0 else (u - p.from_) / period p := by
      by_cases hd : p.days = 0
      · rw [if_pos hd]; exact hk.1 hd
      · rw [if_neg hd]
        have hP := per_pos hd
        have hh := hl.hi
        unfold timeOf at h2 h3
        have e := Nat.div_add_mod (u - p.from_) (period p)
        have m := Nat.mod_lt (u - p.from_) (show period p > 0 by omega)
        rw [Nat.mul_comm] at e
        generalize (u - p.from_) / period p = q at e
        rcases Nat.lt_trichotomy k q with h | h | h
        · have : (k + 1) * period p ≤ q * period p := Nat.mul_le_mul_right _ h
          rw [Nat.succ_mul] at this
          omega
        · exact h
        · have : (q + 1) * period p ≤ k * period p := Nat.mul_le_mul_right _ h
          rw [Nat.succ_mul] at this
          omega
    rw [← ek]
    exact ⟨hf, h1, h3⟩
/-! ### next: the first time that begins from a moment on -/
def IsNext (p : Plan) (u : Nat) : Option Nat → Prop
  | none => ∀ k, hasTime p k = true → timeOf p k < u
  | some t => (∃ k, hasTime p k = true ∧ timeOf p k = t) ∧ u ≤ t ∧ ∀ k, hasTime p k = true → u ≤ timeOf p k → t ≤ timeOf p k
theorem IsNext.uniq {p : Plan} {u : Nat} {a b : Option Nat} (ha : IsNext p u a) (hb : IsNext p u b) : a = b := by
  cases a with
  | none => cases b with
    | none => rfl
    | some m => obtain ⟨⟨k, h, e⟩, l, _⟩ := hb; have := ha k h; omega
  | some m => cases b with
    | none => obtain ⟨⟨k, h, e⟩, l, _⟩ := ha; have := hb k h; omega
    | some n =>
      obtain ⟨⟨k, h, e⟩, l, z⟩ := ha
      obtain ⟨⟨k', h', e'⟩, l', z'⟩ := hb
      have h1 := z k' h' (by omega)
      have h2 := z' k h (by omega)
      congr 1
      omega
def from_k (p : Plan) (u : Nat) : Nat := if p.days = 0 ∨ u ≤ p.from_ then 0 else (u - p.from_ + period p - 1) / period p
theorem from_k_le {p : Plan} {u k : Nat} (hk : InR p k) (h : u ≤ timeOf p k) : from_k p u ≤ k := by
  unfold from_k
  split
  · omega
  · rename_i c
    have hd : p.days ≠ 0 := fun z => c (Or.inl z)
    have hP := per_pos hd
    unfold timeOf at h
    rw [← Nat.lt_succ_iff, Nat.div_lt_iff_lt_mul (by omega), Nat.succ_mul]
    omega
theorem from_k_time {p : Plan} {u k : Nat} (hd : p.days ≠ 0) (h : from_k p u ≤ k) : u ≤ timeOf p k := by
  unfold from_k at h
  split at h
  · rename_i c
    rcases c with c | c
    · exact absurd c hd
    · unfold timeOf; omega
  · rename_i c
    have hP := per_pos hd
    unfold timeOf
    have h2 : u - p.from_ + period p - 1 < (k + 1) * period p := by
      rw [← Nat.div_lt_iff_lt_mul (by omega)]
      omega
    rw [Nat.succ_mul] at h2
    omega
theorem nextOf_next {p : Plan} (u : Nat) : IsNext p u (nextOf p u) := by
  have e0 : nextOf p u = ((List.range (p.skipped.length + 1)).find? fun (i : Nat) => hasTime p (from_k p u + i) && decide (u ≤ timeOf p (from_k p u + i))).map fun (i : Nat) => timeOf p (from_k p u + i) := rfl
  -- of a time from there on one lies within the window
  have win : ∀ k, hasTime p k = true → u ≤ timeOf p k → ∃ i, i < p.skipped.length + 1 ∧ hasTime p (from_k p u + i) = true ∧ u ≤ timeOf p (from_k p u + i) ∧ from_k p u + i ≤ k := by
    intro k hk hu
    obtain ⟨rk, _⟩ := hasTime_iff.mp hk
    have lo := from_k_le rk hu
    by_cases hd : p.days = 0
    · have := rk.1 hd
      exact ⟨0, by omega, by rw [show from_k p u + 0 = k by omega]; exact hk, by rw [show from_k p u + 0 = k by omega]; exact hu, by omega⟩
    · by_cases hw : k - from_k p u < p.skipped.length + 1
      · exact ⟨k - from_k p u, hw, by rw [show from_k p u + (k - from_k p u) = k by omega]; exact hk, by rw [show from_k p u + (k - from_k p u) = k by omega]; exact hu, by omega⟩
      · obtain ⟨i, hi, h1, _⟩ := one_left (f := fun i => from_k p u + i) (g := fun i => i) p.skipped [] (List.range (p.skipped.length + 1)) List.nodup_range (fun x _ y _ e => by omega) (fun x _ y _ e => e) (by simp)
        rw [List.mem_range] at hi
        refine ⟨i, hi, hasTime_iff.mpr ⟨rk.le (by omega), h1⟩, from_k_time hd (by omega), by omega⟩
  rw [e0]
  cases e : (List.range (p.skipped.length + 1)).find? fun (i : Nat) => hasTime p (from_k p u + i) && decide (u ≤ timeOf p (from_k p u + i)) with
  | none =>
    intro k hk
    rw [List.find?_eq_none] at e
    apply Decidable.byContradiction
    intro z
    obtain ⟨i, h1, h2, h3, _⟩ := win k hk (by omega)
    have := e i (List.mem_range.mpr h1)
    simp [h2, h3] at this
  | some i =>
    have h := List.find?_some e
    simp only [Bool.and_eq_true, decide_eq_true_eq] at h
    refine ⟨⟨_, h.1, rfl⟩, h.2, fun k hk hu => ?_⟩
    obtain ⟨i', h1, h2, h3, h4⟩ := win k hk hu
    -- i is the first of those
    have : i ≤ i' := by
      apply Decidable.byContradiction
      intro z
      obtain ⟨_, l1, l2, e2, hn⟩ := List.find?_eq_some_iff_append.mp e
      have srt : (List.range (p.skipped.length + 1)).Pairwise (· < ·) := List.pairwise_lt_range
      have mem : i' ∈ List.range (p.skipped.length + 1) := List.mem_range.mpr h1
      rw [e2] at srt mem
      rw [List.mem_append, List.mem_cons] at mem
      rcases mem with mem | mem | mem
      · have := hn i' mem
        simp [h2, h3] at this
      · omega
      · have := (List.pairwise_cons.mp (List.pairwise_append.mp srt).2.1).1 _ mem
        omega
    have := time_mono (p := p) (show from_k p u + i ≤ k by omega)
    exact this
/-! ### used: how many minutes of a window -/
def usedK (p : Plan) (a b k : Nat) : Nat := if hasTime p k = true then min b (timeOf p k + p.long) - max a (timeOf p k) else 0
def sumTo (f : Nat → Nat) : Nat → Nat
  | 0 => 0
  | n + 1 => sumTo f n + f n
theorem foldl_add (l : List Nat) : ∀ z, l.foldl (fun x y => x + y) z = z + l.foldl (fun x y => x + y) 0 := by
  induction l with
  | nil => intro z; simp
  | cons x l ih =>
    intro z
    simp only [List.foldl_cons]
    rw [ih (z + x), ih (0 + x)]
    omega
theorem fold_sum (f : Nat → Nat) : ∀ n, ((List.range n).map f).foldl (fun x y => x + y) 0 = sumTo f n
  | 0 => rfl
  | n + 1 => by
    rw [List.range_succ, List.map_append, List.foldl_append, fold_sum f n]
    rfl
/-- the sum over a window that holds all that isn't 0 -/
theorem sum_more {f : Nat → Nat} {n : Nat} : ∀ {m : Nat}, n ≤ m → (∀ k, n ≤ k → k < m → f k = 0) → sumTo f m = sumTo f n
  | 0, h, _ => by rw [Nat.le_zero.mp h]
  | m + 1, h, z => by
    by_cases e : n = m + 1
    · rw [e]
    · rw [sumTo, z m (by omega) (by omega), sum_more (n := n) (m := m) (by omega) (fun k a b => z k a (by omega))]
      rfl
theorem sum_shift {f : Nat → Nat} {s : Nat} (h0 : ∀ k, k < s → f k = 0) : ∀ n, sumTo (fun i => f (s + i)) n = sumTo f (s + n)
  | 0 => by
    have : sumTo f s = sumTo f 0 := sum_more (Nat.zero_le _) (fun k _ b => h0 k b)
    rw [Nat.add_zero, this]
    rfl
  | n + 1 => by
    show sumTo (fun i => f (s + i)) n + f (s + n) = sumTo f (s + n) + f (s + n)
    rw [sum_shift h0 n]
/-- two windows of one sum: each holds all that isn't 0 -/
theorem sum_same {f : Nat → Nat} {n m : Nat} (hn : ∀ k, n ≤ k → f k = 0) (hm : ∀ k, m ≤ k → f k = 0) : sumTo f n = sumTo f m := by
  rcases Nat.le_total n m with h | h
  · exact (sum_more h (fun k a _ => hn k a)).symm
  · exact sum_more h (fun k a _ => hm k a)
theorem usedK_zero_lo {p : Plan} (hl : Len p) {a b k : Nat} (hd : p.days ≠ 0) (h : k < (a - p.from_) / period p) : usedK p a b k = 0 := by
  unfold usedK
  split
  · have hP := per_pos hd
    have hh := hl.hi
    have e := Nat.div_mul_le_self (a - p.from_) (period p)
    have : (k + 1) * period p ≤ (a - p.from_) / period p * period p := Nat.mul_le_mul_right _ h
    rw [Nat.succ_mul] at this
    unfold timeOf
    have : 0 < (a - p.from_) / period p * period p := Nat.lt_of_lt_of_le (by omega) this
    omega
  · rfl
theorem usedK_zero_hi {p : Plan} {a b k : Nat} (h : b ≤ timeOf p k) : usedK p a b k = 0 := by
  unfold usedK
  split <;> omega
theorem usedBy_sum {p : Plan} (hl : Len p) {a b N : Nat} (hN : ∀ k, N ≤ k → usedK p a b k = 0) : usedBy p a b = sumTo (usedK p a b) N := by
  have e0 : usedBy p a b = ((List.range (if p.days = 0 then 1 else (b - a) / period p + 4)).map fun i => usedK p a b ((if p.days = 0 ∨ a ≤ p.from_ then 0 else (a - p.from_) / period p - 1) + i)).foldl (fun x y => x + y) 0 := rfl
  rw [e0, fold_sum]
  by_cases hd : p.days = 0
  · rw [if_pos hd, if_pos (Or.inl hd)]
    have one : ∀ k, 1 ≤ k → usedK p a b k = 0 := fun k hk => by
      unfold usedK
      rw [if_neg]
      intro z
      have := (hasTime_iff.mp z).1.1 hd
      omega
    have : (fun i => usedK p a b (0 + i)) = usedK p a b := by funext i; rw [Nat.zero_add]
    rw [this]
    exact sum_same one hN
  · rw [if_neg hd]
    have hP := per_pos hd
    generalize hs : (if p.days = 0 ∨ a ≤ p.from_ then 0 else (a - p.from_) / period p - 1) = s
    have lo : ∀ k, k < s → usedK p a b k = 0 := fun k hk => by
      split at hs
      · omega
      · exact usedK_zero_lo hl hd (by omega)
    rw [sum_shift lo]
    refine sum_same (fun k hk => usedK_zero_hi ?_) hN
    -- behind the window all begin too late
    have e := Nat.div_add_mod (b - a) (period p)
    have m := Nat.mod_lt (b - a) (show period p > 0 by omega)
    rw [Nat.mul_comm] at e
    have e2 := Nat.div_add_mod (a - p.from_) (period p)
    have m2 := Nat.mod_lt (a - p.from_) (show period p > 0 by omega)
    rw [Nat.mul_comm] at e2
    generalize (b - a) / period p = q at e hk
    generalize (a - p.from_) / period p = r at e2 hs
    have hs2 : r ≤ s + 1 ∨ a ≤ p.from_ := by
      split at hs
      · rename_i c
        rcases c with c | c
        · exact absurd c hd
        · exact .inr c
      · exact .inl (by omega)
    unfold timeOf
    rcases hs2 with h1 | h1
    · have : (r + q + 3) * period p ≤ k * period p := Nat.mul_le_mul_right _ (by omega)
      rw [Nat.add_mul, Nat.add_mul] at this
      omega
    · have : (q + 4) * period p ≤ k * period p := Nat.mul_le_mul_right _ (by omega)
      rw [Nat.add_mul] at this
      omega
end RM
end

section

namespace RM
open Cl05
/-! ### which time begins last up to a moment, were there times without end -/
def per (p : Plan) : Nat := step p * 1440
def lat (p : Plan) (m : Int) : Int := (m - p.from_) / (per p : Int)
theorem per_ge (p : Plan) : 1440 ≤ per p := by unfold per; have := step_pos p; omega
theorem per_le {p : Plan} (h : OkP p) : per p ≤ 86400 := by unfold per; have := step_le h; omega
/-- times as the program counts them, where they are -/
theorem time_per {p : Plan} {k : Nat} (h : InR p k) : (timeOf p k : Int) = p.from_ + (k : Int) * (per p : Int) := by
  rw [timeOf_int, days_step h]
  unfold per
  rw [Int.natCast_mul, Int.mul_comm 1440, Int.mul_assoc]
  rfl
theorem lat_lo (p : Plan) (m : Int) : lat p m * (per p : Int) ≤ m - p.from_ := Int.ediv_mul_le _ (by have := per_ge p; omega)
theorem lat_hi (p : Plan) (m : Int) : m - p.from_ < (lat p m + 1) * (per p : Int) := by
  have := Int.lt_ediv_add_one_mul_self (m - p.from_) (show (0 : Int) < (per p : Int) by have := per_ge p; omega)
  exact this
theorem lat_of {p : Plan} (ok : OkP p) {k u : Nat} (hk : InR p k) (h1 : timeOf p k ≤ u) (h2 : u < timeOf p k + p.long) : lat p u = k := by
  have t := time_per hk
  have a := lat_lo p u
  have b := lat_hi p u
  have P := per_ge p
  have L := ok.len.hi
  have c1 : ¬ lat p u < k := fun z => by
    have : (lat p u + 1) * (per p : Int) ≤ (k : Int) * (per p : Int) := Int.mul_le_mul_of_nonneg_right (by omega) (by omega)
    omega
  have c2 : ¬ (k : Int) < lat p u := fun z => by
    have : ((k : Int) + 1) * (per p : Int) ≤ lat p u * (per p : Int) := Int.mul_le_mul_of_nonneg_right (by omega) (by omega)
    rw [Int.add_mul] at this
    omega
  omega
theorem lat_time {p : Plan} {k u : Nat} (hk : InR p k) (e : lat p u = k) : timeOf p k ≤ u := by
  have t := time_per hk
  have a := lat_lo p u
  rw [e] at a
  omega
/-! ### at -/
theorem takes_no {p : Plan} (ok : OkP p) {u : Nat} (h : ∀ k : Nat, lat p u = k → InR p k → k ∉ p.skipped → ¬ u < timeOf p k + p.long) : takes p u = false := by
  rw [← Bool.not_eq_true, takes_iff ok.len]
  rintro ⟨k, h1, h2, h3⟩
  obtain ⟨r1, r2⟩ := hasTime_iff.mp h1
  exact h k (lat_of ok r1 h2 h3) r1 r2 h3
theorem takes_is {p : Plan} (ok : OkP p) {k u : Nat} (e : lat p u = k) (h1 : InR p k) (h2 : k ∉ p.skipped) : takes p u = decide ((u : Int) - timeOf p k < p.long) := by
  have l := lat_time h1 e
  by_cases c : u < timeOf p k + p.long
  · rw [decide_eq_true (by omega), takes_iff ok.len]
    exact ⟨k, hasTime_iff.mpr ⟨h1, h2⟩, l, c⟩
  · rw [decide_eq_false (by omega)]
    refine takes_no ok fun j ej _ _ => ?_
    rw [e] at ej
    have : j = k := by omega
    rw [this]
    exact c
/-! ### next -/
def firstK (p : Plan) (u : Nat) : Nat := (max 0 (lat p ((u : Int) - 1) + 1)).toNat
theorem firstK_int (p : Plan) (u : Nat) : (firstK p u : Int) = max 0 (lat p ((u : Int) - 1) + 1) := by unfold firstK; omega
theorem firstK_iff {p : Plan} {k u : Nat} (hk : InR p k) : firstK p u ≤ k ↔ u ≤ timeOf p k := by
  have t := time_per hk
  have a := lat_lo p ((u : Int) - 1)
  have b := lat_hi p ((u : Int) - 1)
  have P := per_ge p
  have e := firstK_int p u
  constructor
  · intro h
    have : (lat p ((u : Int) - 1) + 1) * (per p : Int) ≤ (k : Int) * (per p : Int) := Int.mul_le_mul_of_nonneg_right (by omega) (by omega)
    omega
  · intro h
    apply Decidable.byContradiction
    intro z
    have : ((k : Int)) * (per p : Int) ≤ lat p ((u : Int) - 1) * (per p : Int) := Int.mul_le_mul_of_nonneg_right (by omega) (by omega)
    omega
theorem next_none {p : Plan} {u w : Nat} (hs : ∀ j, firstK p u ≤ j → j < w → j ∈ p.skipped) (hn : ¬ InR p w) : nextOf p u = none := by
  refine (nextOf_next u).uniq (b := none) fun k hk => ?_
  obtain ⟨r1, r2⟩ := hasTime_iff.mp hk
  apply Decidable.byContradiction
  intro z
  have h1 := (firstK_iff r1).mpr (show u ≤ timeOf p k by omega)
  by_cases c : k < w
  · exact r2 (hs k h1 c)
  · exact hn (r1.le (by omega))
theorem next_some {p : Plan} {u w : Nat} (h0 : firstK p u ≤ w) (hs : ∀ j, firstK p u ≤ j → j < w → j ∈ p.skipped) (hr : InR p w) (hw : w ∉ p.skipped) : nextOf p u = some (timeOf p w) := by
  refine (nextOf_next u).uniq (b := some (timeOf p w)) ⟨⟨w, hasTime_iff.mpr ⟨hr, hw⟩, rfl⟩, (firstK_iff hr).mp h0, fun k hk hu => ?_⟩
  obtain ⟨r1, r2⟩ := hasTime_iff.mp hk
  have h1 := (firstK_iff r1).mpr hu
  apply time_mono
  apply Decidable.byContradiction
  intro z
  exact r2 (hs k h1 (by omega))
theorem filt_step (l : List Nat) {a : Nat} (m : a ∈ l) : (l.filter fun k => decide (a + 1 ≤ k)).length < (l.filter fun k => decide (a ≤ k)).length := filt_lt l (by omega) m
/-! ### used -/
def firstU (p : Plan) (u : Nat) : Nat := (max 0 (lat p u)).toNat
theorem firstU_int (p : Plan) (u : Nat) : (firstU p u : Int) = max 0 (lat p u) := by unfold firstU; omega
theorem used_lo {p : Plan} (ok : OkP p) {a b k : Nat} (h : k < firstU p a) : usedK p a b k = 0 := by
  unfold usedK
  split
  · rename_i hk
    obtain ⟨r1, _⟩ := hasTime_iff.mp hk
    have t := time_per r1
    have lo := lat_lo p a
    have e := firstU_int p a
    have P := per_ge p
    have L := ok.len.hi
    have : ((k : Int) + 1) * (per p : Int) ≤ lat p a * (per p : Int) := Int.mul_le_mul_of_nonneg_right (by omega) (by omega)
    rw [Int.add_mul] at this
    omega
  · rfl
theorem used_start {p : Plan} (ok : OkP p) (a b : Nat) : sumTo (usedK p a b) (firstU p a) = 0 := sum_more (Nat.zero_le _) fun _ _ h => used_lo ok h
theorem used_end {p : Plan} (ok : OkP p) {a b w : Nat} (h : ¬ (hasT p w = true ∧ timeOf p w < b)) : usedBy p a b = sumTo (usedK p a b) w := by
  refine usedBy_sum ok.len fun k hk => ?_
  by_cases c : hasT p w = true
  · have hb : b ≤ timeOf p w := by
      apply Decidable.byContradiction
      intro z
      exact h ⟨c, by omega⟩
    exact usedK_zero_hi (Nat.le_trans hb (time_mono hk))
  · unfold usedK
    rw [if_neg]
    intro z
    exact c ((hasT_iff ok).mpr ((hasTime_iff.mp z).1.le hk))
theorem used_skip {p : Plan} {a b w : Nat} (h : w ∈ p.skipped) : usedK p a b w = 0 := by
  unfold usedK
  rw [if_neg]
  intro z
  exact (hasTime_iff.mp z).2 h
theorem used_not {p : Plan} (ok : OkP p) {a b w : Nat} (h1 : hasT p w = true) (h2 : w ∉ p.skipped) : usedK p a b w = min b (timeOf p w + p.long) - max a (timeOf p w) := by
  unfold usedK
  rw [if_pos (hasTime_iff.mpr ⟨(hasT_iff ok).mp h1, h2⟩)]
/-- a time that is, and begins ahead of b, is below b -/
theorem used_lt {p : Plan} (ok : OkP p) {b w : Nat} (h1 : hasT p w = true) (h2 : timeOf p w < b) : w < b := by
  have r := (hasT_iff ok).mp h1
  have t := time_per r
  have P := per_ge p
  have : (w : Int) * 1 ≤ (w : Int) * (per p : Int) := Int.mul_le_mul_of_nonneg_left (by omega) (by omega)
  omega
end RM
end

section
set_option maxRecDepth 100000
namespace R
open PySem PySem.Spec PyProof.Rows L2
/-! ### what stands behind a module's name -/
structure GI (mg : Str → Option Value) (x : Str) (v : V) : Prop where
  ex : ∃ u, mg x = some u ∧ RelV v u
theorem pe_gi {X : Cx} {x : Str} {v : V} {pos : Pos} (h : GI X.mg x v) (hg : Gl X x := by rfl) (nd : (x == ("__debug__" : Str)) = false := by decide) : PE X (.Name x pos) (tC v) := by
  obtain ⟨u, hm, r⟩ := h.ex
  exact pe_glob hg hm r nd
/-! ### defs, methods, classes, each by its promise alone -/
section
variable (P : Program) (w : World) (K : PySem.W.Frag) (mg : Str → Option Value) (base : Heap)
structure DF (x : Str) (k : Nat) (ps : List Str) (sp : Sp) : Prop where
  ex : ∃ f fd, FnOk P w K mg base CX0 k f fd ps sp ∧ Binds K fd ps [] ∧ mg x = some (.ref f) ∧ PySem.W.keepIn K (.ref f) = true
structure DM (C : Addr) (m : Str) (k : Nat) (ps : List Str) (sp : Sp) : Prop where
  ex : ∃ f fd, FnOk P w K mg base CX0 k f fd ps sp ∧ Binds K fd ps [] ∧ Meth K C m f
  cl : Cls K C
structure DC (x : Str) (C : Addr) (k : Nat) (ps : List Str) (sp : Sp) : Prop where
  ex : ∃ f fd, FnOk P w K mg base CX0 k f fd ps sp ∧ Binds K fd ps [] ∧ Mk K C f ∧ mg x = some (.ref C)
end
section
variable {P : Program} {w : World} {K : PySem.W.Frag} {mg : Str → Option Value} {base : Heap} {x m : Str} {C : Addr} {k : Nat} {ps : List Str} {sp : Sp}
noncomputable def DF.f (D : DF P w K mg base x k ps sp) : Addr := D.ex.choose
noncomputable def DF.fd (D : DF P w K mg base x k ps sp) : FuncData := D.ex.choose_spec.choose
theorem DF.F (D : DF P w K mg base x k ps sp) : FnOk P w K mg base CX0 k D.f D.fd ps sp := D.ex.choose_spec.choose_spec.1
theorem DF.b (D : DF P w K mg base x k ps sp) : Binds K D.fd ps [] := D.ex.choose_spec.choose_spec.2.1
theorem DF.g (D : DF P w K mg base x k ps sp) : mg x = some (.ref D.f) := D.ex.choose_spec.choose_spec.2.2.1
theorem DF.kp (D : DF P w K mg base x k ps sp) : PySem.W.keepIn K (.ref D.f) = true := D.ex.choose_spec.choose_spec.2.2.2
noncomputable def DM.f (D : DM P w K mg base C m k ps sp) : Addr := D.ex.choose
noncomputable def DM.fd (D : DM P w K mg base C m k ps sp) : FuncData := D.ex.choose_spec.choose
theorem DM.F (D : DM P w K mg base C m k ps sp) : FnOk P w K mg base CX0 k D.f D.fd ps sp := D.ex.choose_spec.choose_spec.1
theorem DM.b (D : DM P w K mg base C m k ps sp) : Binds K D.fd ps [] := D.ex.choose_spec.choose_spec.2.1
theorem DM.h (D : DM P w K mg base C m k ps sp) : Meth K C m D.f := D.ex.choose_spec.choose_spec.2.2
noncomputable def DC.f (D : DC P w K mg base x C k ps sp) : Addr := D.ex.choose
noncomputable def DC.fd (D : DC P w K mg base x C k ps sp) : FuncData := D.ex.choose_spec.choose
theorem DC.F (D : DC P w K mg base x C k ps sp) : FnOk P w K mg base CX0 k D.f D.fd ps sp := D.ex.choose_spec.choose_spec.1
theorem DC.b (D : DC P w K mg base x C k ps sp) : Binds K D.fd ps [] := D.ex.choose_spec.choose_spec.2.1
theorem DC.M (D : DC P w K mg base x C k ps sp) : Mk K C D.f := D.ex.choose_spec.choose_spec.2.2.1
theorem DC.g (D : DC P w K mg base x C k ps sp) : mg x = some (.ref C) := D.ex.choose_spec.choose_spec.2.2.2
end
/-- the readings of calls, without defaults and errors -/
def tCD (sp : Sp) (t : TA) : TE := fun σ H Q => t σ H fun vs H1 => sp vs H1 Q E0
def tMD (C : Addr) (m : Str) (sp : Sp) (ta : TE) (t : TA) : TE := fun σ H Q => ta σ H fun x H1 =>
  ∃ a dx fs, x = .ref a ∧ H1 a = some (.ins C dx fs) ∧ fs.lookup m = none ∧ t σ H1 fun vs H2 => sp (x :: vs) H2 Q E0
def tKD (C : Addr) (sp : Sp) (t : TA) : TE := fun σ H Q => t σ H fun vs H1 => ∀ x dx, H1 x = none → H1 dx = none → dx ≠ x →
  sp (.ref x :: vs) (upd (upd H1 dx (.own x)) x (.ins C dx [])) (fun v H2 => v = .non ∧ Q (.ref x) H2) E0
section
variable {X : Cx} {C : Addr} {sp : Sp} {m : Str} {e : Expr} {ta : TE} {t : TA}
theorem cd_of (h : PE X e (tCall sp [] E0 t)) : PE X e (tCD sp t) := by
  refine ⟨fun pins s σ H Q I q => h.run pins s σ H Q I ?_⟩
  have e0 : (fun (vs : List V) (H1 : Hp) => sp (vs ++ []) H1 Q E0) = fun vs H1 => sp vs H1 Q E0 := by funext vs H1; rw [List.append_nil]
  show t σ H fun vs H1 => sp (vs ++ []) H1 Q E0
  rw [e0]
  exact q
theorem md_of (h : PE X e (tMeth C m sp [] E0 ta t)) : PE X e (tMD C m sp ta t) := by
  refine ⟨fun pins s σ H Q I q => h.run pins s σ H Q I ?_⟩
  have e0 : (fun (x : V) (vs : List V) (H2 : Hp) => sp (x :: (vs ++ [])) H2 Q E0) = fun x vs H2 => sp (x :: vs) H2 Q E0 := by funext x vs H2; rw [List.append_nil]
  show ta σ H fun x H1 => ∃ a dx fs, x = .ref a ∧ H1 a = some (.ins C dx fs) ∧ fs.lookup m = none ∧ t σ H1 ((fun (x : V) (vs : List V) (H2 : Hp) => sp (x :: (vs ++ [])) H2 Q E0) x)
  rw [e0]
  exact q
theorem kd_of (h : PE X e (tMake C sp [] E0 t)) : PE X e (tKD C sp t) := by
  refine ⟨fun pins s σ H Q I q => h.run pins s σ H Q I ?_⟩
  have e0 : (fun (vs : List V) (H1 : Hp) => ∀ x dx, H1 x = none → H1 dx = none → dx ≠ x → sp (.ref x :: (vs ++ [])) (upd (upd H1 dx (.own x)) x (.ins C dx [])) (fun v H2 => v = .non ∧ Q (.ref x) H2) E0)
      = fun (vs : List V) (H1 : Hp) => ∀ x dx, H1 x = none → H1 dx = none → dx ≠ x → sp (.ref x :: vs) (upd (upd H1 dx (.own x)) x (.ins C dx [])) (fun v H2 => v = .non ∧ Q (.ref x) H2) E0 := by funext vs H1; rw [List.append_nil]
  show t σ H (fun (vs : List V) (H1 : Hp) => ∀ x dx, H1 x = none → H1 dx = none → dx ≠ x → sp (.ref x :: (vs ++ [])) (upd (upd H1 dx (.own x)) x (.ins C dx [])) (fun v H2 => v = .non ∧ Q (.ref x) H2) E0)
  rw [e0]
  exact q
end
/-- a while by a word and a measure -/
theorem while_on {c : TT} {tb : TS} {D : Ends} {σ : L2.St} {H : Hp} (Pv : L2.St → Hp → Prop) (μ : L2.St → Nat) (h0 : Pv σ H)
    (hs : ∀ σ H, Pv σ H → c σ H fun b H1 => if b = true then ∃ N : L2.St → Hp → Prop, (∀ σ' H', N σ' H' → ∃ m', m' < μ σ ∧ (m' = μ σ' ∧ Pv σ' H')) ∧ tb { D with nx := N, ct := N, bk := D.nx } σ H1 else D.nx σ H1) : tWhile c tb D σ H := by
  refine ⟨fun m σ H => m = μ σ ∧ Pv σ H, ⟨_, rfl, h0⟩, ?_⟩
  rintro m σ H ⟨rfl, p⟩
  exact hs σ H p
/-! ### small words -/
theorem lk_here {k : Str} {v : V} {r : List (Str × V)} : List.lookup k ((k, v) :: r) = some v := by
  have e : (k == k) = true := beq_self_eq_true k
  simp only [List.lookup, e]
theorem lk_past {k g : Str} {v : V} {r : List (Str × V)} (h : (k == g) = false) : List.lookup k ((g, v) :: r) = List.lookup k r := by
  simp only [List.lookup, h]
theorem put_here {f : Str} {v x : V} {r : List (Str × V)} : putF f v ((f, x) :: r) = (f, v) :: r := if_pos rfl
theorem put_past {f g : Str} {v x : V} {r : List (Str × V)} (h : ¬ g = f) : putF f v ((g, x) :: r) = (g, x) :: putF f v r := if_neg h
theorem if_t {c : Bool} {A B : Prop} (hc : c = true) (h : A) : if c = true then A else B := by rw [if_pos hc]; exact h
theorem if_f {c : Bool} {A B : Prop} (hc : c = false) (h : B) : if c = true then A else B := by rw [hc, if_neg Bool.false_ne_true]; exact h
theorem if_b {c : Bool} {A B : Prop} (h1 : c = true → A) (h2 : c = false → B) : if c = true then A else B := by
  cases c with
  | true => exact iteT (h1 rfl)
  | false => exact iteF (h2 rfl)
end R
end

section
set_option maxRecDepth 100000
set_option maxHeartbeats 2000000
namespace R
open PySem PySem.Spec PyProof.Rows L2
def top (i : Nat) : Stmt := PySem.Challenge.pw_roomsforever_s01_answers.main.body.getD i (.Pass ⟨0, 0, 0, 0⟩)
theorem ret_eq {Q : VK} {v v' : V} {H : Hp} (q : Q v H) (e : v' = v) : Q v' H := by rw [e]; exact q
/-! ### a plan as it lies in memory -/
def gV (l : List Nat) : List V := l.map fun (n : Nat) => V.int (n : Int)
def pF (p : Cl05.Plan) (g : Addr) : List (Str × V) := [("first", .int p.from_), ("length", .int p.long), ("days", .int p.days), ("times", .int p.times), ("given_up", .ref g)]
structure PlanAt (C : Addr) (H : Hp) (a g : Addr) (p : Cl05.Plan) : Prop where
  ob : ∃ dx, H a = some (.ins C dx (pF p g))
  gu : H g = some (.lst (gV p.skipped))
theorem pF_first (p : Cl05.Plan) (g : Addr) : (pF p g).lookup ("first" : Str) = some (.int p.from_) := lk_here
theorem pF_length (p : Cl05.Plan) (g : Addr) : (pF p g).lookup ("length" : Str) = some (.int p.long) := (lk_past (by decide +kernel)).trans lk_here
theorem pF_days (p : Cl05.Plan) (g : Addr) : (pF p g).lookup ("days" : Str) = some (.int p.days) := (lk_past (by decide +kernel)).trans ((lk_past (by decide +kernel)).trans lk_here)
theorem pF_times (p : Cl05.Plan) (g : Addr) : (pF p g).lookup ("times" : Str) = some (.int p.times) := (lk_past (by decide +kernel)).trans ((lk_past (by decide +kernel)).trans ((lk_past (by decide +kernel)).trans lk_here))
theorem pF_gu (p : Cl05.Plan) (g : Addr) : (pF p g).lookup ("given_up" : Str) = some (.ref g) := (lk_past (by decide +kernel)).trans ((lk_past (by decide +kernel)).trans ((lk_past (by decide +kernel)).trans ((lk_past (by decide +kernel)).trans lk_here)))
theorem pF_no (p : Cl05.Plan) (g : Addr) {m : Str} (h : (["first", "length", "days", "times", "given_up"] : List Str).all (fun x => !(m == x)) = true) : (pF p g).lookup m = none := by
  simp only [List.all_cons, List.all_nil, Bool.and_true, Bool.and_eq_true, Bool.not_eq_true'] at h
  obtain ⟨h1, h2, h3, h4, h5⟩ := h
  unfold pF
  rw [lk_past h1, lk_past h2, lk_past h3, lk_past h4, lk_past h5]
  rfl
/-- what the top has written of the class Plan -/
structure TxP (K : PySem.W.Frag) (mg : Str → Option Value) (C : Addr) : Prop where
  cl : Cls K C
  nF : NoAttr K C "first"
  nL : NoAttr K C "length"
  nD : NoAttr K C "days"
  nT : NoAttr K C "times"
  nG : NoAttr K C "given_up"
  g_DAY : GI mg "DAY" (.int 1440)
  g_MOST_FIRST : GI mg "MOST_FIRST" (.int 1000000)
  g_MOST_LENGTH : GI mg "MOST_LENGTH" (.int 1440)
  g_MOST_DAYS : GI mg "MOST_DAYS" (.int 60)
  g_MOST_TIMES : GI mg "MOST_TIMES" (.int 500)
  g_FOR_EVER : GI mg "FOR_EVER" (.int 0)
  b_max : mg "max" = none
  b_min : mg "min" = none
  b_range : mg "range" = none
/-! ### promises -/
def spPInit (C : Addr) : Sp := fun vs H Q _ => ∃ (a dx : Addr) (f n d t : Nat), vs = [.ref a, .int f, .int n, .int d, .int t] ∧ H a = some (.ins C dx []) ∧
  ∀ (g : Addr) (H' : Hp), H g = none → PlanAt C H' a g (Cl05.plan f n d t) → (∀ b o, H b = some o → b ≠ a → H' b = some o) → Q .non H'
def spHasTime (C : Addr) : Sp := fun vs H Q _ => ∃ (a g : Addr) (p : Cl05.Plan) (k : Nat), vs = [.ref a, .int k] ∧ PlanAt C H a g p ∧ Q (.bl (RM.hasT p k)) H
def spGivenUp (C : Addr) : Sp := fun vs H Q _ => ∃ (a g : Addr) (p : Cl05.Plan) (k : Nat), vs = [.ref a, .int k] ∧ PlanAt C H a g p ∧ Q (.bl (p.skipped.contains k)) H
def spBeg (C : Addr) : Sp := fun vs H Q _ => ∃ (a g : Addr) (p : Cl05.Plan) (k : Nat), vs = [.ref a, .int k] ∧ PlanAt C H a g p ∧ p.days ≤ 60 ∧ Q (.int (Cl05.timeOf p k)) H
def spStep (C : Addr) : Sp := fun vs H Q _ => ∃ (a g : Addr) (p : Cl05.Plan), vs = [.ref a] ∧ PlanAt C H a g p ∧ Q (.int (RM.step p)) H
section
variable {P : Program} {w : World} {K : PySem.W.Frag} {mg : Str → Option Value} {base : Heap} {C f : Addr} {fd : FuncData}
abbrev s_Plan___init__ : Stmt := inClass (top 7) 0
theorem sc_Plan___init__ : FnScope ["self", "first", "length", "days", "times"] ["self", "first", "length", "days", "times"] (defScope s_Plan___init__) := ⟨rfl, rfl, rfl, by decide +kernel, rfl, by decide +kernel, by decide +kernel⟩
theorem ok_Plan___init__ (F : Fun K "__init__" "Plan.__init__" s_Plan___init__ f fd) (T : TxP K mg C) : FnOk P w K mg base CX0 1 f fd ["self", "first", "length", "days", "times"] (spPInit C) := by
  refine F.ok sc_Plan___init__ (fun vs H Q E h => ?_) (fun cdv A outer s H vs Q E hr h => ?_)
  · obtain ⟨a, dx, f, n, d, t, rfl, _⟩ := h
    rfl
  · obtain ⟨a, dx, f, n, d, t, rfl, hp, k⟩ := h
    refine ⟨_, (pss_cons (ps_fld (pv 0) (pv 1) rfl)
      (pss_cons (ps_fld (pv 0) (pv 2) rfl)
      (pss_cons (ps_fld (pv 0) (pv 3) rfl)
      (pss_cons (ps_fld (pv 0) (pv 4) rfl)
      (pss_one (ps_fld (pv 0) (pe_lst pa_nil) rfl)))))), ?_⟩
    refine ⟨_, rfl, _, rfl, a, C, dx, [], rfl, hp, T.cl, T.nF, (by show 0 < 1000; decide), ?_⟩
    refine ⟨_, rfl, _, rfl, a, C, dx, _, rfl, upd_same, T.cl, T.nL, (by show 1 < 1000; decide), ?_⟩
    refine ⟨_, rfl, _, rfl, a, C, dx, _, rfl, upd_same, T.cl, T.nD, (by show 2 < 1000; decide), ?_⟩
    refine ⟨_, rfl, _, rfl, a, C, dx, _, rfl, upd_same, T.cl, T.nT, (by show 3 < 1000; decide), ?_⟩
    refine ⟨(by show 0 ≤ sizeLine; decide), fun g hg => ?_⟩
    have nag : a ≠ g := ne_of_none upd_same hg
    have hg0 : H g = none := by rw [upd_ne nag.symm, upd_ne nag.symm, upd_ne nag.symm, upd_ne nag.symm] at hg; exact hg
    refine ⟨_, rfl, a, C, dx, _, rfl, (by rw [upd_ne nag]; exact upd_same), T.cl, T.nG, (by show 4 < 1000; decide), ?_⟩
    refine k g _ hg0 ⟨⟨dx, Eq.trans upd_same (congrArg (fun q => some (HO.ins C dx q)) ?_)⟩, by rw [upd_ne nag.symm]; exact upd_same⟩ fun b o e hb => ?_
    · have e1 : ∀ v, putF "first" v [] = ([("first", v)] : List (Str × V)) := fun v => rfl
      rw [e1, put_past (by decide +kernel), show ∀ v, putF "length" v [] = ([("length", v)] : List (Str × V)) from fun v => rfl]
      repeat rw [put_past (by decide +kernel)]
      rfl
    · rw [upd_ne hb, upd_ne (ne_of_none e hg0), upd_ne hb, upd_ne hb, upd_ne hb, upd_ne hb]
      exact e
abbrev s_Plan_has_time : Stmt := inClass (top 7) 1
theorem sc_Plan_has_time : FnScope ["self", "which"] ["self", "which"] (defScope s_Plan_has_time) := ⟨rfl, rfl, rfl, by decide +kernel, rfl, by decide +kernel, by decide +kernel⟩
theorem ok_Plan_has_time (F : Fun K "has_time" "Plan.has_time" s_Plan_has_time f fd) (T : TxP K mg C) : FnOk P w K mg base CX0 1 f fd ["self", "which"] (spHasTime C) := by
  refine F.ok sc_Plan_has_time (fun vs H Q E h => ?_) (fun cdv A outer s H vs Q E hr h => ?_)
  · obtain ⟨a, g, p, k, rfl, _⟩ := h
    rfl
  · obtain ⟨a, g, p, k, rfl, ⟨⟨dx, h1⟩, h2⟩, q⟩ := h
    refine ⟨_, (pss_one (ps_ret (pe_or (pe_cmpR op_eq (pe_fld (pv 0) rfl) (pe_gi T.g_FOR_EVER) (nomark _)) (pe_one (pe_cmpR op_lt (pv 1) (pe_fld (pv 0) rfl) (nomark _)))))), ?_⟩
    refine ⟨_, rfl, a, C, dx, _, _, rfl, h1, T.cl, T.nT, pF_times p g, rfl, _, rfl, ?_⟩
    have e0 : decide ((V.int (p.times : Int)) = V.int 0) = (p.times == 0) := by
      by_cases z : p.times = 0
      · simp [z]
      · have : ¬ (V.int (p.times : Int) = V.int 0) := fun e => z (by injection e with e; omega)
        simp [z]
    refine if_b (fun c => ?_) (fun c => ?_)
    · have : RM.hasT p k = true := by unfold RM.hasT; rw [← e0, c]; rfl
      rw [this] at q
      exact q
    · refine ⟨_, rfl, _, rfl, a, C, dx, _, _, rfl, h1, T.cl, T.nT, pF_times p g, _, _, rfl, rfl, ?_⟩
      have : RM.hasT p k = decide ((k : Int) < p.times) := by
        unfold RM.hasT; rw [← e0, c, Bool.false_or]
        by_cases z : k < p.times
        · simp [z]
        · simp [z]
      rw [this] at q
      exact q
theorem inV_nat (k : Nat) : ∀ l : List Nat, inV (.int k) (gV l) = l.contains k
  | [] => rfl
  | x :: l => by
    have ih := inV_nat k l
    unfold inV at ih ⊢
    show (eqV (V.int (x : Int)) (V.int (k : Int)) || (gV l).any fun y => eqV y (V.int (k : Int))) = _
    rw [ih, List.contains_cons]
    congr 1
    show ((x : Int) == (k : Int)) = (k == x)
    rw [Bool.eq_iff_iff, beq_iff_eq, beq_iff_eq]
    omega
theorem gV_flat : ∀ l : List Nat, (gV l).all flatV = true
  | [] => rfl
  | x :: l => by
    show (true && (gV l).all flatV) = true
    rw [gV_flat l]
    rfl
abbrev s_Plan_has_given_up : Stmt := inClass (top 7) 2
theorem sc_Plan_has_given_up : FnScope ["self", "which"] ["self", "which"] (defScope s_Plan_has_given_up) := ⟨rfl, rfl, rfl, by decide +kernel, rfl, by decide +kernel, by decide +kernel⟩
theorem ok_Plan_has_given_up (F : Fun K "has_given_up" "Plan.has_given_up" s_Plan_has_given_up f fd) (T : TxP K mg C) : FnOk P w K mg base CX0 1 f fd ["self", "which"] (spGivenUp C) := by
  refine F.ok sc_Plan_has_given_up (fun vs H Q E h => ?_) (fun cdv A outer s H vs Q E hr h => ?_)
  · obtain ⟨a, g, p, k, rfl, _⟩ := h
    rfl
  · obtain ⟨a, g, p, k, rfl, ⟨⟨dx, h1⟩, h2⟩, q⟩ := h
    refine ⟨_, (pss_one (ps_ret (pe_cmpR op_in_seq (pv 1) (pe_fld (pv 0) rfl) (by rfl)))), ?_⟩
    refine ⟨_, rfl, _, rfl, a, C, dx, _, _, rfl, h1, T.cl, T.nG, pF_gu p g, g, _, rfl, .inl (SqL.of h2), rfl, gV_flat _, ?_⟩
    show Q (.bl (inV (.int k) (gV p.skipped))) H
    rw [inV_nat]
    exact q
abbrev s_Plan_beginning : Stmt := inClass (top 7) 3
theorem sc_Plan_beginning : FnScope ["self", "which"] ["self", "which"] (defScope s_Plan_beginning) := ⟨rfl, rfl, rfl, by decide +kernel, rfl, by decide +kernel, by decide +kernel⟩
theorem ok_Plan_beginning (F : Fun K "beginning" "Plan.beginning" s_Plan_beginning f fd) (T : TxP K mg C) : FnOk P w K mg base CX0 1 f fd ["self", "which"] (spBeg C) := by
  refine F.ok sc_Plan_beginning (fun vs H Q E h => ?_) (fun cdv A outer s H vs Q E hr h => ?_)
  · obtain ⟨a, g, p, k, rfl, _⟩ := h
    rfl
  · obtain ⟨a, g, p, k, rfl, ⟨⟨dx, h1⟩, h2⟩, hd, q⟩ := h
    refine ⟨_, (pss_one (ps_ret (pe_op op_add (pe_fld (pv 0) rfl) (pe_op op_mul (pe_op op_mul (pv 1) (pe_fld (pv 0) rfl)) (pe_gi T.g_DAY))))), ?_⟩
    refine ⟨_, rfl, a, C, dx, _, _, rfl, h1, T.cl, T.nF, pF_first p g, _, rfl, _, rfl, a, C, dx, _, _, rfl, h1, T.cl, T.nD, pF_days p g, _, _, rfl, rfl, .inr ⟨by omega, by omega⟩, _, _, rfl, rfl, .inr ⟨by decide, by decide⟩, _, _, rfl, rfl, ?_⟩
    have e : (Cl05.timeOf p k : Int) = (p.from_ : Int) + (k : Int) * p.days * 1440 := by rw [RM.timeOf_int, Int.mul_comm 1440]
    rw [e] at q
    exact q
abbrev s_Plan_step : Stmt := inClass (top 7) 4
theorem sc_Plan_step : FnScope ["self"] ["self"] (defScope s_Plan_step) := ⟨rfl, rfl, rfl, by decide +kernel, rfl, by decide +kernel, by decide +kernel⟩
theorem ok_Plan_step (F : Fun K "step" "Plan.step" s_Plan_step f fd) (T : TxP K mg C) : FnOk P w K mg base CX0 1 f fd ["self"] (spStep C) := by
  refine F.ok sc_Plan_step (fun vs H Q E h => ?_) (fun cdv A outer s H vs Q E hr h => ?_)
  · obtain ⟨a, g, p, rfl, _⟩ := h
    rfl
  · obtain ⟨a, g, p, rfl, ⟨⟨dx, h1⟩, h2⟩, q⟩ := h
    refine ⟨_, (pss_one (ps_ret (pe_callB (call_max2 rfl) (by rfl) T.b_max (by decide +kernel) (pa_cons (pe_fld (pv 0) rfl) (pa_cons pe_int pa_nil))))), ?_⟩
    refine ⟨_, rfl, a, C, dx, _, _, rfl, h1, T.cl, T.nD, pF_days p g, _, _, rfl, ?_⟩
    have e : (RM.step p : Int) = if (1 : Int) > (p.days : Int) then 1 else (p.days : Int) := by unfold RM.step; split <;> omega
    rw [e] at q
    exact q
/-! ### the defs beside the class -/
def spIsPlan : Sp := fun vs H Q _ => ∃ (f n d t : Nat), vs = [.int f, .int n, .int d, .int t] ∧ Q (.bl (Cl05.isPlan f n d t)) H
abbrev s_is_plan : Stmt := top 8
theorem sc_is_plan : FnScope ["first", "length", "days", "times"] ["first", "length", "days", "times"] (defScope s_is_plan) := ⟨rfl, rfl, rfl, by decide +kernel, rfl, by decide +kernel, by decide +kernel⟩
theorem isPlan_iff {f n d t : Nat} : Cl05.isPlan f n d t = true ↔ f ≤ 1000000 ∧ 1 ≤ n ∧ n ≤ 1440 ∧ d ≤ 60 ∧ t ≤ 500 ∧ (d = 0 → t = 1) := by
  unfold Cl05.isPlan
  simp only [Bool.and_eq_true, decide_eq_true_eq, Bool.or_eq_true, Bool.not_eq_true', beq_eq_false_iff_ne, beq_iff_eq, ne_eq]
  constructor
  · rintro ⟨h1, h2, h3, h4, h5, h6⟩
    exact ⟨h1, h2, h3, h4, h5, fun z => h6.resolve_left (fun q => q z)⟩
  · rintro ⟨h1, h2, h3, h4, h5, h6⟩
    exact ⟨h1, h2, h3, h4, h5, by by_cases z : d = 0; exact .inr (h6 z); exact .inl z⟩
theorem ok_is_plan (F : Fun K "is_plan" "is_plan" s_is_plan f fd) (T : TxP K mg C) : FnOk P w K mg base CX0 1 f fd ["first", "length", "days", "times"] spIsPlan := by
  refine F.ok sc_is_plan (fun vs H Q E h => ?_) (fun cdv A outer s H vs Q E hr h => ?_)
  · obtain ⟨f, n, d, t, rfl, _⟩ := h
    rfl
  · obtain ⟨f, n, d, t, rfl, q⟩ := h
    refine ⟨_, (pss_cons (ps_if (PW.pt (pw_or (pt_cmpR op_gt (pv 0) (pe_gi T.g_MOST_FIRST) (nomark _)) (pw_or (pt_cmpR op_lt (pv 1) pe_int (nomark _)) (pw_or (pt_cmpR op_gt (pv 1) (pe_gi T.g_MOST_LENGTH) (nomark _)) (pw_or1 (pt_cmpR op_gt (pv 2) (pe_gi T.g_MOST_DAYS) (nomark _)))))))
        (pss_one (ps_ret pe_bl))
        pss_nil)
      (pss_cons (ps_if (pt_cmpR op_eq (pv 2) pe_int (nomark _))
        (pss_one (ps_ret (pe_cmpR op_eq (pv 3) pe_int (nomark _))))
        pss_nil)
      (pss_one (ps_ret (pe_cmpR op_le (pv 3) (pe_gi T.g_MOST_TIMES) (nomark _)))))), ?_⟩
    have no : ¬ (f ≤ 1000000 ∧ 1 ≤ n ∧ n ≤ 1440 ∧ d ≤ 60 ∧ t ≤ 500 ∧ (d = 0 → t = 1)) → Q (.bl false) H := fun z => by
      have : Cl05.isPlan f n d t = false := by rw [← Bool.not_eq_true, isPlan_iff]; exact z
      rw [this] at q; exact q
    have yes : (f ≤ 1000000 ∧ 1 ≤ n ∧ n ≤ 1440 ∧ d ≤ 60 ∧ t ≤ 500 ∧ (d = 0 → t = 1)) → Q (.bl true) H := fun z => by
      rw [isPlan_iff.mpr z] at q; exact q
    refine ⟨_, rfl, _, _, rfl, rfl, _, rfl, if_b (fun c => ?_) fun c => ?_⟩
    · have := of_decide_eq_true c
      exact iteT (no (by omega))
    have c1 := of_decide_eq_false c
    refine ⟨_, rfl, _, _, rfl, rfl, _, rfl, if_b (fun c => ?_) fun c => ?_⟩
    · have := of_decide_eq_true c
      exact iteT (no (by omega))
    have c2 := of_decide_eq_false c
    refine ⟨_, rfl, _, _, rfl, rfl, _, rfl, if_b (fun c => ?_) fun c => ?_⟩
    · have := of_decide_eq_true c
      exact iteT (no (by omega))
    have c3 := of_decide_eq_false c
    refine ⟨_, rfl, _, _, rfl, rfl, _, rfl, if_b (fun c => ?_) fun c => ?_⟩
    · have := of_decide_eq_true c
      exact no (by omega)
    have c4 := of_decide_eq_false c
    refine ⟨_, rfl, rfl, _, rfl, if_b (fun c => ?_) fun c => ?_⟩
    · have c5 : (d : Int) = 0 := by
        have := of_decide_eq_true c
        injection this
      refine ⟨_, rfl, rfl, ?_⟩
      by_cases z : t = 1
      · have e : decide (V.int (t : Int) = V.int 1) = true := by rw [z]; rfl
        rw [e]
        exact yes (by omega)
      · have e : decide (V.int (t : Int) = V.int 1) = false := decide_eq_false fun q => z (by injection q with q; omega)
        rw [e]
        exact no (by omega)
    · have c5 : ¬ (d : Int) = 0 := fun z => of_decide_eq_false c (congrArg V.int z)
      refine ⟨_, rfl, _, _, rfl, rfl, ?_⟩
      by_cases z : t ≤ 500
      · exact ret_eq (yes (by omega)) (congrArg V.bl (decide_eq_true (by omega)))
      · exact ret_eq (no (by omega)) (congrArg V.bl (decide_eq_false (by omega)))
end
end R
end

section
set_option maxRecDepth 100000
set_option maxHeartbeats 2000000
namespace R
open PySem PySem.Spec PyProof.Rows L2
section
variable {P : Program} {w : World} {K : PySem.W.Frag} {mg : Str → Option Value} {base : Heap} {C f : Addr} {fd : FuncData}
/-! ### plan_of -/
def spPlanOf (K : PySem.W.Frag) (C : Addr) : Sp := fun vs H Q _ => ∃ (a : Addr) (f n d t : Nat), vs = [.ref a] ∧ SqL K H a [.int f, .int n, .int d, .int t] ∧
  (Cl05.isPlan f n d t = false → Q .non H) ∧
  (Cl05.isPlan f n d t = true → ∀ (b g : Addr) (H' : Hp), H b = none → H g = none → PlanAt C H' b g (Cl05.plan f n d t) → Same H H' → Q (.ref b) H')
abbrev s_plan_of : Stmt := top 9
theorem sc_plan_of : FnScope ["when"] ["when"] (defScope s_plan_of) := ⟨rfl, rfl, rfl, by decide +kernel, rfl, by decide +kernel, by decide +kernel⟩
theorem ok_plan_of (F : Fun K "plan_of" "plan_of" s_plan_of f fd) (d_is_plan : DF P w K mg base "is_plan" 1 ["first", "length", "days", "times"] spIsPlan)
    (d_Plan : DC P w K mg base "Plan" C 1 ["self", "first", "length", "days", "times"] (spPInit C)) : FnOk P w K mg base CX0 3 f fd ["when"] (spPlanOf K C) := by
  refine F.ok sc_plan_of (fun vs H Q E h => ?_) (fun cdv A outer s H vs Q E hr h => ?_)
  · obtain ⟨a, f, n, d, t, rfl, _⟩ := h
    rfl
  · obtain ⟨a, f, n, d, t, rfl, hS, kN, kS⟩ := h
    refine ⟨_, (pss_cons (ps_if (pt_not (pt_val (cd_of (pe_call d_is_plan.F (hr.mono (by decide)) (by rfl) d_is_plan.g d_is_plan.kp d_is_plan.b .nil pass0 (pa_cons (pe_ix ix_list (pv 0) pe_int (fun _ _ => rfl)) (pa_cons (pe_ix ix_list (pv 0) pe_int (fun _ _ => rfl)) (pa_cons (pe_ix ix_list (pv 0) pe_int (fun _ _ => rfl)) (pa_cons (pe_ix ix_list (pv 0) pe_int (fun _ _ => rfl)) pa_nil))))))))
        (pss_one (ps_ret pe_non))
        pss_nil)
      (pss_one (ps_ret (kd_of (pe_make d_Plan.M d_Plan.F (hr.mono (by decide)) (by rfl) d_Plan.g d_Plan.b .nil pass0 (pa_cons (pe_ix ix_list (pv 0) pe_int (fun _ _ => rfl)) (pa_cons (pe_ix ix_list (pv 0) pe_int (fun _ _ => rfl)) (pa_cons (pe_ix ix_list (pv 0) pe_int (fun _ _ => rfl)) (pa_cons (pe_ix ix_list (pv 0) pe_int (fun _ _ => rfl)) pa_nil))))))))), ?_⟩
    refine ⟨_, rfl, a, _, _, _, rfl, rfl, hS, rfl, _, rfl, a, _, _, _, rfl, rfl, hS, rfl, _, rfl, a, _, _, _, rfl, rfl, hS, rfl, _, rfl, a, _, _, _, rfl, rfl, hS, rfl, f, n, d, t, rfl, _, rfl, ?_⟩
    refine if_b (fun c => ?_) fun c => ?_
    · exact kN (by simpa using c)
    · have c' : Cl05.isPlan f n d t = true := by simpa using c
      refine ⟨_, rfl, a, _, _, _, rfl, rfl, hS, rfl, _, rfl, a, _, _, _, rfl, rfl, hS, rfl, _, rfl, a, _, _, _, rfl, rfl, hS, rfl, _, rfl, a, _, _, _, rfl, rfl, hS, rfl, ?_⟩
      intro x dx nx ndx nex
      refine ⟨x, dx, f, n, d, t, rfl, upd_same, fun g H' hg hP kp => ⟨rfl, ?_⟩⟩
      have s1 : Same H H' := Same.made nx ndx kp
      refine kS c' x g H' nx ?_ hP s1
      have n1 : g ≠ x := fun z => by rw [z, upd_same] at hg; cases hg
      have n2 : g ≠ dx := fun z => by rw [upd_ne n1, z, upd_same] at hg; cases hg
      rw [upd_ne n1, upd_ne n2] at hg
      exact hg
/-! ### greatest_divisor -/
def spGcd : Sp := fun vs H Q _ => ∃ (a b : Nat), vs = [.int a, .int b] ∧ Q (.int (Nat.gcd a b)) H
abbrev s_greatest_divisor : Stmt := top 13
theorem sc_greatest_divisor : FnScope ["a", "b", "rest"] ["a", "b"] (defScope s_greatest_divisor) := ⟨rfl, rfl, rfl, by decide +kernel, rfl, by decide +kernel, by decide +kernel⟩
theorem ok_greatest_divisor (F : Fun K "greatest_divisor" "greatest_divisor" s_greatest_divisor f fd) : FnOk P w K mg base CX0 1 f fd ["a", "b"] spGcd := by
  refine F.ok sc_greatest_divisor (fun vs H Q E h => ?_) (fun cdv A outer s H vs Q E hr h => ?_)
  · obtain ⟨a, b, rfl, _⟩ := h
    rfl
  · obtain ⟨a, b, rfl, q⟩ := h
    refine ⟨_, (pss_cons (ps_while PassesOwn.never (pt_cmpR op_gt (pv 1) pe_int (nomark _))
        (pss_cons (ps_set (i := 2) sc_greatest_divisor.nd rfl (Or.inl rfl) (pe_op op_mod (pv 0) (pv 1)))
        (pss_cons (ps_set (i := 0) sc_greatest_divisor.nd rfl (Or.inl rfl) (pv 1))
        (pss_one (ps_set (i := 1) sc_greatest_divisor.nd rfl (Or.inl rfl) (pv 2))))))
      (pss_one (ps_ret (pv 0)))), ?_⟩
    refine while_on (fun σ H' => H' = H ∧ ∃ (x y : Nat) (v : Option V), σ = [some (.int x), some (.int y), v] ∧ Nat.gcd x y = Nat.gcd a b) (fun σ => match σ with
      | [_, some (.int y), _] => y.toNat
      | _ => 0) ⟨rfl, a, b, none, rfl, rfl⟩ ?_
    rintro σ H' ⟨rfl, x, y, v, rfl, e⟩
    refine ⟨_, rfl, _, _, rfl, rfl, _, rfl, if_b (fun c => ?_) fun c => ?_⟩
    · have hy : 0 < y := by have := of_decide_eq_true c; omega
      refine ⟨fun σ' H'' => H'' = H' ∧ σ' = [some (.int y), some (.int ((x % y : Nat) : Int)), some (.int ((x % y : Nat) : Int))], fun σ' H'' ⟨e1, e2⟩ => ?_, ?_⟩
      · subst e1 e2
        refine ⟨_, ?_, rfl, rfl, y, x % y, _, rfl, ?_⟩
        · show ((x % y : Nat) : Int).toNat < (y : Int).toNat
          have := Nat.mod_lt x hy
          omega
        · rw [← e, Nat.gcd_comm x y, Nat.gcd_rec y x, Nat.gcd_comm]
      · exact ⟨_, rfl, _, rfl, _, _, rfl, rfl, (by show (0 : Int) < y; omega), _, rfl, _, rfl, rfl, rfl⟩
    · have hy : y = 0 := by have := of_decide_eq_false c; omega
      rw [hy, Nat.gcd_zero_right] at e
      exact ⟨_, rfl, ret_eq q (by rw [e])⟩
/-! ### least_match -/
def oV : Option Nat → V
  | none => .non
  | some n => .int n
def spLeast : Sp := fun vs H Q _ => ∃ (s t : Nat) (sh : Int), vs = [.int s, .int t, .int sh] ∧ 0 < s ∧ s ≤ 60 ∧ 0 < t ∧ t ≤ 60 ∧ -1000000 ≤ sh ∧ sh ≤ 1000000 ∧ ∀ o, RM.LM s t sh o → Q (oV o) H
abbrev s_least_match : Stmt := top 12
theorem sc_least_match : FnScope ["step", "other_step", "shift", "least", "k"] ["step", "other_step", "shift"] (defScope s_least_match) := ⟨rfl, rfl, rfl, by decide +kernel, rfl, by decide +kernel, by decide +kernel⟩
theorem least_bound {s : Nat} {sh : Int} (hs : 0 < s) (h : -1000000 ≤ sh) : RM.least s sh ≤ 1000000 := by
  rw [RM.least_iff hs]
  have : (1 : Int) * (1000000 : Nat) ≤ s * (1000000 : Nat) := Int.mul_le_mul_of_nonneg_right (by omega) (by omega)
  rw [Int.mul_comm]
  omega
theorem ok_least_match (F : Fun K "least_match" "least_match" s_least_match f fd) (T : TxP K mg C) : FnOk P w K mg base CX0 1 f fd ["step", "other_step", "shift"] spLeast := by
  refine F.ok sc_least_match (fun vs H Q E h => ?_) (fun cdv A outer s H vs Q E hr h => ?_)
  · obtain ⟨a, b, c, rfl, _⟩ := h
    rfl
  · obtain ⟨s', t, sh, rfl, hs, hs2, ht, ht2, l1, l2, q⟩ := h
    refine ⟨_, (pss_cons (ps_set (i := 3) sc_least_match.nd rfl (Or.inl rfl) (pe_callB (call_max2 rfl) (by rfl) T.b_max (by decide +kernel) (pa_cons pe_int (pa_cons (pe_un un_neg (pe_op op_fdiv (pv 2) (pv 0))) pa_nil))))
      (pss_cons (ps_for PassesOwn.never rfl (pi_range2 (by rfl) T.b_range (pa_cons (pv 3) (pa_cons (pe_op op_add (pv 3) (pv 1)) pa_nil))) (pg_name (i := 4) sc_least_match.nd rfl (Or.inl rfl))
        (pss_one (ps_if (pt_cmpR op_eq (pe_op op_mod (pe_op op_add (pe_op op_mul (pv 4) (pv 0)) (pv 2)) (pv 1)) pe_int (nomark _))
          (pss_one (ps_ret (pv 4)))
          pss_nil)))
      (pss_one (ps_ret pe_non)))), ?_⟩
    refine ⟨_, rfl, _, rfl, _, _, rfl, rfl, ⟨by omega, by omega⟩, _, rfl, _, _, rfl, ?_⟩
    have eL : (if -(sh / (s' : Int)) > 0 then -(sh / (s' : Int)) else 0) = (RM.least s' sh : Int) := by unfold RM.least; split <;> omega
    rw [eL]
    have lb := least_bound (sh := sh) hs l1
    generalize hL : RM.least s' sh = L at *
    refine ⟨_, rfl, _, rfl, _, rfl, _, _, rfl, rfl, _, _, rfl, ⟨by omega, by omega, by omega, by omega⟩, ?_⟩
    have en : ((L : Int) + (t : Int) - (L : Int)).toNat = t := by omega
    rw [en]
    refine for_range (lo := (L : Int)) (n := t) (fun i σ H' => H' = H ∧ ∃ v, σ = [some (.int s'), some (.int t), some (.int sh), some (.int L), v] ∧ ∀ i', i' < i → ¬ (((L + i' : Nat) : Int) * s' + sh) % t = 0) ⟨rfl, none, rfl, fun i' z => absurd z (Nat.not_lt_zero _)⟩ ?_ ?_
    · rintro i σ H' hi ⟨rfl, v, rfl, hn⟩
      refine ⟨_, rfl, _, rfl, _, _, rfl, rfl, .inr ⟨by omega, by omega⟩, _, rfl, _, _, rfl, rfl, _, rfl, _, _, rfl, rfl, (by show (0 : Int) < t; omega), rfl, _, rfl, if_b (fun c => ?_) fun c => ?_⟩
      · have c' : (((L : Int) + i) * s' + sh) % t = 0 := by
          have := of_decide_eq_true c
          injection this
        refine ⟨_, rfl, ?_⟩
        have hm : RM.LM s' t sh (some (L + i)) := by
          rw [← hL]
          refine RM.lm_some hs ht ?_ (by rw [hL]; exact hn)
          rw [hL]
          push_cast
          exact c'
        exact ret_eq (q _ hm) (by show V.int ((L : Int) + i) = V.int ((L + i : Nat) : Int); rw [Int.natCast_add])
      · have c' : ¬ (((L : Int) + i) * s' + sh) % t = 0 := fun z => of_decide_eq_false c (congrArg V.int z)
        refine ⟨rfl, _, rfl, fun i' hi' => ?_⟩
        by_cases z : i' = i
        · subst z
          push_cast
          exact c'
        · exact hn i' (by omega)
    · rintro σ H' ⟨rfl, v, rfl, hn⟩
      refine q none (RM.lm_none hs ht ?_)
      rw [hL]
      exact hn
end
end R
end

section
set_option maxRecDepth 100000
set_option maxHeartbeats 4000000
namespace R
open PySem PySem.Spec PyProof.Rows L2
section
variable {P : Program} {w : World} {K : PySem.W.Frag} {mg : Str → Option Value} {base : Heap} {C f : Addr} {fd : FuncData}
/-! ### first_meeting_at_lead -/
def spLead (C : Addr) : Sp := fun vs H Q _ => ∃ (a g b g' : Addr) (p q : Cl05.Plan) (L : Int), vs = [.ref a, .ref b, .int L] ∧ PlanAt C H a g p ∧ PlanAt C H b g' q ∧ RM.OkP p ∧ RM.OkP q ∧ RM.Cong p q L ∧ -1440 ≤ L ∧ L ≤ 1440 ∧
  ∀ o, RM.IsLead p q L o → Q (oV o) H
theorem ediv_exact {x : Int} {r s : Nat} (hs : 0 < s) (e : x = (r : Int) * s) : x / (s : Int) = r := by
  rw [e]; exact Int.mul_ediv_cancel _ (by omega)
theorem div_int (a b : Nat) : (a : Int) / (b : Int) = ((a / b : Nat) : Int) := rfl
theorem max_nat (a b : Nat) : (if (b : Int) > (a : Int) then (b : Int) else (a : Int)) = ((max a b : Nat) : Int) := by split <;> omega
structure DPlan (P : Program) (w : World) (K : PySem.W.Frag) (mg : Str → Option Value) (base : Heap) (C : Addr) : Prop where
  has_time : DM P w K mg base C "has_time" 1 ["self", "which"] (spHasTime C)
  has_given_up : DM P w K mg base C "has_given_up" 1 ["self", "which"] (spGivenUp C)
  beginning : DM P w K mg base C "beginning" 1 ["self", "which"] (spBeg C)
  step : DM P w K mg base C "step" 1 ["self"] (spStep C)
abbrev s_first_meeting_at_lead : Stmt := top 11
theorem sc_first_meeting_at_lead : FnScope ["one", "other", "lead", "shift", "which", "partner", "common"] ["one", "other", "lead"] (defScope s_first_meeting_at_lead) := ⟨rfl, rfl, rfl, by decide +kernel, rfl, by decide +kernel, by decide +kernel⟩
theorem ok_first_meeting_at_lead (F : Fun K "first_meeting_at_lead" "first_meeting_at_lead" s_first_meeting_at_lead f fd) (T : TxP K mg C) (D : DPlan P w K mg base C)
    (d_least_match : DF P w K mg base "least_match" 1 ["step", "other_step", "shift"] spLeast) (d_greatest_divisor : DF P w K mg base "greatest_divisor" 1 ["a", "b"] spGcd) :
    FnOk P w K mg base CX0 2 f fd ["one", "other", "lead"] (spLead C) := by
  have d_Plan_has_time := D.has_time
  have d_Plan_has_given_up := D.has_given_up
  have d_Plan_beginning := D.beginning
  have d_Plan_step := D.step
  refine F.ok sc_first_meeting_at_lead (fun vs H Q E h => ?_) (fun cdv A outer s H vs Q E hr h => ?_)
  · obtain ⟨_, _, _, _, _, _, _, rfl, _⟩ := h
    rfl
  · obtain ⟨a, g, b, g', p, q, L, rfl, P1, P2, op, oq, hc, L1, L2, k⟩ := h
    obtain ⟨⟨dx, h1⟩, hg1⟩ := id P1
    obtain ⟨⟨dy, h2⟩, hg2⟩ := id P2
    have hr1 : Room 1 _ := hr
    have np : ∀ {m : Str}, (["first", "length", "days", "times", "given_up"] : List Str).all (fun x => !(m == x)) = true → (pF p g).lookup m = none := fun h => pF_no p g h
    have nq : ∀ {m : Str}, (["first", "length", "days", "times", "given_up"] : List Str).all (fun x => !(m == x)) = true → (pF q g').lookup m = none := fun h => pF_no q g' h
    have n1 : (["first", "length", "days", "times", "given_up"] : List Str).all (fun x => !(("step" : Str) == x)) = true := by decide +kernel
    have n2 : (["first", "length", "days", "times", "given_up"] : List Str).all (fun x => !(("has_time" : Str) == x)) = true := by decide +kernel
    have n3 : (["first", "length", "days", "times", "given_up"] : List Str).all (fun x => !(("has_given_up" : Str) == x)) = true := by decide +kernel
    have n4 : (["first", "length", "days", "times", "given_up"] : List Str).all (fun x => !(("beginning" : Str) == x)) = true := by decide +kernel
    have sp1 := RM.step_pos p
    have sq1 := RM.step_pos q
    have sp2 := RM.step_le op
    have sq2 := RM.step_le oq
    have hb : -1000000 ≤ RM.shift p q L ∧ RM.shift p q L ≤ 1000000 := by
      have := op.first
      have := oq.first
      unfold RM.shift
      omega
    refine ⟨_, (pss_cons (ps_set (i := 3) sc_first_meeting_at_lead.nd rfl (Or.inl rfl) (pe_op op_fdiv (pe_op op_sub (pe_op op_add (pe_fld (pv 0) rfl) (pv 2)) (pe_fld (pv 1) rfl)) (pe_gi T.g_DAY)))
      (pss_cons (ps_set (i := 4) sc_first_meeting_at_lead.nd rfl (Or.inl rfl) (cd_of (pe_call d_least_match.F (hr.mono (by decide)) (by rfl) d_least_match.g d_least_match.kp d_least_match.b .nil pass0 (pa_cons (md_of (pe_meth0 (pv 0) d_Plan_step.cl d_Plan_step.h d_Plan_step.F (hr.mono (by decide)) d_Plan_step.b .nil pass0)) (pa_cons (md_of (pe_meth0 (pv 1) d_Plan_step.cl d_Plan_step.h d_Plan_step.F (hr.mono (by decide)) d_Plan_step.b .nil pass0)) (pa_cons (pv 3) pa_nil))))))
      (pss_cons (ps_if (pt_cmpR op_isN (pv 4) pe_non (nomark _))
        (pss_one (ps_ret pe_non))
        pss_nil)
      (pss_cons (ps_set (i := 5) sc_first_meeting_at_lead.nd rfl (Or.inl rfl) (pe_op op_fdiv (pe_op op_add (pe_op op_mul (pv 4) (md_of (pe_meth0 (pv 0) d_Plan_step.cl d_Plan_step.h d_Plan_step.F (hr.mono (by decide)) d_Plan_step.b .nil pass0))) (pv 3)) (md_of (pe_meth0 (pv 1) d_Plan_step.cl d_Plan_step.h d_Plan_step.F (hr.mono (by decide)) d_Plan_step.b .nil pass0))))
      (pss_cons (ps_set (i := 6) sc_first_meeting_at_lead.nd rfl (Or.inl rfl) (cd_of (pe_call d_greatest_divisor.F (hr.mono (by decide)) (by rfl) d_greatest_divisor.g d_greatest_divisor.kp d_greatest_divisor.b .nil pass0 (pa_cons (md_of (pe_meth0 (pv 0) d_Plan_step.cl d_Plan_step.h d_Plan_step.F (hr.mono (by decide)) d_Plan_step.b .nil pass0)) (pa_cons (md_of (pe_meth0 (pv 1) d_Plan_step.cl d_Plan_step.h d_Plan_step.F (hr.mono (by decide)) d_Plan_step.b .nil pass0)) pa_nil)))))
      (pss_cons (ps_while PassesOwn.never (PW.pt (pw_and (pt_val (md_of (pe_meth (pv 0) d_Plan_has_time.cl d_Plan_has_time.h d_Plan_has_time.F (hr.mono (by decide)) d_Plan_has_time.b .nil pass0 (pa_cons (pv 4) pa_nil)))) (pw_and1 (pt_val (md_of (pe_meth (pv 1) d_Plan_has_time.cl d_Plan_has_time.h d_Plan_has_time.F (hr.mono (by decide)) d_Plan_has_time.b .nil pass0 (pa_cons (pv 5) pa_nil)))))))
        (pss_cons (ps_if (PW.pt (pw_and (pt_not (pt_val (md_of (pe_meth (pv 0) d_Plan_has_given_up.cl d_Plan_has_given_up.h d_Plan_has_given_up.F (hr.mono (by decide)) d_Plan_has_given_up.b .nil pass0 (pa_cons (pv 4) pa_nil))))) (pw_and1 (pt_not (pt_val (md_of (pe_meth (pv 1) d_Plan_has_given_up.cl d_Plan_has_given_up.h d_Plan_has_given_up.F (hr.mono (by decide)) d_Plan_has_given_up.b .nil pass0 (pa_cons (pv 5) pa_nil))))))))
          (pss_one (ps_ret (pe_callB (call_max2 rfl) (by rfl) T.b_max (by decide +kernel) (pa_cons (md_of (pe_meth (pv 0) d_Plan_beginning.cl d_Plan_beginning.h d_Plan_beginning.F (hr.mono (by decide)) d_Plan_beginning.b .nil pass0 (pa_cons (pv 4) pa_nil))) (pa_cons (md_of (pe_meth (pv 1) d_Plan_beginning.cl d_Plan_beginning.h d_Plan_beginning.F (hr.mono (by decide)) d_Plan_beginning.b .nil pass0 (pa_cons (pv 5) pa_nil))) pa_nil)))))
          pss_nil)
        (pss_cons (ps_aug (i := 4) sc_first_meeting_at_lead.nd rfl (Or.inl rfl) (pe_op op_fdiv (md_of (pe_meth0 (pv 1) d_Plan_step.cl d_Plan_step.h d_Plan_step.F (hr.mono (by decide)) d_Plan_step.b .nil pass0)) (pv 6)) ip_add)
        (pss_one (ps_aug (i := 5) sc_first_meeting_at_lead.nd rfl (Or.inl rfl) (pe_op op_fdiv (md_of (pe_meth0 (pv 0) d_Plan_step.cl d_Plan_step.h d_Plan_step.F (hr.mono (by decide)) d_Plan_step.b .nil pass0)) (pv 6)) ip_add)))))
      (pss_one (ps_ret pe_non)))))))), ?_⟩
    refine ⟨_, rfl, a, C, dx, _, _, rfl, h1, T.cl, T.nF, pF_first p g, _, rfl, _, _, rfl, rfl, _, rfl, b, C, dy, _, _, rfl, h2, T.cl, T.nF, pF_first q g', _, _, rfl, rfl, _, _, rfl, rfl, ⟨by decide, by decide⟩, ?_⟩
    have eS : ((p.from_ : Int) + L - (q.from_ : Int)) / 1440 = RM.shift p q L := rfl
    dsimp only
    rw [eS]
    generalize hS : RM.shift p q L = sh at hb
    -- which = least_match(one.step(), other.step(), shift)
    refine ⟨_, rfl, a, dx, _, rfl, h1, np n1, a, g, p, rfl, P1, _, rfl, b, dy, _, rfl, h2, nq n1, b, g', q, rfl, P2, _, rfl, _, _, sh, rfl, sp1, sp2, sq1, sq2, hb.1, hb.2, fun o hLM => ?_⟩
    rw [← hS] at hLM
    cases o with
    | none =>
      refine ⟨_, rfl, rfl, _, rfl, if_t rfl ?_⟩
      exact k none (RM.turn_none0 hc hLM)
    | some w0 =>
      refine ⟨_, rfl, rfl, _, rfl, if_f rfl ?_⟩
      obtain ⟨r0, er, T0⟩ := RM.turn_start hc hLM
      rw [hS] at er
      -- partner
      refine ⟨_, rfl, _, rfl, a, dx, _, rfl, h1, np n1, a, g, p, rfl, P1, _, _, rfl, rfl, .inr ⟨by omega, by omega⟩, _, rfl, _, _, rfl, rfl, _, rfl, b, dy, _, rfl, h2, nq n1, b, g', q, rfl, P2, _, _, rfl, rfl, ⟨by omega, by omega⟩, ?_⟩
      dsimp only
      rw [ediv_exact sq1 er]
      -- common
      refine ⟨_, rfl, a, dx, _, rfl, h1, np n1, a, g, p, rfl, P1, _, rfl, b, dy, _, rfl, h2, nq n1, b, g', q, rfl, P2, _, _, rfl, ?_⟩
      have hg : 0 < Nat.gcd (RM.step p) (RM.step q) := Nat.gcd_pos_of_pos_left _ sp1
      have hg2 : Nat.gcd (RM.step p) (RM.step q) ≤ 60 := Nat.le_trans (Nat.gcd_le_left _ sp1) sp2
      have pa : 0 < RM.step q / Nat.gcd (RM.step p) (RM.step q) := Nat.div_pos (Nat.gcd_le_right _ sq1) hg
      have pb : 0 < RM.step p / Nat.gcd (RM.step p) (RM.step q) := Nat.div_pos (Nat.gcd_le_left _ sp1) hg
      generalize hG : Nat.gcd (RM.step p) (RM.step q) = G at hg hg2 pa pb
      refine while_on (fun σ H' => H' = H ∧ ∃ (x y : Nat), σ = [some (.ref a), some (.ref b), some (.int L), some (.int sh), some (.int x), some (.int y), some (.int G)] ∧ RM.Turn p q L x y) (fun σ => match σ with
        | [_, _, _, _, some (.int x), some (.int y), _] => RM.left p q x.toNat y.toNat
        | _ => 0) ⟨rfl, w0, r0, rfl, T0⟩ ?_
      rintro σ H' ⟨rfl, x, y, rfl, hT⟩
      refine ⟨_, rfl, a, dx, _, rfl, h1, np n2, _, rfl, a, g, p, x, rfl, P1, _, rfl, if_b (fun c1 => ?_) fun c1 => ?_⟩
      · refine ⟨_, rfl, b, dy, _, rfl, h2, nq n2, _, rfl, b, g', q, y, rfl, P2, _, rfl, if_b (fun c2 => ?_) fun c2 => ?_⟩
        · refine ⟨fun σ' H'' => H'' = H' ∧ (x ∈ p.skipped ∨ y ∈ q.skipped) ∧ σ' = [some (.ref a), some (.ref b), some (.int L), some (.int sh), some (.int ((x + RM.step q / G : Nat) : Int)), some (.int ((y + RM.step p / G : Nat) : Int)), some (.int G)], fun σ' H'' ⟨e1, e2, e3⟩ => ?_, ?_⟩
          · subst e1 e3
            refine ⟨_, ?_, rfl, rfl, _, _, rfl, ?_⟩
            · exact RM.left_lt pa pb e2
            · rw [← hG]; exact RM.turn_next hc hT e2
          -- if not one.has_given_up(which) and (not other.has_given_up(partner))
          · refine ⟨_, rfl, a, dx, _, rfl, h1, np n3, _, rfl, a, g, p, x, rfl, P1, _, rfl, if_b (fun c3 => ?_) fun c3 => ?_⟩
            · refine ⟨_, rfl, b, dy, _, rfl, h2, nq n3, _, rfl, b, g', q, y, rfl, P2, _, rfl, if_b (fun c4 => ?_) fun c4 => ?_⟩
              · have m1 : x ∉ p.skipped := by simpa using c3
                have m2 : y ∉ q.skipped := by simpa using c4
                refine ⟨_, rfl, a, dx, _, rfl, h1, np n4, _, rfl, a, g, p, x, rfl, P1, op.days, _, rfl, b, dy, _, rfl, h2, nq n4, _, rfl, b, g', q, y, rfl, P2, oq.days, _, _, rfl, ?_⟩
                exact ret_eq (k _ (RM.turn_some op oq hc hT c1 c2 m1 m2)) (congrArg V.int (max_nat _ _))
              · have m2 : y ∈ q.skipped := by simpa using c4
                refine ⟨_, rfl, _, rfl, b, dy, _, rfl, h2, nq n1, b, g', q, rfl, P2, _, rfl, _, _, rfl, rfl, ⟨by omega, by omega⟩, _, _, rfl, rfl, ?_⟩
                refine ⟨_, rfl, _, rfl, a, dx, _, rfl, h1, np n1, a, g, p, rfl, P1, _, rfl, _, _, rfl, rfl, ⟨by omega, by omega⟩, _, _, rfl, rfl, ?_⟩
                exact ⟨rfl, .inr m2, rfl⟩
            · have m2 : x ∈ p.skipped := by simpa using c3
              refine ⟨_, rfl, _, rfl, b, dy, _, rfl, h2, nq n1, b, g', q, rfl, P2, _, rfl, _, _, rfl, rfl, ⟨by omega, by omega⟩, _, _, rfl, rfl, ?_⟩
              refine ⟨_, rfl, _, rfl, a, dx, _, rfl, h1, np n1, a, g, p, rfl, P1, _, rfl, _, _, rfl, rfl, ⟨by omega, by omega⟩, _, _, rfl, rfl, ?_⟩
              exact ⟨rfl, .inl m2, rfl⟩
        · exact k none (RM.turn_none op oq hT fun z => by rw [z.2] at c2; cases c2)
      · exact k none (RM.turn_none op oq hT fun z => by rw [z.1] at c1; cases c1)
end
end R
end

section
set_option maxRecDepth 100000
set_option maxHeartbeats 4000000
namespace R
open PySem PySem.Spec PyProof.Rows L2
/-! ### min of a list, whatever its items are, with a default or without -/
section
variable {prog : Program} {w : World} {A : Around} {l I S : Addr} {vs : List Value} {h0 : Heap} {kw : List (Str × Value)} {bt : Nat → Nat → Bool}
/-- what the items answer to <, as long as the old objects stand -/
def Cmp (prog : Program) (w : World) (A : Around) (h0 : Heap) (vs : List Value) (bt : Nat → Nat → Bool) : Prop :=
  ∀ i j vi vj (s : Shared) (Q : Value → Shared → Prop) (E : Value → Shared → Prop), vs[i]? = some vi → vs[j]? = some vj → (∀ b o, h0.get? b = some o → s.heap.get? b = some o) → Q (.bool (bt i j)) s → wpAny (model prog w) A (richCompare .Lt vi vj) Q E s
theorem nm : (toString "min" ++ toString ".loop" : String) = "min.loop" := by decide
theorem min_go (hh : A.handled = none) (nI : h0.get? I = none) (nS : h0.get? S = none) (dS : S ≠ I) (hl : h0.IsList l vs.toArray) (hc : Cmp prog w A.in1 h0 vs bt) {s0 : Shared} {R : Result → Shared → Prop}
    (hR : ∀ v h tk, vs[argBest bt (vs.length - 1)]? = some v → (∀ b o, h0.get? b = some o → h.get? b = some o) → R (.ok (.ret v)) { s0 with heap := h, toks := tk }) :
    ∀ (r j : Nat) (h : Heap) (tk : Nat) (vb : Value) (c : Nat), vs.length - (j + 1) = r → j + 1 ≤ vs.length → (∀ b o, h0.get? b = some o → h.get? b = some o) → h.IsListIter I l (j + 1) → vs[argBest bt j]? = some vb →
      h.get? S = some { cls := .type "list", dict := none, data := .seq #[vb, vb] c, slots := #[] } → codeAny (model prog w) A (.builtin "min.loop" ⟨[.ref I, .none, .ref S], kw⟩) R { s0 with heap := h, toks := tk } := by
  have lI : l ≠ I := fun z => by
    obtain ⟨o, e, _⟩ := hl
    rw [z, nI] at e
    cases e
  have W := Walks.list (prog := prog) (w := w) (A := A.in1) hh I l lI vs.toArray
  have sz : vs.toArray.size = vs.length := List.size_toArray ..
  have sIn : S ∉ [I] := fun z => dS (List.mem_singleton.mp z)
  have old : ∀ {h h' : Heap}, (∀ b o, h0.get? b = some o → h.get? b = some o) → (∀ b o, b ∉ [I] → h.get? b = some o → h'.get? b = some o) → ∀ b o, h0.get? b = some o → h'.get? b = some o := fun k1 k2 b o e =>
    k2 b o (fun z => by rw [List.mem_singleton.mp z, nI] at e; cases e) (k1 b o e)
  have oldS : ∀ {h : Heap} {f : Obj → Obj}, (∀ b o, h0.get? b = some o → h.get? b = some o) → ∀ b o, h0.get? b = some o → (h.update S f).get? b = some o := fun k1 b o e =>
    (Heap.get?_update_other _ _ (fun z : S = b => by rw [← z, nS] at e; cases e)).trans (k1 b o e)
  intro r
  induction r with
  | zero =>
    intro j h tk vb c hr hj hk hit hvb hS
    have hin : j + 1 = vs.length := by omega
    refine codeAny_builtin PySem.F.entry_min_loop ?_
    rw [Around.under_plainId PySem.F.plain_min_loop _]
    refine wpAny_bind (m := seqItems? (.ref S)) (wpAny_seqItems hS rfl ?_)
    refine wpAny_bind (m := tryCatch (pyNext (.ref I)) _) (wpAny_tryCatch (W.done _ _ _ ⟨by rw [sz, ← hin]; exact hit, hl.at fun o e => hk _ _ e⟩ fun h' tk' hk' => ?_))
    have hS' := hk' S _ sIn hS
    refine wpAny_bind (m := updateSeq S (fun _ => #[])) ?_
    refine wpAny_updateSeq hS' rfl (wpAny_bind (wpAny_letGo (wpAny_pure ?_)))
    exact hR vb _ _ (by rw [show vs.length - 1 = j by omega]; exact hvb) (oldS (old hk hk'))
  | succ r ih =>
    intro j h tk vb c hr hj hk hit hvb hS
    have hlt : j + 1 < vs.length := by omega
    refine codeAny_builtin PySem.F.entry_min_loop ?_
    rw [Around.under_plainId PySem.F.plain_min_loop _]
    refine wpAny_bind (m := seqItems? (.ref S)) (wpAny_seqItems hS rfl ?_)
    refine wpAny_bind (m := tryCatch (pyNext (.ref I)) _) (wpAny_tryCatch (W.item (j + 1) _ _ _ (by rw [sz]; exact hlt) ⟨hit, hl.at fun o e => hk _ _ e⟩ fun v h' tk' hP hst' hk' => ?_))
    have hv : vs[j + 1]? = some v := by simpa using hP
    have hS' := hk' S _ sIn hS
    have k1 := old hk hk'
    refine wpAny_bind (m := pure v) (wpAny_pure ?_)
    refine wpAny_bind (m := tryCatch (holding [v, v] (richCompare .Lt v vb >>= _)) _) (wpAny_tryCatch (wpAny_holding (wpAny_bind (hc (j + 1) (argBest bt j) v vb _ _ _ hv hvb k1 ?_))))
    refine wpAny_bind (wpAny_holding (wpAny_truthy_bool ?_))
    refine wpAny_bind (wpAny_letGo (wpAny_pure ?_))
    cases hb : bt (j + 1) (argBest bt j) with
    | true =>
      simp only [if_true]
      refine wpAny_bind ?_
      refine wpAny_updateSeq hS' rfl (wpAny_bind (wpAny_letGo ?_))
      rw [nm]
      refine wpAny_pure ⟨plainId_quiet PySem.F.plain_min_loop _, ih (j + 1) _ _ v _ (by omega) hlt (oldS k1) ?_ (by simp only [argBest, hb, if_true]; exact hv) (Heap.get?_update_self _ hS' rfl)⟩
      exact hst'.1.at fun o e => (Heap.get?_update_other _ _ dS).trans e
    | false =>
      simp only [Bool.false_eq_true, if_false]
      refine wpAny_bind (wpAny_letGo ?_)
      rw [nm]
      exact wpAny_pure ⟨plainId_quiet PySem.F.plain_min_loop _, ih (j + 1) _ _ vb c (by omega) hlt k1 hst'.1 (by simp only [argBest, hb, Bool.false_eq_true, if_false]; exact hvb) hS'⟩
theorem args_dflt (a v : Value) : argsOk "min" ⟨[a], [(Str.ofString "default", v)]⟩ := by unfold argsOk; kernel_rfl
/-- the loop from its beginning: some item -/
theorem min_start (hh : A.handled = none) (nI : h0.get? I = none) (nS : h0.get? S = none) (dS : S ≠ I) (hl : h0.IsList l vs.toArray) (hne : 0 < vs.length) (hc : Cmp prog w A.in1 h0 vs bt) {s : Shared} {c : Nat} {R : Result → Shared → Prop}
    (hk : ∀ b o, h0.get? b = some o → s.heap.get? b = some o) (hit : s.heap.IsListIter I l 0) (hS : s.heap.get? S = some { cls := .type "list", dict := none, data := .seq #[] c, slots := #[] })
    (hR : ∀ v h tk, vs[argBest bt (vs.length - 1)]? = some v → (∀ b o, h0.get? b = some o → h.get? b = some o) → R (.ok (.ret v)) { s with heap := h, toks := tk }) :
    codeAny (model prog w) A (.builtin "min.loop" ⟨[.ref I, .none, .ref S], kw⟩) R s := by
  have lI : l ≠ I := fun z => by
    obtain ⟨o, e, _⟩ := hl
    rw [z, nI] at e
    cases e
  have W := Walks.list (prog := prog) (w := w) (A := A.in1) hh I l lI vs.toArray
  have sIn : S ∉ [I] := fun z => dS (List.mem_singleton.mp z)
  refine codeAny_builtin PySem.F.entry_min_loop ?_
  rw [Around.under_plainId PySem.F.plain_min_loop _]
  refine wpAny_bind (m := seqItems? (.ref S)) (wpAny_seqItems hS rfl ?_)
  refine wpAny_bind (m := tryCatch (pyNext (.ref I)) _) (wpAny_tryCatch (W.item 0 _ _ _ (by simpa using hne) ⟨hit, hl.at fun o e => hk _ _ e⟩ fun v h' tk' hP hst' hk' => ?_))
  have hv : vs[0]? = some v := by simpa using hP
  have hS' := hk' S _ sIn hS
  refine wpAny_bind (m := updateSeq S (fun _ => #[v, v])) ?_
  refine wpAny_updateSeq hS' rfl ?_
  rw [nm]
  refine wpAny_pure ⟨plainId_quiet PySem.F.plain_min_loop _, min_go hh nI nS dS hl hc hR _ 0 _ _ v _ rfl hne (fun b o e => ?_) (hst'.1.at fun o e => (Heap.get?_update_other _ _ dS).trans e) hv (Heap.get?_update_self _ hS' rfl)⟩
  refine (Heap.get?_update_other _ _ (fun z : S = b => by rw [← z, nS] at e; cases e)).trans (hk' b o (fun z => by rw [List.mem_singleton.mp z, nI] at e; cases e) (hk b o e))
/-- the loop over nothing, with a default -/
theorem min_none (hh : A.handled = none) (nI : h0.get? I = none) (dS : S ≠ I) (hl : h0.IsList l #[]) {s : Shared} {c : Nat} {d : Value} {n : Str} {R : Result → Shared → Prop}
    (hk : ∀ b o, h0.get? b = some o → s.heap.get? b = some o) (hit : s.heap.IsListIter I l 0) (hS : s.heap.get? S = some { cls := .type "list", dict := none, data := .seq #[] c, slots := #[] })
    (hR : ∀ h tk, (∀ b o, h0.get? b = some o → h.get? b = some o) → R (.ok (.ret d)) { s with heap := h, toks := tk }) :
    codeAny (model prog w) A (.builtin "min.loop" ⟨[.ref I, .none, .ref S], [(n, d)]⟩) R s := by
  have lI : l ≠ I := fun z => by
    obtain ⟨o, e, _⟩ := hl
    rw [z, nI] at e
    cases e
  have W := Walks.list (prog := prog) (w := w) (A := A.in1) hh I l lI #[]
  refine codeAny_builtin PySem.F.entry_min_loop ?_
  rw [Around.under_plainId PySem.F.plain_min_loop _]
  refine wpAny_bind (m := seqItems? (.ref S)) (wpAny_seqItems hS rfl ?_)
  refine wpAny_bind (m := tryCatch (pyNext (.ref I)) _) (wpAny_tryCatch (W.done _ _ _ ⟨hit, hl.at fun o e => hk _ _ e⟩ fun h' tk' hk' => ?_))
  refine wpAny_bind (m := rule _) (wpAny_rule (wpAny_pure ?_))
  exact hR _ _ fun b o e => hk' b o (fun z => by rw [List.mem_singleton.mp z, nI] at e; cases e) (hk b o e)
/-- min(xs) -/
theorem call_min1 {s : Shared} {Q : Value → Shared → Prop} {E : Value → Shared → Prop} (hh : A.handled = none) (hl : s.heap.IsList l vs.toArray) (hne : 0 < vs.length) (hc : Cmp prog w A.in1 s.heap vs bt)
    (h : ∀ v h tk, vs[argBest bt (vs.length - 1)]? = some v → (∀ b o, s.heap.get? b = some o → h.get? b = some o) → Q v { s with heap := h, toks := tk }) :
    wpAny (model prog w) A (call (.builtin "min") [.ref l]) Q E s := by
  refine call_function_tree PySem.F.kind_min PySem.F.plain_min PySem.F.entry_min (PySem.F.args_min1 _) ?_
  refine wpAny_bind (m := Builtin.Builtins.bindParams "min" ["key", "default"] 0 ⟨[], []⟩) (wpAny_of_eq (a := [none, none]) rfl ?_)
  refine wpAny_bind (wpAny_pure ?_)
  refine wpAny_bind (wpAny_pyIter_list hl ?_)
  refine wpAny_bind (wpAny_newList ?_ (Nat.zero_le _))
  rw [nm]
  have nI : s.heap.get? s.heap.objs.size = none := by
    cases e : s.heap.get? s.heap.objs.size with
    | none => rfl
    | some o => exact absurd (Heap.lt_size e) (Nat.lt_irrefl _)
  have n2 : s.heap.get? (s.heap.objs.size + 1) = none := by
    cases e : s.heap.get? (s.heap.objs.size + 1) with
    | none => rfl
    | some o => exact absurd (Heap.lt_size e) (Nat.not_lt_of_le (Nat.le_succ _))
  have sz1 := Heap.size_push s.heap { cls := Value.type "list_iterator", data := Data.fields #[Value.ref l, Value.int 0 0] }
  refine wpAny_pure ⟨plainId_quiet PySem.F.plain_min_loop _, min_start (h0 := s.heap) (c := 0) hh nI ?_ ?_ hl hne hc (fun b o e => ?_) ?_ ?_ ?_⟩
  · dsimp only
    rw [sz1]
    exact n2
  · dsimp only
    rw [sz1]
    exact Nat.succ_ne_self _
  · exact Heap.get?_push_of_some _ (Heap.get?_push_of_some _ e)
  · exact ⟨_, Heap.get?_push_of_some _ (Heap.get?_push_size _ rfl), rfl, rfl⟩
  · exact Heap.get?_push_size _ rfl
  · exact fun v h' tk hv hk => h v h' tk hv hk
/-- min(xs, default=d) -/
theorem call_minD {s : Shared} {d : Value} {Q : Value → Shared → Prop} {E : Value → Shared → Prop} (hh : A.handled = none) (hl : s.heap.IsList l vs.toArray) (hc : Cmp prog w A.in1 s.heap vs bt)
    (h0 : vs = [] → ∀ h tk, (∀ b o, s.heap.get? b = some o → h.get? b = some o) → Q d { s with heap := h, toks := tk })
    (h : ∀ v h tk, 0 < vs.length → vs[argBest bt (vs.length - 1)]? = some v → (∀ b o, s.heap.get? b = some o → h.get? b = some o) → Q v { s with heap := h, toks := tk }) :
    wpAny (model prog w) A (call (.builtin "min") [.ref l] [(Str.ofString "default", d)]) Q E s := by
  refine kmk_tree PySem.F.kind_min PySem.F.plain_min PySem.F.entry_min (args_dflt _ _) ?_
  refine wpAny_bind (m := Builtin.Builtins.bindParams "min" ["key", "default"] 0 ⟨[], [(Str.ofString "default", d)]⟩) (wpAny_of_eq (a := [none, some d]) rfl ?_)
  refine wpAny_bind (wpAny_pure ?_)
  refine wpAny_bind (wpAny_pyIter_list hl ?_)
  refine wpAny_bind (wpAny_newList ?_ (Nat.zero_le _))
  rw [nm]
  have nI : s.heap.get? s.heap.objs.size = none := by
    cases e : s.heap.get? s.heap.objs.size with
    | none => rfl
    | some o => exact absurd (Heap.lt_size e) (Nat.lt_irrefl _)
  have n2 : s.heap.get? (s.heap.objs.size + 1) = none := by
    cases e : s.heap.get? (s.heap.objs.size + 1) with
    | none => rfl
    | some o => exact absurd (Heap.lt_size e) (Nat.not_lt_of_le (Nat.le_succ _))
  have sz1 := Heap.size_push s.heap { cls := Value.type "list_iterator", data := Data.fields #[Value.ref l, Value.int 0 0] }
  have dS : (s.heap.push { cls := Value.type "list_iterator", data := Data.fields #[Value.ref l, Value.int 0 0] }).objs.size ≠ s.heap.objs.size := by
    rw [sz1]
    exact Nat.succ_ne_self _
  by_cases hne : vs = []
  · subst hne
    refine wpAny_pure ⟨plainId_quiet PySem.F.plain_min_loop _, min_none (h0 := s.heap) (c := 0) hh nI dS hl (fun b o e => ?_) ?_ ?_ ?_⟩
    · exact Heap.get?_push_of_some _ (Heap.get?_push_of_some _ e)
    · exact ⟨_, Heap.get?_push_of_some _ (Heap.get?_push_size _ rfl), rfl, rfl⟩
    · exact Heap.get?_push_size _ rfl
    · exact fun h' tk hk => h0 rfl h' tk hk
  · have hne' : 0 < vs.length := List.length_pos_iff.mpr hne
    refine wpAny_pure ⟨plainId_quiet PySem.F.plain_min_loop _, min_start (h0 := s.heap) (c := 0) hh nI ?_ dS hl hne' hc (fun b o e => ?_) ?_ ?_ ?_⟩
    · rw [sz1]
      exact n2
    · exact Heap.get?_push_of_some _ (Heap.get?_push_of_some _ e)
    · exact ⟨_, Heap.get?_push_of_some _ (Heap.get?_push_size _ rfl), rfl, rfl⟩
    · exact Heap.get?_push_size _ rfl
    · exact fun v h' tk hv hk => h v h' tk hne' hv hk
/-- the best is none that another beats -/
theorem best_le {bt : Nat → Nat → Bool} (irr : ∀ i, bt i i = false) (tr : ∀ i j k, bt i j = true → bt j k = true → bt i k = true) : ∀ n, argBest bt n ≤ n ∧ ∀ j, j ≤ n → bt j (argBest bt n) = false
  | 0 => ⟨Nat.le_refl _, fun j hj => by rw [Nat.le_zero.mp hj]; exact irr 0⟩
  | n + 1 => by
    obtain ⟨h1, h2⟩ := best_le irr tr n
    simp only [argBest]
    cases hb : bt (n + 1) (argBest bt n) with
    | true =>
      simp only [if_true]
      refine ⟨Nat.le_refl _, fun j hj => ?_⟩
      by_cases e : j = n + 1
      · rw [e]; exact irr _
      · cases q : bt j (n + 1) with
        | false => rfl
        | true =>
          have := tr j (n + 1) (argBest bt n) q hb
          rw [h2 j (by omega)] at this
          cases this
    | false =>
      simp only [Bool.false_eq_true, if_false]
      refine ⟨by omega, fun j hj => ?_⟩
      by_cases e : j = n + 1
      · rw [e]; exact hb
      · exact h2 j (by omega)
end
/-! ### the rules -/
section
variable {X : Cx}
def rMinD (K : PySem.W.Frag) : List V → List V → Hp → VK → Prop := fun vs zs H Q => ∃ (a : Addr) (ns : List Int) (z : V), vs = [V.ref a] ∧ zs = [z] ∧ SqL K H a (ns.map V.int) ∧ (ns = [] → Q z H) ∧ ∀ m, m ∈ ns → (∀ y, y ∈ ns → m ≤ y) → Q (.int m) H
theorem cr_minD (hc : X.calm = true) : CallRK X (.builtin "min") [Str.ofString "default"] (rMinD X.K) := by
  intro pins s σ H vs zs us ws Q I r rz h
  obtain ⟨a, ns, z, rfl, rfl, hs, q0, q⟩ := h
  obtain rfl := Vals.ref1 r
  obtain ⟨w1, rfl, e1⟩ := vals1 rz
  obtain ⟨its, rv, hl, _⟩ := I.list hs
  have hi := rv.ints
  have hlen : its.length = ns.length := by have := rv.length; rw [List.length_map] at this; exact this.symm
  have at_ : ∀ i v, its[i]? = some v → ∃ (n : Int) (t : Tok), ns[i]? = some n ∧ v = Value.int n t := fun i v e => by
    have hi' : i < ns.length := by rw [← hlen]; exact (List.getElem?_eq_some_iff.mp e).1
    obtain ⟨u, e2, ru⟩ := Vals.get (i := i) (x := V.int ns[i]) rv (by rw [List.getElem?_map, List.getElem?_eq_getElem hi']; rfl)
    rw [e] at e2
    cases e2
    obtain ⟨t, rfl⟩ := ru
    exact ⟨_, t, List.getElem?_eq_getElem hi', rfl⟩
  have cmp : Cmp X.prog X.w X.A.in1 s.heap its (fun i j => decide (ns.getD i 0 < ns.getD j 0)) := by
    intro i j vi vj s' Q' E' ei ej _ hq
    obtain ⟨n, t, en, rfl⟩ := at_ i vi ei
    obtain ⟨m, u, em, rfl⟩ := at_ j vj ej
    have e : decide (ns.getD i 0 < ns.getD j 0) = decide (n < m) := by rw [List.getD_eq_getElem?_getD, List.getD_eq_getElem?_getD, en, em]; rfl
    dsimp only at hq
    rw [e] at hq
    exact lt_int hq
  refine call_minD (vs := its) (I.ok.hd hc) hl.isList cmp (fun e h' tk hk => ?_) fun v h' tk hne hv hk => ?_
  · exact ⟨z, H, I.kept hk, e1, q0 (by rw [e] at hlen; exact List.eq_nil_of_length_eq_zero hlen.symm)⟩
  · obtain ⟨n, t, en, rfl⟩ := at_ _ v hv
    refine ⟨.int n, H, I.kept hk, ⟨t, rfl⟩, q n (List.mem_of_getElem? en) fun y hy => ?_⟩
    obtain ⟨j, hj, ey⟩ := List.mem_iff_getElem.mp hy
    have := (best_le (bt := fun i j => decide (ns.getD i 0 < ns.getD j 0)) (fun i => by simp) (fun i j k h1 h2 => by simp only [decide_eq_true_eq] at h1 h2 ⊢; omega) (its.length - 1)).2 j (by omega)
    simp only [decide_eq_false_iff_not] at this
    rw [List.getD_eq_getElem?_getD, List.getD_eq_getElem?_getD, en, List.getElem?_eq_getElem hj, ey] at this
    simp only [Option.getD_some] at this
    omega
/-- min(xs) of a list of pairs of ints: ps tells each one's address and its two numbers -/
def rMinP (K : PySem.W.Frag) : List V → Hp → VK → Prop := fun vs H Q => ∃ (a : Addr) (ps : List (Addr × Int × Int)), vs = [V.ref a] ∧ SqL K H a (ps.map fun p => V.ref p.1) ∧ ps ≠ [] ∧ (∀ p ∈ ps, H p.1 = some (.tup [.int p.2.1, .int p.2.2])) ∧
  ∀ p, p ∈ ps → (∀ q, q ∈ ps → p.2.1 < q.2.1 ∨ (p.2.1 = q.2.1 ∧ p.2.2 ≤ q.2.2)) → Q (.ref p.1) H
theorem lex_two (a b c d : Int) : HT.lexLt [a, b] [c, d] = decide (a < c ∨ (a = c ∧ b < d)) := by
  simp only [HT.lexLt]
  by_cases h : a = c
  · rw [if_pos h]
    by_cases h2 : b = d
    · rw [if_pos h2]; exact (decide_eq_false (by omega)).symm
    · rw [if_neg h2, Bool.eq_iff_iff, decide_eq_true_eq, decide_eq_true_eq]; omega
  · rw [if_neg h, Bool.eq_iff_iff, decide_eq_true_eq, decide_eq_true_eq]; omega
theorem cr_minP (hc : X.calm = true) (hu : X.A.units + 1 < cLine) : CallR X (.builtin "min") (rMinP X.K) := by
  intro pins s σ H vs us Q I r h
  obtain ⟨a, ps, rfl, hs, hne, hp, q⟩ := h
  obtain rfl := Vals.ref1 r
  obtain ⟨its, rv, hl, _⟩ := I.list hs
  have hlen : its.length = ps.length := by have := rv.length; rw [List.length_map] at this; exact this.symm
  have at_ : ∀ i v, its[i]? = some v → ∃ p : Addr × Int × Int, ps[i]? = some p ∧ v = Value.ref p.1 := fun i v e => by
    have hi' : i < ps.length := by rw [← hlen]; exact (List.getElem?_eq_some_iff.mp e).1
    obtain ⟨u, e2, ru⟩ := Vals.get (i := i) (x := V.ref (ps[i]).1) rv (by rw [List.getElem?_map, List.getElem?_eq_getElem hi']; rfl)
    rw [e] at e2
    cases e2
    exact ⟨_, List.getElem?_eq_getElem hi', ru⟩
  let kf : Nat → Int × Int := fun i => ((ps[i]?).map (·.2)).getD (0, 0)
  have cmp : Cmp X.prog X.w X.A.in1 s.heap its (fun i j => decide ((kf i).1 < (kf j).1 ∨ ((kf i).1 = (kf j).1 ∧ (kf i).2 < (kf j).2))) := by
    intro i j vi vj s' Q' E' ei ej hk hq
    obtain ⟨p, ep, rfl⟩ := at_ i vi ei
    obtain ⟨p', ep', rfl⟩ := at_ j vj ej
    obtain ⟨i1, r1, t1, _⟩ := I.tuple (SqT.of (K := X.K) (hp p (List.mem_of_getElem? ep)))
    obtain ⟨i2, r2, t2, _⟩ := I.tuple (SqT.of (K := X.K) (hp p' (List.mem_of_getElem? ep')))
    have e1 : kf i = p.2 := by show ((ps[i]?).map (·.2)).getD (0, 0) = _; rw [ep]; rfl
    have e2 : kf j = p'.2 := by show ((ps[j]?).map (·.2)).getD (0, 0) = _; rw [ep']; rfl
    dsimp only at hq
    rw [e1, e2, ← lex_two] at hq
    exact HT.lt_tupInts ⟨_, hk _ _ t1.choose_spec.1, t1.choose_spec.2⟩ ⟨_, hk _ _ t2.choose_spec.1, t2.choose_spec.2⟩ (intsAre_of (ns := [p.2.1, p.2.2]) r1) (intsAre_of (ns := [p'.2.1, p'.2.2]) r2) hu hq
  have hpos : 0 < its.length := by rw [hlen]; exact List.length_pos_iff.mpr hne
  refine call_min1 (vs := its) (I.ok.hd hc) hl.isList hpos cmp fun v h' tk hv hk => ?_
  obtain ⟨p, ep, rfl⟩ := at_ _ v hv
  refine ⟨.ref p.1, H, I.kept hk, rfl, q p (List.mem_of_getElem? ep) fun y hy => ?_⟩
  obtain ⟨j, hj, ey⟩ := List.mem_iff_getElem.mp hy
  have := (best_le (bt := fun i j => decide ((kf i).1 < (kf j).1 ∨ ((kf i).1 = (kf j).1 ∧ (kf i).2 < (kf j).2))) (fun i => by simp) (fun i j k h1 h2 => by simp only [decide_eq_true_eq] at h1 h2 ⊢; omega) (its.length - 1)).2 j (by omega)
  simp only [decide_eq_false_iff_not] at this
  have e2 : kf j = y.2 := by show ((ps[j]?).map (·.2)).getD (0, 0) = _; rw [List.getElem?_eq_getElem hj, ey]; rfl
  have e1 : kf (argBest (fun i j => decide ((kf i).1 < (kf j).1 ∨ ((kf i).1 = (kf j).1 ∧ (kf i).2 < (kf j).2))) (its.length - 1)) = p.2 := by
    generalize argBest (fun i j => decide ((kf i).1 < (kf j).1 ∨ ((kf i).1 = (kf j).1 ∧ (kf i).2 < (kf j).2))) (its.length - 1) = n at ep
    show ((ps[n]?).map (·.2)).getD (0, 0) = _
    rw [ep]; rfl
  rw [e1, e2] at this
  omega
/-- min(xs, default=z) of a list of pairs of ints -/
def rMinPD (K : PySem.W.Frag) : List V → List V → Hp → VK → Prop := fun vs zs H Q => ∃ (a : Addr) (ps : List (Addr × Int × Int)) (z : V), vs = [V.ref a] ∧ zs = [z] ∧ SqL K H a (ps.map fun p => V.ref p.1) ∧ (∀ p ∈ ps, H p.1 = some (.tup [.int p.2.1, .int p.2.2])) ∧ (ps = [] → Q z H) ∧
  ∀ p, p ∈ ps → (∀ q, q ∈ ps → p.2.1 < q.2.1 ∨ (p.2.1 = q.2.1 ∧ p.2.2 ≤ q.2.2)) → Q (.ref p.1) H
theorem cr_minPD (hc : X.calm = true) (hu : X.A.units + 1 < cLine) : CallRK X (.builtin "min") [Str.ofString "default"] (rMinPD X.K) := by
  intro pins s σ H vs zs us ws Q I r rz h
  obtain ⟨a, ps, z, rfl, rfl, hs, hp, q0, q⟩ := h
  obtain rfl := Vals.ref1 r
  obtain ⟨w1, rfl, e1⟩ := vals1 rz
  obtain ⟨its, rv, hl, _⟩ := I.list hs
  have hlen : its.length = ps.length := by have := rv.length; rw [List.length_map] at this; exact this.symm
  have at_ : ∀ i v, its[i]? = some v → ∃ p : Addr × Int × Int, ps[i]? = some p ∧ v = Value.ref p.1 := fun i v e => by
    have hi' : i < ps.length := by rw [← hlen]; exact (List.getElem?_eq_some_iff.mp e).1
    obtain ⟨u, e2, ru⟩ := Vals.get (i := i) (x := V.ref (ps[i]).1) rv (by rw [List.getElem?_map, List.getElem?_eq_getElem hi']; rfl)
    rw [e] at e2
    cases e2
    exact ⟨_, List.getElem?_eq_getElem hi', ru⟩
  let kf : Nat → Int × Int := fun i => ((ps[i]?).map (·.2)).getD (0, 0)
  have cmp : Cmp X.prog X.w X.A.in1 s.heap its (fun i j => decide ((kf i).1 < (kf j).1 ∨ ((kf i).1 = (kf j).1 ∧ (kf i).2 < (kf j).2))) := by
    intro i j vi vj s' Q' E' ei ej hk hq
    obtain ⟨p, ep, rfl⟩ := at_ i vi ei
    obtain ⟨p', ep', rfl⟩ := at_ j vj ej
    obtain ⟨i1, r1, t1, _⟩ := I.tuple (SqT.of (K := X.K) (hp p (List.mem_of_getElem? ep)))
    obtain ⟨i2, r2, t2, _⟩ := I.tuple (SqT.of (K := X.K) (hp p' (List.mem_of_getElem? ep')))
    have e1 : kf i = p.2 := by show ((ps[i]?).map (·.2)).getD (0, 0) = _; rw [ep]; rfl
    have e2 : kf j = p'.2 := by show ((ps[j]?).map (·.2)).getD (0, 0) = _; rw [ep']; rfl
    dsimp only at hq
    rw [e1, e2, ← lex_two] at hq
    exact HT.lt_tupInts ⟨_, hk _ _ t1.choose_spec.1, t1.choose_spec.2⟩ ⟨_, hk _ _ t2.choose_spec.1, t2.choose_spec.2⟩ (intsAre_of (ns := [p.2.1, p.2.2]) r1) (intsAre_of (ns := [p'.2.1, p'.2.2]) r2) hu hq
  refine call_minD (vs := its) (I.ok.hd hc) hl.isList cmp (fun e h' tk hk => ?_) fun v h' tk hne hv hk => ?_
  · exact ⟨z, H, I.kept hk, e1, q0 (by rw [e] at hlen; exact List.eq_nil_of_length_eq_zero hlen.symm)⟩
  obtain ⟨p, ep, rfl⟩ := at_ _ v hv
  refine ⟨.ref p.1, H, I.kept hk, rfl, q p (List.mem_of_getElem? ep) fun y hy => ?_⟩
  obtain ⟨j, hj, ey⟩ := List.mem_iff_getElem.mp hy
  have := (best_le (bt := fun i j => decide ((kf i).1 < (kf j).1 ∨ ((kf i).1 = (kf j).1 ∧ (kf i).2 < (kf j).2))) (fun i => by simp) (fun i j k h1 h2 => by simp only [decide_eq_true_eq] at h1 h2 ⊢; omega) (its.length - 1)).2 j (by omega)
  simp only [decide_eq_false_iff_not] at this
  have e2 : kf j = y.2 := by show ((ps[j]?).map (·.2)).getD (0, 0) = _; rw [List.getElem?_eq_getElem hj, ey]; rfl
  have e1 : kf (argBest (fun i j => decide ((kf i).1 < (kf j).1 ∨ ((kf i).1 = (kf j).1 ∧ (kf i).2 < (kf j).2))) (its.length - 1)) = p.2 := by
    generalize argBest (fun i j => decide ((kf i).1 < (kf j).1 ∨ ((kf i).1 = (kf j).1 ∧ (kf i).2 < (kf j).2))) (its.length - 1) = n at ep
    show ((ps[n]?).map (·.2)).getD (0, 0) = _
    rw [ep]; rfl
  rw [e1, e2] at this
  omega
end
end R
end

section
set_option maxRecDepth 100000
set_option maxHeartbeats 4000000
namespace R
open PySem PySem.Spec PyProof.Rows L2
section
variable {P : Program} {w : World} {K : PySem.W.Frag} {mg : Str → Option Value} {base : Heap} {C f : Addr} {fd : FuncData}
/-! ### first_meeting -/
theorem PlanAt.same {C a g : Addr} {H H' : Hp} {p : Cl05.Plan} (h : PlanAt C H a g p) (s : Same H H') : PlanAt C H' a g p := by
  obtain ⟨⟨dx, h1⟩, h2⟩ := h
  exact ⟨⟨dx, s _ _ h1⟩, s _ _ h2⟩
def spFirst (C : Addr) : Sp := fun vs H Q _ => ∃ (a g b g' : Addr) (p q : Cl05.Plan), vs = [.ref a, .ref b] ∧ PlanAt C H a g p ∧ PlanAt C H b g' q ∧ RM.OkP p ∧ RM.OkP q ∧
  ∀ H', Same H H' → Q (oV (Cl05.meets p q)) H'
def toL : Option Nat → List Int
  | none => []
  | some n => [(n : Int)]
theorem omin_of {o o2 : Option Nat} : (toL o ++ toL o2 = [] → RM.omin o o2 = none) ∧ ∀ m, m ∈ toL o ++ toL o2 → (∀ y, y ∈ toL o ++ toL o2 → m ≤ y) → oV (RM.omin o o2) = .int m := by
  cases o with
  | none =>
    cases o2 with
    | none => exact ⟨fun _ => rfl, fun m h => (by cases h)⟩
    | some b =>
      refine ⟨fun h => (by cases h), fun m h _ => ?_⟩
      have : m = b := by simpa [toL] using h
      rw [this]; rfl
  | some a =>
    cases o2 with
    | none =>
      refine ⟨fun h => (by cases h), fun m h _ => ?_⟩
      have : m = a := by simpa [toL] using h
      rw [this]; rfl
    | some b =>
      refine ⟨fun h => (by cases h), fun m h l => ?_⟩
      have h1 : m = a ∨ m = b := by simpa [toL] using h
      have h2 := l a (by simp [toL])
      have h3 := l b (by simp [toL])
      show V.int ((min a b : Nat) : Int) = _
      congr 1
      omega
def Pv1 (H : Hp) (a b ml tt : Addr) (B : Int) (p q : Cl05.Plan) (i : Nat) (σ : L2.St) (H' : Hp) : Prop :=
  Same H H' ∧ H' tt = some (.tup [.int B, .int (B - 1440)]) ∧ ∃ v w, σ = [some (.ref a), some (.ref b), some (.int B), some (.ref ml), v, w] ∧
    match i with
    | 0 => H' ml = some (.lst [])
    | 1 => ∃ o, RM.LeadOr p q B o ∧ H' ml = some (.lst ((toL o).map V.int))
    | _ => ∃ o o2, RM.LeadOr p q B o ∧ RM.LeadOr p q (B - 1440) o2 ∧ H' ml = some (.lst ((toL o ++ toL o2).map V.int))
abbrev s_first_meeting : Stmt := top 10
theorem sc_first_meeting : FnScope ["one", "other", "behind", "moments", "lead", "moment"] ["one", "other"] (defScope s_first_meeting) := ⟨rfl, rfl, rfl, by decide +kernel, rfl, by decide +kernel, by decide +kernel⟩
theorem ok_first_meeting (F : Fun K "first_meeting" "first_meeting" s_first_meeting f fd) (T : TxP K mg C)
    (d_first_meeting_at_lead : DF P w K mg base "first_meeting_at_lead" 2 ["one", "other", "lead"] (spLead C)) : FnOk P w K mg base CX0 3 f fd ["one", "other"] (spFirst C) := by
  refine F.ok sc_first_meeting (fun vs H Q E h => ?_) (fun cdv A outer s H vs Q E hr h => ?_)
  · obtain ⟨_, _, _, _, _, _, rfl, _⟩ := h
    rfl
  · obtain ⟨a, g, b, g', p, q, rfl, P1, P2, op, oq, k⟩ := h
    obtain ⟨⟨dx, h1⟩, hg1⟩ := id P1
    obtain ⟨⟨dy, h2⟩, hg2⟩ := id P2
    refine ⟨_, (pss_cons (ps_set (i := 2) sc_first_meeting.nd rfl (Or.inl rfl) (pe_op op_mod (pe_op op_sub (pe_fld (pv 1) rfl) (pe_fld (pv 0) rfl)) (pe_gi T.g_DAY)))
      (pss_cons (ps_set (i := 3) sc_first_meeting.nd rfl (Or.inl rfl) (pe_lst pa_nil))
      (pss_cons (ps_for PassesOwn.never rfl (pi_tup (pe_tup (pa_cons (pv 2) (pa_cons (pe_op op_sub (pv 2) (pe_gi T.g_DAY)) pa_nil)))) (pg_name (i := 4) sc_first_meeting.nd rfl (Or.inl rfl))
        (pss_one (ps_if (pt_chain op_lt op_lt (pe_un un_neg (pe_fld (pv 1) rfl)) (pv 4) (pe_fld (pv 0) rfl))
          (pss_cons (ps_set (i := 5) sc_first_meeting.nd rfl (Or.inl rfl) (cd_of (pe_call d_first_meeting_at_lead.F (hr.mono (by decide)) (by rfl) d_first_meeting_at_lead.g d_first_meeting_at_lead.kp d_first_meeting_at_lead.b .nil pass0 (pa_cons (pv 0) (pa_cons (pv 1) (pa_cons (pv 4) pa_nil))))))
          (pss_one (ps_if (pt_cmpR op_notN (pv 5) pe_non (nomark _))
            (pss_one (ps_expr (pe_bm PySem.F.plainAttrs_list PySem.F.slot_list_append PySem.F.type_list_append mt_append (pv 3) (pa_cons (pv 5) pa_nil))))
            pss_nil)))
          pss_nil)))
      (pss_one (ps_ret (pe_callBK (cr_minD rfl) (by rfl) T.b_min (by decide +kernel) (pa_cons (pv 3) pa_nil) (pk_cons pe_non pk_nil))))))), ?_⟩
    refine ⟨_, rfl, b, C, dy, _, _, rfl, h2, T.cl, T.nF, pF_first q g', _, rfl, a, C, dx, _, _, rfl, h1, T.cl, T.nF, pF_first p g, _, _, rfl, rfl, _, _, rfl, rfl, (by show (0 : Int) < 1440; decide), ?_⟩
    dsimp only
    have eB : ((q.from_ : Int) - (p.from_ : Int)) % 1440 = RM.behind p q := rfl
    rw [eB]
    have bB : 0 ≤ RM.behind p q ∧ RM.behind p q < 1440 := by unfold RM.behind; omega
    have c1 := RM.cong_behind p q
    have c2 := RM.cong_behind2 p q
    have fin : ∀ o o2, RM.LeadOr p q (RM.behind p q) o → RM.LeadOr p q (RM.behind p q - 1440) o2 → Cl05.meets p q = RM.omin o o2 := fun o o2 l1 l2 => (RM.meets_first op.len oq.len).uniq (RM.isFirst_of op.len oq.len l1 l2)
    generalize hB : RM.behind p q = B at *
    -- moments = []
    refine ⟨(by show 0 ≤ sizeLine; decide), fun ml hml => ?_⟩
    have s1 : Same H (upd H ml (.lst [])) := fun c o e => by rw [upd_ne (ne_of_none e hml)]; exact e
    -- for lead in (behind, behind - DAY)
    refine ⟨_, rfl, _, rfl, _, _, rfl, rfl, (by show 2 ≤ sizeLine; decide), fun tt htt => ?_⟩
    have nmt : ml ≠ tt := ne_of_none upd_same htt
    have s2 : Same H (upd (upd H ml (.lst [])) tt (.tup [.int B, .int (B - 1440)])) := fun c o e => by rw [upd_ne (ne_of_none (s1 c o e) htt)]; exact s1 c o e
    have nx : ∀ {c o}, H c = some o → c ≠ ml := fun e => ne_of_none e hml
    refine ⟨tt, rfl, ⟨_, SqT.of upd_same⟩, ?_⟩
    refine for_tup (K := K) (a := tt) (xs := [.int B, .int (B - 1440)]) (Pv1 H a b ml tt B p q) ⟨s2, upd_same, none, none, rfl, by rw [upd_ne nmt]; exact upd_same⟩ (fun i σ H' _ h => SqT.of h.2.1) ?_ ?_
    · rintro i x σ H' hi ⟨s5, ht, v, w, rfl, hm⟩
      obtain ⟨L, ms, rfl, hc, b1, b2, hms, hlen, go⟩ : ∃ (L : Int) (ms : List Int), x = .int L ∧ RM.Cong p q L ∧ -1440 ≤ L ∧ L ≤ 1440 ∧ H' ml = some (.lst (ms.map V.int)) ∧ ms.length ≤ 2 ∧
          ∀ (o : Option Nat) (H'' : Hp) (w' : Option V), RM.LeadOr p q L o → H'' ml = some (.lst ((ms ++ toL o).map V.int)) → (∀ c u, H' c = some u → c ≠ ml → H'' c = some u) →
            Pv1 H a b ml tt B p q (i + 1) [some (.ref a), some (.ref b), some (.int B), some (.ref ml), some (.int L), w'] H'' := by
        match i, hi, hm with
        | 0, hi, hm =>
          cases Option.some.inj hi
          refine ⟨B, [], rfl, c1, by omega, by omega, hm, by simp, fun o H'' w' l e kp => ⟨fun c u z => kp c u (s5 c u z) (nx z), kp _ _ ht nmt.symm, _, _, rfl, o, l, e⟩⟩
        | 1, hi, hm =>
          cases Option.some.inj hi
          obtain ⟨o1, l1, e1⟩ := hm
          refine ⟨B - 1440, toL o1, rfl, c2, by omega, by omega, e1, by cases o1 <;> simp [toL], fun o H'' w' l e kp => ⟨fun c u z => kp c u (s5 c u z) (nx z), kp _ _ ht nmt.symm, _, _, rfl, o1, o, l1, l, e⟩⟩
        | n + 2, hi, hm => cases hi
      have P1' := P1.same s5
      have P2' := P2.same s5
      refine ⟨_, rfl, b, C, dy, _, _, rfl, s5 _ _ h2, T.cl, T.nL, pF_length q g', _, rfl, _, rfl, _, _, rfl, rfl, _, rfl, if_b (fun z1 => ?_) fun z1 => ?_⟩
      · have y1 := of_decide_eq_true z1
        refine ⟨_, rfl, a, C, dx, _, _, rfl, s5 _ _ h1, T.cl, T.nL, pF_length p g, _, _, rfl, rfl, _, rfl, if_b (fun z2 => ?_) fun z2 => ?_⟩
        · have y2 := of_decide_eq_true z2
          refine ⟨_, rfl, _, rfl, _, rfl, a, g, b, g', p, q, L, rfl, P1', P2', op, oq, hc, b1, b2, fun o hL => ?_⟩
          have lo : RM.LeadOr p q L o := ⟨fun _ => hL, fun z => absurd ⟨y1, y2⟩ z⟩
          cases o with
          | none =>
            refine ⟨_, rfl, rfl, _, rfl, if_f rfl ?_⟩
            exact go none H' _ lo (by rw [show ms ++ toL none = ms from List.append_nil _]; exact hms) fun c u z _ => z
          | some n =>
            refine ⟨_, rfl, rfl, _, rfl, if_t rfl ?_⟩
            refine ⟨_, rfl, .inl ⟨rfl, _, SqL.of hms⟩, _, rfl, ml, _, _, rfl, rfl, hms, ?_, ?_⟩
            · rw [List.length_map]
              exact small1000 (by omega)
            · refine go (some n) _ _ lo (by rw [upd_same]; simp [toL, oV]) fun c u z hne => by rw [upd_ne hne]; exact z
        · have y2 := of_decide_eq_false z2
          exact go none H' _ ⟨fun z => absurd z.2 y2, fun _ => rfl⟩ (by rw [show ms ++ toL none = ms from List.append_nil _]; exact hms) fun c u z _ => z
      · have y1 := of_decide_eq_false z1
        refine ⟨_, rfl, if_f rfl ?_⟩
        exact go none H' _ ⟨fun z => absurd z.1 y1, fun _ => rfl⟩ (by rw [show ms ++ toL none = ms from List.append_nil _]; exact hms) fun c u z _ => z
    · rintro σ H' ⟨s5, ht, v, w, rfl, o, o2, l1, l2, hm⟩
      obtain ⟨z1, z2⟩ := omin_of (o := o) (o2 := o2)
      refine ⟨_, rfl, ml, _, _, rfl, rfl, SqL.of hm, fun e => ?_, fun m h1 h2 => ?_⟩
      · exact ret_eq (k H' s5) (by rw [fin o o2 l1 l2, z1 e]; rfl)
      · exact ret_eq (k H' s5) (by rw [fin o o2 l1 l2, z2 m h1 h2])
end
end R
end

section
set_option maxRecDepth 100000
set_option maxHeartbeats 4000000
namespace R
open PySem PySem.Spec PyProof.Rows L2
section
variable {P : Program} {w : World} {K : PySem.W.Frag} {mg : Str → Option Value} {base : Heap} {C f : Addr} {fd : FuncData}
/-! ### latest_time, has_moment -/
def spLatest (C : Addr) : Sp := fun vs H Q _ => ∃ (a g : Addr) (p : Cl05.Plan) (m : Int), vs = [.ref a, .int m] ∧ PlanAt C H a g p ∧ RM.OkP p ∧ Q (.int (RM.lat p m)) H
def spHasMoment (C : Addr) : Sp := fun vs H Q _ => ∃ (a g : Addr) (p : Cl05.Plan) (u : Nat), vs = [.ref a, .int u] ∧ PlanAt C H a g p ∧ RM.OkP p ∧ Q (.bl (Cl05.takes p u)) H
def spNextB (C : Addr) : Sp := fun vs H Q _ => ∃ (a g : Addr) (p : Cl05.Plan) (u : Nat), vs = [.ref a, .int u] ∧ PlanAt C H a g p ∧ RM.OkP p ∧ Q (oV (Cl05.nextOf p u)) H
def spMinutes (C : Addr) : Sp := fun vs H Q _ => ∃ (a g : Addr) (p : Cl05.Plan) (u t : Nat), vs = [.ref a, .int u, .int t] ∧ PlanAt C H a g p ∧ RM.OkP p ∧ Q (.int (Cl05.usedBy p u t)) H
theorem no_step : (["first", "length", "days", "times", "given_up"] : List Str).all (fun x => !(("step" : Str) == x)) = true := by decide +kernel
theorem no_has_time : (["first", "length", "days", "times", "given_up"] : List Str).all (fun x => !(("has_time" : Str) == x)) = true := by decide +kernel
theorem no_has_given_up : (["first", "length", "days", "times", "given_up"] : List Str).all (fun x => !(("has_given_up" : Str) == x)) = true := by decide +kernel
theorem no_beginning : (["first", "length", "days", "times", "given_up"] : List Str).all (fun x => !(("beginning" : Str) == x)) = true := by decide +kernel
theorem no_latest_time : (["first", "length", "days", "times", "given_up"] : List Str).all (fun x => !(("latest_time" : Str) == x)) = true := by decide +kernel
theorem no_has_moment : (["first", "length", "days", "times", "given_up"] : List Str).all (fun x => !(("has_moment" : Str) == x)) = true := by decide +kernel
theorem no_next_beginning : (["first", "length", "days", "times", "given_up"] : List Str).all (fun x => !(("next_beginning" : Str) == x)) = true := by decide +kernel
theorem no_minutes_had : (["first", "length", "days", "times", "given_up"] : List Str).all (fun x => !(("minutes_had" : Str) == x)) = true := by decide +kernel
abbrev s_Plan_latest_time : Stmt := inClass (top 7) 5
theorem sc_Plan_latest_time : FnScope ["self", "moment"] ["self", "moment"] (defScope s_Plan_latest_time) := ⟨rfl, rfl, rfl, by decide +kernel, rfl, by decide +kernel, by decide +kernel⟩
theorem ok_Plan_latest_time (F : Fun K "latest_time" "Plan.latest_time" s_Plan_latest_time f fd) (T : TxP K mg C) (D : DPlan P w K mg base C) : FnOk P w K mg base CX0 2 f fd ["self", "moment"] (spLatest C) := by
  have d_Plan_step := D.step
  refine F.ok sc_Plan_latest_time (fun vs H Q E h => ?_) (fun cdv A outer s H vs Q E hr h => ?_)
  · obtain ⟨_, _, _, _, rfl, _⟩ := h
    rfl
  · obtain ⟨a, g, p, m, rfl, P1, ok, q⟩ := h
    obtain ⟨⟨dx, h1⟩, h2⟩ := id P1
    have sp1 := RM.step_pos p
    have sp2 := RM.step_le ok
    refine ⟨_, (pss_one (ps_ret (pe_op op_fdiv (pe_op op_sub (pv 1) (pe_fld (pv 0) rfl)) (pe_op op_mul (md_of (pe_meth0 (pv 0) d_Plan_step.cl d_Plan_step.h d_Plan_step.F (hr.mono (by decide)) d_Plan_step.b .nil pass0)) (pe_gi T.g_DAY))))), ?_⟩
    refine ⟨_, rfl, _, rfl, a, C, dx, _, _, rfl, h1, T.cl, T.nF, pF_first p g, _, _, rfl, rfl, _, rfl, a, dx, _, rfl, h1, pF_no p g no_step, a, g, p, rfl, P1, _, _, rfl, rfl, .inr ⟨by decide, by decide⟩, _, _, rfl, rfl, ⟨by omega, by omega⟩, ?_⟩
    refine ret_eq q (congrArg V.int ?_)
    unfold RM.lat RM.per
    rw [Int.natCast_mul]
    rfl
abbrev s_Plan_has_moment : Stmt := inClass (top 7) 6
theorem sc_Plan_has_moment : FnScope ["self", "moment", "which"] ["self", "moment"] (defScope s_Plan_has_moment) := ⟨rfl, rfl, rfl, by decide +kernel, rfl, by decide +kernel, by decide +kernel⟩
theorem ok_Plan_has_moment (F : Fun K "has_moment" "Plan.has_moment" s_Plan_has_moment f fd) (T : TxP K mg C) (D : DPlan P w K mg base C) (d_Plan_latest_time : DM P w K mg base C "latest_time" 2 ["self", "moment"] (spLatest C)) : FnOk P w K mg base CX0 3 f fd ["self", "moment"] (spHasMoment C) := by
  have d_Plan_has_time := D.has_time
  have d_Plan_has_given_up := D.has_given_up
  have d_Plan_beginning := D.beginning
  refine F.ok sc_Plan_has_moment (fun vs H Q E h => ?_) (fun cdv A outer s H vs Q E hr h => ?_)
  · obtain ⟨_, _, _, _, rfl, _⟩ := h
    rfl
  · obtain ⟨a, g, p, u, rfl, P1, ok, q⟩ := h
    obtain ⟨⟨dx, h1⟩, h2⟩ := id P1
    refine ⟨_, (pss_cons (ps_set (i := 2) sc_Plan_has_moment.nd rfl (Or.inl rfl) (md_of (pe_meth (pv 0) d_Plan_latest_time.cl d_Plan_latest_time.h d_Plan_latest_time.F (hr.mono (by decide)) d_Plan_latest_time.b .nil pass0 (pa_cons (pv 1) pa_nil))))
      (pss_cons (ps_if (PW.pt (pw_or (pt_cmpR op_lt (pv 2) pe_int (nomark _)) (pw_or (pt_not (pt_val (md_of (pe_meth (pv 0) d_Plan_has_time.cl d_Plan_has_time.h d_Plan_has_time.F (hr.mono (by decide)) d_Plan_has_time.b .nil pass0 (pa_cons (pv 2) pa_nil))))) (pw_or1 (pt_val (md_of (pe_meth (pv 0) d_Plan_has_given_up.cl d_Plan_has_given_up.h d_Plan_has_given_up.F (hr.mono (by decide)) d_Plan_has_given_up.b .nil pass0 (pa_cons (pv 2) pa_nil))))))))
        (pss_one (ps_ret pe_bl))
        pss_nil)
      (pss_one (ps_ret (pe_cmpR op_lt (pe_op op_sub (pv 1) (md_of (pe_meth (pv 0) d_Plan_beginning.cl d_Plan_beginning.h d_Plan_beginning.F (hr.mono (by decide)) d_Plan_beginning.b .nil pass0 (pa_cons (pv 2) pa_nil)))) (pe_fld (pv 0) rfl) (nomark _)))))), ?_⟩
    refine ⟨_, rfl, a, dx, _, rfl, h1, pF_no p g no_latest_time, _, rfl, a, g, p, (u : Int), rfl, P1, ok, ?_⟩
    generalize hL : RM.lat p (u : Int) = L
    refine ⟨_, rfl, _, _, rfl, rfl, _, rfl, if_b (fun c => iteT ?_) fun c => ?_⟩
    · have c' := of_decide_eq_true c
      exact ret_eq q (congrArg V.bl (RM.takes_no ok fun k e _ _ => by omega).symm)
    have c' := of_decide_eq_false c
    obtain ⟨k, rfl⟩ := Int.eq_ofNat_of_zero_le (show 0 ≤ L by omega)
    have same : ∀ {j : Nat}, RM.lat p (u : Int) = j → j = k := fun {j} e => by rw [hL] at e; exact (Int.ofNat.inj e).symm
    refine ⟨_, rfl, a, dx, _, rfl, h1, pF_no p g no_has_time, _, rfl, a, g, p, k, rfl, P1, _, rfl, if_b (fun z => iteT ?_) fun z2 => ?_⟩
    · refine ret_eq q (congrArg V.bl (RM.takes_no ok fun j e hr _ => ?_).symm)
      have := (RM.hasT_iff ok).mpr hr
      rw [same e] at this
      rw [this] at z
      cases z
    have hT : RM.hasT p k = true := by simpa using z2
    refine ⟨_, rfl, a, dx, _, rfl, h1, pF_no p g no_has_given_up, _, rfl, a, g, p, k, rfl, P1, _, rfl, if_b (fun z => ?_) fun z3 => ?_⟩
    · refine ret_eq q (congrArg V.bl (RM.takes_no ok fun j e _ hs => ?_).symm)
      rw [same e] at hs
      exact absurd (by simpa using z) hs
    have hs : k ∉ p.skipped := by simpa using z3
    refine ⟨_, rfl, _, rfl, a, dx, _, rfl, h1, pF_no p g no_beginning, _, rfl, a, g, p, k, rfl, P1, ok.days, _, _, rfl, rfl, _, rfl, a, C, dx, _, _, rfl, h1, T.cl, T.nL, pF_length p g, _, _, rfl, rfl, ?_⟩
    exact ret_eq q (congrArg V.bl (RM.takes_is ok hL ((RM.hasT_iff ok).mp hT) hs).symm)
/-! ### next_beginning -/
abbrev s_Plan_next_beginning : Stmt := inClass (top 7) 7
theorem sc_Plan_next_beginning : FnScope ["self", "moment", "which"] ["self", "moment"] (defScope s_Plan_next_beginning) := ⟨rfl, rfl, rfl, by decide +kernel, rfl, by decide +kernel, by decide +kernel⟩
theorem ok_Plan_next_beginning (F : Fun K "next_beginning" "Plan.next_beginning" s_Plan_next_beginning f fd) (T : TxP K mg C) (D : DPlan P w K mg base C) (d_Plan_latest_time : DM P w K mg base C "latest_time" 2 ["self", "moment"] (spLatest C)) : FnOk P w K mg base CX0 3 f fd ["self", "moment"] (spNextB C) := by
  have d_Plan_has_time := D.has_time
  have d_Plan_has_given_up := D.has_given_up
  have d_Plan_beginning := D.beginning
  refine F.ok sc_Plan_next_beginning (fun vs H Q E h => ?_) (fun cdv A outer s H vs Q E hr h => ?_)
  · obtain ⟨_, _, _, _, rfl, _⟩ := h
    rfl
  · obtain ⟨a, g, p, u, rfl, P1, ok, q⟩ := h
    obtain ⟨⟨dx, h1⟩, h2⟩ := id P1
    refine ⟨_, (pss_cons (ps_set (i := 2) sc_Plan_next_beginning.nd rfl (Or.inl rfl) (pe_callB (call_max2 rfl) (by rfl) T.b_max (by decide +kernel) (pa_cons pe_int (pa_cons (pe_op op_add (md_of (pe_meth (pv 0) d_Plan_latest_time.cl d_Plan_latest_time.h d_Plan_latest_time.F (hr.mono (by decide)) d_Plan_latest_time.b .nil pass0 (pa_cons (pe_op op_sub (pv 1) pe_int) pa_nil))) pe_int) pa_nil))))
      (pss_cons (ps_while PassesOwn.never (pt_val (md_of (pe_meth (pv 0) d_Plan_has_given_up.cl d_Plan_has_given_up.h d_Plan_has_given_up.F (hr.mono (by decide)) d_Plan_has_given_up.b .nil pass0 (pa_cons (pv 2) pa_nil))))
        (pss_one (ps_aug (i := 2) sc_Plan_next_beginning.nd rfl (Or.inl rfl) pe_int ip_add)))
      (pss_cons (ps_if (pt_not (pt_val (md_of (pe_meth (pv 0) d_Plan_has_time.cl d_Plan_has_time.h d_Plan_has_time.F (hr.mono (by decide)) d_Plan_has_time.b .nil pass0 (pa_cons (pv 2) pa_nil)))))
        (pss_one (ps_ret pe_non))
        pss_nil)
      (pss_one (ps_ret (md_of (pe_meth (pv 0) d_Plan_beginning.cl d_Plan_beginning.h d_Plan_beginning.F (hr.mono (by decide)) d_Plan_beginning.b .nil pass0 (pa_cons (pv 2) pa_nil)))))))), ?_⟩
    refine ⟨_, rfl, a, dx, _, rfl, h1, pF_no p g no_latest_time, _, rfl, _, _, rfl, rfl, a, g, p, (u : Int) - 1, rfl, P1, ok, _, _, rfl, rfl, _, _, rfl, ?_⟩
    have eF : (if RM.lat p ((u : Int) - 1) + 1 > 0 then RM.lat p ((u : Int) - 1) + 1 else 0) = (RM.firstK p u : Int) := by rw [RM.firstK_int]; split <;> omega
    rw [eF]
    refine while_on (fun σ H' => H' = H ∧ ∃ x : Nat, σ = [some (.ref a), some (.int u), some (.int x)] ∧ RM.firstK p u ≤ x ∧ ∀ j, RM.firstK p u ≤ j → j < x → j ∈ p.skipped) (fun σ => match σ with
      | [_, _, some (.int x)] => (p.skipped.filter fun k => decide (x.toNat ≤ k)).length
      | _ => 0) ⟨rfl, RM.firstK p u, rfl, Nat.le_refl _, fun j h1 h2 => absurd h2 (by omega)⟩ ?_
    rintro σ H' ⟨rfl, x, rfl, hx, hs⟩
    refine ⟨_, rfl, a, dx, _, rfl, h1, pF_no p g no_has_given_up, _, rfl, a, g, p, x, rfl, P1, _, rfl, if_b (fun c => ?_) fun c => ?_⟩
    · have m : x ∈ p.skipped := by simpa using c
      refine ⟨fun σ' H'' => H'' = H' ∧ σ' = [some (.ref a), some (.int u), some (.int ((x + 1 : Nat) : Int))], fun σ' H'' ⟨e1, e2⟩ => ?_, ?_⟩
      · subst e1 e2
        refine ⟨_, ?_, rfl, rfl, x + 1, rfl, by omega, fun j a1 a2 => ?_⟩
        · exact RM.filt_step p.skipped m
        · by_cases z : j = x
          · rw [z]; exact m
          · exact hs j a1 (by omega)
      · exact ⟨_, rfl, _, _, rfl, rfl, rfl, rfl⟩
    · have hw : x ∉ p.skipped := by simpa using c
      refine ⟨_, rfl, a, dx, _, rfl, h1, pF_no p g no_has_time, _, rfl, a, g, p, x, rfl, P1, _, rfl, if_b (fun z => ?_) fun z => ?_⟩
      · refine ret_eq q ?_
        rw [RM.next_none hs fun r => ?_]
        · rfl
        · rw [(RM.hasT_iff ok).mpr r] at z
          cases z
      · have hr := (RM.hasT_iff ok).mp (show RM.hasT p x = true by simpa using z)
        refine ⟨_, rfl, a, dx, _, rfl, h1, pF_no p g no_beginning, _, rfl, a, g, p, x, rfl, P1, ok.days, ?_⟩
        refine ret_eq q ?_
        rw [RM.next_some hx hs hr hw]
        rfl
/-! ### minutes_had -/
abbrev s_Plan_minutes_had : Stmt := inClass (top 7) 8
theorem sc_Plan_minutes_had : FnScope ["self", "moment", "until", "which", "had", "begin", "behind"] ["self", "moment", "until"] (defScope s_Plan_minutes_had) := ⟨rfl, rfl, rfl, by decide +kernel, rfl, by decide +kernel, by decide +kernel⟩
theorem ok_Plan_minutes_had (F : Fun K "minutes_had" "Plan.minutes_had" s_Plan_minutes_had f fd) (T : TxP K mg C) (D : DPlan P w K mg base C) (d_Plan_latest_time : DM P w K mg base C "latest_time" 2 ["self", "moment"] (spLatest C)) : FnOk P w K mg base CX0 3 f fd ["self", "moment", "until"] (spMinutes C) := by
  have d_Plan_has_time := D.has_time
  have d_Plan_has_given_up := D.has_given_up
  have d_Plan_beginning := D.beginning
  refine F.ok sc_Plan_minutes_had (fun vs H Q E h => ?_) (fun cdv A outer s H vs Q E hr h => ?_)
  · obtain ⟨_, _, _, _, _, rfl, _⟩ := h
    rfl
  · obtain ⟨a, g, p, u, t, rfl, P1, ok, q⟩ := h
    obtain ⟨⟨dx, h1⟩, h2⟩ := id P1
    refine ⟨_, (pss_cons (ps_set (i := 3) sc_Plan_minutes_had.nd rfl (Or.inl rfl) (pe_callB (call_max2 rfl) (by rfl) T.b_max (by decide +kernel) (pa_cons pe_int (pa_cons (md_of (pe_meth (pv 0) d_Plan_latest_time.cl d_Plan_latest_time.h d_Plan_latest_time.F (hr.mono (by decide)) d_Plan_latest_time.b .nil pass0 (pa_cons (pv 1) pa_nil))) pa_nil))))
      (pss_cons (ps_set (i := 4) sc_Plan_minutes_had.nd rfl (Or.inl rfl) pe_int)
      (pss_cons (ps_while PassesOwn.never (PW.pt (pw_and (pt_val (md_of (pe_meth (pv 0) d_Plan_has_time.cl d_Plan_has_time.h d_Plan_has_time.F (hr.mono (by decide)) d_Plan_has_time.b .nil pass0 (pa_cons (pv 3) pa_nil)))) (pw_and1 (pt_cmpR op_lt (md_of (pe_meth (pv 0) d_Plan_beginning.cl d_Plan_beginning.h d_Plan_beginning.F (hr.mono (by decide)) d_Plan_beginning.b .nil pass0 (pa_cons (pv 3) pa_nil))) (pv 2) (nomark _)))))
        (pss_cons (ps_if (pt_not (pt_val (md_of (pe_meth (pv 0) d_Plan_has_given_up.cl d_Plan_has_given_up.h d_Plan_has_given_up.F (hr.mono (by decide)) d_Plan_has_given_up.b .nil pass0 (pa_cons (pv 3) pa_nil)))))
          (pss_cons (ps_set (i := 5) sc_Plan_minutes_had.nd rfl (Or.inl rfl) (pe_callB (call_max2 rfl) (by rfl) T.b_max (by decide +kernel) (pa_cons (md_of (pe_meth (pv 0) d_Plan_beginning.cl d_Plan_beginning.h d_Plan_beginning.F (hr.mono (by decide)) d_Plan_beginning.b .nil pass0 (pa_cons (pv 3) pa_nil))) (pa_cons (pv 1) pa_nil))))
          (pss_cons (ps_set (i := 6) sc_Plan_minutes_had.nd rfl (Or.inl rfl) (pe_callB (call_min2 rfl) (by rfl) T.b_min (by decide +kernel) (pa_cons (pe_op op_add (md_of (pe_meth (pv 0) d_Plan_beginning.cl d_Plan_beginning.h d_Plan_beginning.F (hr.mono (by decide)) d_Plan_beginning.b .nil pass0 (pa_cons (pv 3) pa_nil))) (pe_fld (pv 0) rfl)) (pa_cons (pv 2) pa_nil))))
          (pss_one (ps_aug (i := 4) sc_Plan_minutes_had.nd rfl (Or.inl rfl) (pe_callB (call_max2 rfl) (by rfl) T.b_max (by decide +kernel) (pa_cons pe_int (pa_cons (pe_op op_sub (pv 6) (pv 5)) pa_nil))) ip_add))))
          pss_nil)
        (pss_one (ps_aug (i := 3) sc_Plan_minutes_had.nd rfl (Or.inl rfl) pe_int ip_add))))
      (pss_one (ps_ret (pv 4)))))), ?_⟩
    refine ⟨_, rfl, a, dx, _, rfl, h1, pF_no p g no_latest_time, _, rfl, a, g, p, (u : Int), rfl, P1, ok, _, _, rfl, ?_⟩
    have eF : (if RM.lat p (u : Int) > 0 then RM.lat p (u : Int) else 0) = (RM.firstU p u : Int) := by rw [RM.firstU_int]; split <;> omega
    rw [eF]
    refine while_on (fun σ H' => H' = H ∧ ∃ (x n : Nat) (v5 v6 : Option V), σ = [some (.ref a), some (.int u), some (.int t), some (.int x), some (.int n), v5, v6] ∧ n = RM.sumTo (RM.usedK p u t) x) (fun σ => match σ with
      | [_, _, _, some (.int x), _, _, _] => t - x.toNat
      | _ => 0) ⟨rfl, RM.firstU p u, 0, none, none, rfl, (RM.used_start ok u t).symm⟩ ?_
    rintro σ H' ⟨rfl, x, n, v5, v6, rfl, hn⟩
    refine ⟨_, rfl, a, dx, _, rfl, h1, pF_no p g no_has_time, _, rfl, a, g, p, x, rfl, P1, _, rfl, if_b (fun c1 => ?_) fun c1 => ?_⟩
    · refine ⟨_, rfl, a, dx, _, rfl, h1, pF_no p g no_beginning, _, rfl, a, g, p, x, rfl, P1, ok.days, _, rfl, _, _, rfl, rfl, _, rfl, if_b (fun c2 => ?_) fun c2 => ?_⟩
      · have hb : Cl05.timeOf p x < t := by have := of_decide_eq_true c2; omega
        have hlt := RM.used_lt ok c1 hb
        refine ⟨fun σ' H'' => H'' = H' ∧ ∃ v5 v6, σ' = [some (.ref a), some (.int u), some (.int t), some (.int ((x + 1 : Nat) : Int)), some (.int ((n + RM.usedK p u t x : Nat) : Int)), v5, v6], fun σ' H'' ⟨e1, v5', v6', e2⟩ => ?_, ?_⟩
        · subst e1 e2
          refine ⟨_, ?_, rfl, rfl, x + 1, _, v5', v6', rfl, ?_⟩
          · show t - ((x + 1 : Nat) : Int).toNat < t - (x : Int).toNat
            omega
          · rw [hn]; rfl
        · refine ⟨_, rfl, a, dx, _, rfl, h1, pF_no p g no_has_given_up, _, rfl, a, g, p, x, rfl, P1, _, rfl, if_b (fun c3 => ?_) fun c3 => ?_⟩
          · have m : x ∉ p.skipped := by simpa using c3
            refine ⟨_, rfl, a, dx, _, rfl, h1, pF_no p g no_beginning, _, rfl, a, g, p, x, rfl, P1, ok.days, _, rfl, _, _, rfl, ?_⟩
            refine ⟨_, rfl, a, dx, _, rfl, h1, pF_no p g no_beginning, _, rfl, a, g, p, x, rfl, P1, ok.days, _, rfl, a, C, dx, _, _, rfl, h1, T.cl, T.nL, pF_length p g, _, _, rfl, rfl, _, rfl, _, _, rfl, ?_⟩
            refine ⟨_, rfl, _, rfl, _, rfl, _, _, rfl, rfl, _, _, rfl, _, _, rfl, rfl, ?_⟩
            have eU := RM.used_not ok (a := u) (b := t) c1 m
            have eV : (n : Int) + (if (if (t : Int) < (Cl05.timeOf p x : Int) + (p.long : Int) then (t : Int) else (Cl05.timeOf p x : Int) + (p.long : Int)) - (if (u : Int) > (Cl05.timeOf p x : Int) then (u : Int) else (Cl05.timeOf p x : Int)) > 0 then
                (if (t : Int) < (Cl05.timeOf p x : Int) + (p.long : Int) then (t : Int) else (Cl05.timeOf p x : Int) + (p.long : Int)) - (if (u : Int) > (Cl05.timeOf p x : Int) then (u : Int) else (Cl05.timeOf p x : Int)) else 0) = ((n + RM.usedK p u t x : Nat) : Int) := by
              rw [eU]
              split <;> split <;> split <;> omega
            refine ⟨_, rfl, _, _, rfl, rfl, rfl, some (.int (if (u : Int) > (Cl05.timeOf p x : Int) then (u : Int) else (Cl05.timeOf p x : Int))), some (.int (if (t : Int) < (Cl05.timeOf p x : Int) + (p.long : Int) then (t : Int) else (Cl05.timeOf p x : Int) + (p.long : Int))), ?_⟩
            rw [← eV]
            rfl
          · have m : x ∈ p.skipped := by simpa using c3
            have eU := RM.used_skip (a := u) (b := t) m
            refine ⟨_, rfl, _, _, rfl, rfl, rfl, v5, v6, ?_⟩
            rw [eU]
            rfl
      · refine ⟨_, rfl, ret_eq q (congrArg V.int ?_)⟩
        have := of_decide_eq_false c2
        rw [RM.used_end ok (a := u) (w := x) (fun z => by have := z.2; omega), ← hn]
    · refine ⟨_, rfl, ret_eq q (congrArg V.int ?_)⟩
      rw [RM.used_end ok (a := u) (w := x) (fun z => by rw [z.1] at c1; cases c1), ← hn]
structure DPlan2 (P : Program) (w : World) (K : PySem.W.Frag) (mg : Str → Option Value) (base : Heap) (C : Addr) : Prop where
  has_moment : DM P w K mg base C "has_moment" 3 ["self", "moment"] (spHasMoment C)
  next_beginning : DM P w K mg base C "next_beginning" 3 ["self", "moment"] (spNextB C)
  minutes_had : DM P w K mg base C "minutes_had" 3 ["self", "moment", "until"] (spMinutes C)
end
end R
end

section
set_option maxRecDepth 100000
set_option maxHeartbeats 4000000
namespace R
open PySem PySem.Spec PyProof.Rows L2
/-! ### what is booked or waits, as it lies in memory -/
structure Ent where
  id : Nat
  who : Nat
  room : Nat
  plan : Cl05.Plan
  waits : Bool
  ba : Addr
  pa : Addr
  ga : Addr
def bF (e : Ent) : List (Str × V) := [("number", .int e.id), ("whom", .int e.who), ("room", .int e.room), ("plan", .ref e.pa), ("waits", .bl e.waits)]
theorem bF_number (e : Ent) : (bF e).lookup ("number" : Str) = some (.int e.id) := lk_here
theorem bF_whom (e : Ent) : (bF e).lookup ("whom" : Str) = some (.int e.who) := (lk_past (by decide +kernel)).trans lk_here
theorem bF_room (e : Ent) : (bF e).lookup ("room" : Str) = some (.int e.room) := (lk_past (by decide +kernel)).trans ((lk_past (by decide +kernel)).trans lk_here)
theorem bF_plan (e : Ent) : (bF e).lookup ("plan" : Str) = some (.ref e.pa) := (lk_past (by decide +kernel)).trans ((lk_past (by decide +kernel)).trans ((lk_past (by decide +kernel)).trans lk_here))
theorem bF_waits (e : Ent) : (bF e).lookup ("waits" : Str) = some (.bl e.waits) := (lk_past (by decide +kernel)).trans ((lk_past (by decide +kernel)).trans ((lk_past (by decide +kernel)).trans ((lk_past (by decide +kernel)).trans lk_here)))
theorem bF_free (e : Ent) (b : Bool) : putF "waits" (.bl b) (bF e) = bF { e with waits := b } := by
  unfold bF
  rw [put_past (by decide +kernel), put_past (by decide +kernel), put_past (by decide +kernel), put_past (by decide +kernel), put_here]
structure EntAt (CB CP : Addr) (H : Hp) (e : Ent) : Prop where
  ob : ∃ dx, H e.ba = some (.ins CB dx (bF e))
  pl : PlanAt CP H e.pa e.ga e.plan
theorem EntAt.same {CB CP : Addr} {H H' : Hp} {e : Ent} (h : EntAt CB CP H e) (s : Same H H') : EntAt CB CP H' e := by
  obtain ⟨⟨dx, h1⟩, h2⟩ := h
  exact ⟨⟨dx, s _ _ h1⟩, h2.same s⟩
def kvs (es : List Ent) : List (Key × V) := es.map fun e => (Sum.inl (e.id : Int), V.ref e.ba)
def hF (sl dl : Addr) (came : Nat) : List (Str × V) := [("seats", .ref sl), ("held", .ref dl), ("came", .int came)]
theorem hF_seats (sl dl : Addr) (n : Nat) : (hF sl dl n).lookup ("seats" : Str) = some (.ref sl) := lk_here
theorem hF_held (sl dl : Addr) (n : Nat) : (hF sl dl n).lookup ("held" : Str) = some (.ref dl) := (lk_past (by decide +kernel)).trans lk_here
theorem hF_came (sl dl : Addr) (n : Nat) : (hF sl dl n).lookup ("came" : Str) = some (.int n) := (lk_past (by decide +kernel)).trans ((lk_past (by decide +kernel)).trans lk_here)
theorem hF_no (sl dl : Addr) (n : Nat) {m : Str} (h : (["seats", "held", "came"] : List Str).all (fun x => !(m == x)) = true) : (hF sl dl n).lookup m = none := by
  simp only [List.all_cons, List.all_nil, Bool.and_true, Bool.and_eq_true, Bool.not_eq_true'] at h
  obtain ⟨h1, h2, h3⟩ := h
  unfold hF
  rw [lk_past h1, lk_past h2, lk_past h3]
  rfl
/-- the house at h: its list of seats at sl, its dict at dl (fz: as it stands, or locked) -/
structure HouseAt (CH CB CP : Addr) (fz : HO → HO) (H : Hp) (h sl dl : Addr) (rooms : List Nat) (es : List Ent) (came : Nat) : Prop where
  ob : ∃ dx, H h = some (.ins CH dx (hF sl dl came))
  seats : H sl = some (.lst (gV rooms))
  held : H dl = some (fz (.dK (kvs es)))
  ents : ∀ e ∈ es, EntAt CB CP H e
theorem HouseAt.same {CH CB CP : Addr} {fz : HO → HO} {H H' : Hp} {h sl dl : Addr} {rooms : List Nat} {es : List Ent} {came : Nat} (a : HouseAt CH CB CP fz H h sl dl rooms es came) (s : Same H H') : HouseAt CH CB CP fz H' h sl dl rooms es came := by
  obtain ⟨⟨dx, h1⟩, h2, h3, h4⟩ := a
  exact ⟨⟨dx, s _ _ h1⟩, s _ _ h2, s _ _ h3, fun e he => (h4 e he).same s⟩
structure TxH (K : PySem.W.Frag) (mg : Str → Option Value) (CH CB : Addr) : Prop where
  clB : Cls K CB
  nBn : NoAttr K CB "number"
  nBw : NoAttr K CB "whom"
  nBr : NoAttr K CB "room"
  nBp : NoAttr K CB "plan"
  nBa : NoAttr K CB "waits"
  clH : Cls K CH
  nS : NoAttr K CH "seats"
  nH : NoAttr K CH "held"
  nC : NoAttr K CH "came"
  g_MOST_ROOMS : GI mg "MOST_ROOMS" (.int 5)
  g_MOST_HELD : GI mg "MOST_HELD" (.int 24)
  b_len : mg "len" = none
  b_range : mg "range" = none
  b_sorted : mg "sorted" = none
  b_min : mg "min" = none
  b_sum : mg "sum" = none
/-! ### what meets -/
def clashE (es : List Ent) (r : Nat) (p : Cl05.Plan) : List (Nat × Nat) := es.filterMap fun e => if e.room = r ∧ e.waits = false then (Cl05.meets p e.plan).map fun u => (u, e.id) else none
theorem take_next {α : Type} {l : List α} {i : Nat} {x : α} (h : l[i]? = some x) : l.take (i + 1) = l.take i ++ [x] := by
  rw [List.take_add_one, h]
  rfl
theorem clashE_next {es : List Ent} {i : Nat} {e : Ent} (h : es[i]? = some e) (r : Nat) (p : Cl05.Plan) : clashE (es.take (i + 1)) r p = clashE (es.take i) r p ++ (if e.room = r ∧ e.waits = false then (Cl05.meets p e.plan).map fun u => (u, e.id) else none).toList := by
  unfold clashE
  rw [take_next h, List.filterMap_append]
  congr 1
section
variable {P : Program} {w : World} {K : PySem.W.Frag} {mg : Str → Option Value} {base : Heap} {CH CB CP f : Addr} {fd : FuncData}
def spBInit (CB : Addr) : Sp := fun vs H Q _ => ∃ (a dx pa : Addr) (n wh r : Nat) (b : Bool), vs = [.ref a, .int n, .int wh, .int r, .ref pa, .bl b] ∧ H a = some (.ins CB dx []) ∧
  Q .non (upd H a (.ins CB dx [("number", .int n), ("whom", .int wh), ("room", .int r), ("plan", .ref pa), ("waits", .bl b)]))
abbrev s_Booking___init__ : Stmt := inClass (top 17) 0
theorem sc_Booking___init__ : FnScope ["self", "number", "whom", "room", "plan", "waits"] ["self", "number", "whom", "room", "plan", "waits"] (defScope s_Booking___init__) := ⟨rfl, rfl, rfl, by decide +kernel, rfl, by decide +kernel, by decide +kernel⟩
theorem ok_Booking___init__ (F : Fun K "__init__" "Booking.__init__" s_Booking___init__ f fd) (T : TxH K mg CH CB) : FnOk P w K mg base CX0 1 f fd ["self", "number", "whom", "room", "plan", "waits"] (spBInit CB) := by
  refine F.ok sc_Booking___init__ (fun vs H Q E h => ?_) (fun cdv A outer s H vs Q E hr h => ?_)
  · obtain ⟨_, _, _, _, _, _, _, rfl, _⟩ := h
    rfl
  · obtain ⟨a, dx, pa, n, wh, r, b, rfl, hp, k⟩ := h
    refine ⟨_, (pss_cons (ps_fld (pv 0) (pv 1) rfl)
      (pss_cons (ps_fld (pv 0) (pv 2) rfl)
      (pss_cons (ps_fld (pv 0) (pv 3) rfl)
      (pss_cons (ps_fld (pv 0) (pv 4) rfl)
      (pss_one (ps_fld (pv 0) (pv 5) rfl)))))), ?_⟩
    refine ⟨_, rfl, _, rfl, a, CB, dx, [], rfl, hp, T.clB, T.nBn, (by show 0 < 1000; decide), ?_⟩
    refine ⟨_, rfl, _, rfl, a, CB, dx, _, rfl, upd_same, T.clB, T.nBw, (by show 1 < 1000; decide), ?_⟩
    refine ⟨_, rfl, _, rfl, a, CB, dx, _, rfl, upd_same, T.clB, T.nBr, (by show 2 < 1000; decide), ?_⟩
    refine ⟨_, rfl, _, rfl, a, CB, dx, _, rfl, upd_same, T.clB, T.nBp, (by show 3 < 1000; decide), ?_⟩
    refine ⟨_, rfl, _, rfl, a, CB, dx, _, rfl, upd_same, T.clB, T.nBa, (by show 4 < 1000; decide), ?_⟩
    dsimp only
    rw [upd_upd, upd_upd, upd_upd, upd_upd]
    have e1 : ∀ (g : Str) (v : V), putF g v [] = [(g, v)] := fun g v => rfl
    rw [e1, put_past (by decide +kernel), e1]
    repeat rw [put_past (by decide +kernel)]
    exact k
def spHInit (CH : Addr) : Sp := fun vs H Q _ => ∃ (a dx : Addr), vs = [.ref a] ∧ H a = some (.ins CH dx []) ∧
  ∀ (sl dl : Addr) (H' : Hp), H sl = none → H dl = none → sl ≠ dl → H' a = some (.ins CH dx (hF sl dl 0)) → H' sl = some (.lst []) → H' dl = some (.dK []) → (∀ b o, H b = some o → b ≠ a → H' b = some o) → Q .non H'
abbrev s_House___init__ : Stmt := inClass (top 18) 0
theorem sc_House___init__ : FnScope ["self"] ["self"] (defScope s_House___init__) := ⟨rfl, rfl, rfl, by decide +kernel, rfl, by decide +kernel, by decide +kernel⟩
theorem ok_House___init__ (F : Fun K "__init__" "House.__init__" s_House___init__ f fd) (T : TxH K mg CH CB) : FnOk P w K mg base CX0 1 f fd ["self"] (spHInit CH) := by
  refine F.ok sc_House___init__ (fun vs H Q E h => ?_) (fun cdv A outer s H vs Q E hr h => ?_)
  · obtain ⟨_, _, rfl, _⟩ := h
    rfl
  · obtain ⟨a, dx, rfl, hp, k⟩ := h
    refine ⟨_, (pss_cons (ps_fld (pv 0) (pe_lst pa_nil) rfl)
      (pss_cons (ps_fld (pv 0) pe_dnewK rfl)
      (pss_one (ps_fld (pv 0) pe_int rfl)))), ?_⟩
    refine ⟨(by show 0 ≤ sizeLine; decide), fun sl hsl => ?_⟩
    have n1 : a ≠ sl := ne_of_none hp hsl
    refine ⟨_, rfl, a, CH, dx, [], rfl, (by rw [upd_ne n1]; exact hp), T.clH, T.nS, (by show 0 < 1000; decide), ?_⟩
    intro dl hdl
    have n2 : a ≠ dl := ne_of_none upd_same hdl
    have n3 : sl ≠ dl := fun z => by rw [← z, upd_ne n1.symm, upd_same] at hdl; cases hdl
    have hd0 : H dl = none := by rw [upd_ne n2.symm, upd_ne n3.symm] at hdl; exact hdl
    refine ⟨_, rfl, a, CH, dx, _, rfl, (by rw [upd_ne n2]; exact upd_same), T.clH, T.nH, (by show 1 < 1000; decide), ?_⟩
    refine ⟨_, rfl, a, CH, dx, _, rfl, upd_same, T.clH, T.nC, (by show 2 < 1000; decide), ?_⟩
    refine k sl dl _ hsl hd0 n3 (Eq.trans upd_same (congrArg (fun q => some (HO.ins CH dx q)) ?_)) ?_ ?_ ?_
    · have e1 : ∀ (g : Str) (v : V), putF g v [] = [(g, v)] := fun g v => rfl
      rw [e1, put_past (by decide +kernel), e1]
      repeat rw [put_past (by decide +kernel)]
      rfl
    · rw [upd_ne n1.symm, upd_ne n1.symm, upd_ne n3, upd_ne n1.symm, upd_same]
    · rw [upd_ne n2.symm, upd_ne n2.symm, upd_same]
    · intro b o e hb
      rw [upd_ne hb, upd_ne hb, upd_ne (ne_of_none e hd0), upd_ne hb, upd_ne (ne_of_none e hsl)]
      exact e
/-! ### the small methods -/
def spHasRoom (CH CB CP : Addr) : Sp := fun vs H Q _ => ∃ (h sl dl : Addr) (rooms : List Nat) (es : List Ent) (c r : Nat), vs = [.ref h, .int r] ∧ HouseAt CH CB CP id H h sl dl rooms es c ∧ Q (.bl (decide (r < rooms.length))) H
abbrev s_House_has_room : Stmt := inClass (top 18) 1
theorem sc_House_has_room : FnScope ["self", "room"] ["self", "room"] (defScope s_House_has_room) := ⟨rfl, rfl, rfl, by decide +kernel, rfl, by decide +kernel, by decide +kernel⟩
theorem ok_House_has_room (F : Fun K "has_room" "House.has_room" s_House_has_room f fd) (T : TxH K mg CH CB) : FnOk P w K mg base CX0 1 f fd ["self", "room"] (spHasRoom CH CB CP) := by
  refine F.ok sc_House_has_room (fun vs H Q E h => ?_) (fun cdv A outer s H vs Q E hr h => ?_)
  · obtain ⟨_, _, _, _, _, _, _, rfl, _⟩ := h
    rfl
  · obtain ⟨h, sl, dl, rooms, es, c, r, rfl, ⟨⟨dx, h1⟩, h2, h3, h4⟩, q⟩ := h
    refine ⟨_, (pss_one (ps_ret (pe_cmpR op_lt (pv 1) (pe_callB call_len_seq (by rfl) T.b_len PySem.boot_len (pa_cons (pe_fld (pv 0) rfl) pa_nil)) (nomark _)))), ?_⟩
    refine ⟨_, rfl, _, rfl, h, CH, dx, _, _, rfl, h1, T.clH, T.nS, hF_seats _ _ _, sl, _, rfl, .inl (SqL.of h2), _, _, rfl, rfl, ?_⟩
    refine ret_eq q (congrArg V.bl ?_)
    rw [Bool.eq_iff_iff, decide_eq_true_eq, decide_eq_true_eq, show (gV rooms).length = rooms.length from List.length_map _]
    omega
def spAllRooms (CH CB CP : Addr) : Sp := fun vs H Q _ => ∃ (h sl dl : Addr) (rooms : List Nat) (es : List Ent) (c : Nat), vs = [.ref h] ∧ HouseAt CH CB CP id H h sl dl rooms es c ∧ Q (.bl (decide (5 ≤ rooms.length))) H
abbrev s_House_has_all_rooms : Stmt := inClass (top 18) 2
theorem sc_House_has_all_rooms : FnScope ["self"] ["self"] (defScope s_House_has_all_rooms) := ⟨rfl, rfl, rfl, by decide +kernel, rfl, by decide +kernel, by decide +kernel⟩
theorem ok_House_has_all_rooms (F : Fun K "has_all_rooms" "House.has_all_rooms" s_House_has_all_rooms f fd) (T : TxH K mg CH CB) : FnOk P w K mg base CX0 1 f fd ["self"] (spAllRooms CH CB CP) := by
  refine F.ok sc_House_has_all_rooms (fun vs H Q E h => ?_) (fun cdv A outer s H vs Q E hr h => ?_)
  · obtain ⟨_, _, _, _, _, _, rfl, _⟩ := h
    rfl
  · obtain ⟨h, sl, dl, rooms, es, c, rfl, ⟨⟨dx, h1⟩, h2, h3, h4⟩, q⟩ := h
    refine ⟨_, (pss_one (ps_ret (pe_cmpR op_ge (pe_callB call_len_seq (by rfl) T.b_len PySem.boot_len (pa_cons (pe_fld (pv 0) rfl) pa_nil)) (pe_gi T.g_MOST_ROOMS) (nomark _)))), ?_⟩
    refine ⟨_, rfl, h, CH, dx, _, _, rfl, h1, T.clH, T.nS, hF_seats _ _ _, sl, _, rfl, .inl (SqL.of h2), _, _, rfl, rfl, ?_⟩
    refine ret_eq q (congrArg V.bl ?_)
    rw [Bool.eq_iff_iff, decide_eq_true_eq, decide_eq_true_eq, show (gV rooms).length = rooms.length from List.length_map _]
    omega
def spIsFull (CH CB CP : Addr) : Sp := fun vs H Q _ => ∃ (h sl dl : Addr) (rooms : List Nat) (es : List Ent) (c : Nat), vs = [.ref h] ∧ HouseAt CH CB CP id H h sl dl rooms es c ∧ Q (.bl (decide (24 ≤ es.length))) H
abbrev s_House_is_full : Stmt := inClass (top 18) 5
theorem sc_House_is_full : FnScope ["self"] ["self"] (defScope s_House_is_full) := ⟨rfl, rfl, rfl, by decide +kernel, rfl, by decide +kernel, by decide +kernel⟩
theorem ok_House_is_full (F : Fun K "is_full" "House.is_full" s_House_is_full f fd) (T : TxH K mg CH CB) : FnOk P w K mg base CX0 1 f fd ["self"] (spIsFull CH CB CP) := by
  refine F.ok sc_House_is_full (fun vs H Q E h => ?_) (fun cdv A outer s H vs Q E hr h => ?_)
  · obtain ⟨_, _, _, _, _, _, rfl, _⟩ := h
    rfl
  · obtain ⟨h, sl, dl, rooms, es, c, rfl, ⟨⟨dx, h1⟩, h2, h3, h4⟩, q⟩ := h
    refine ⟨_, (pss_one (ps_ret (pe_cmpR op_ge (pe_callB call_lenD (by rfl) T.b_len PySem.boot_len (pa_cons (pe_fld (pv 0) rfl) pa_nil)) (pe_gi T.g_MOST_HELD) (nomark _)))), ?_⟩
    refine ⟨_, rfl, h, CH, dx, _, _, rfl, h1, T.clH, T.nH, hF_held _ _ _, dl, _, rfl, h3, _, _, rfl, rfl, ?_⟩
    refine ret_eq q (congrArg V.bl ?_)
    rw [Bool.eq_iff_iff, decide_eq_true_eq, decide_eq_true_eq, show (kvs es).length = es.length from List.length_map _]
    omega
theorem gV_snoc (l : List Nat) (n : Nat) : gV l ++ [V.int n] = gV (l ++ [n]) := by unfold gV; rw [List.map_append]; rfl
/-- the house stands as it stood, where only other objects were changed or laid -/
def spAddRoom (CH CB CP : Addr) : Sp := fun vs H Q _ => ∃ (h sl dl : Addr) (rooms : List Nat) (es : List Ent) (c n : Nat), vs = [.ref h, .int n] ∧ HouseAt CH CB CP id H h sl dl rooms es c ∧ rooms.length ≤ 100 ∧
  Q (.int rooms.length) (upd H sl (.lst (gV (rooms ++ [n]))))
abbrev s_House_add_room : Stmt := inClass (top 18) 3
theorem sc_House_add_room : FnScope ["self", "seats"] ["self", "seats"] (defScope s_House_add_room) := ⟨rfl, rfl, rfl, by decide +kernel, rfl, by decide +kernel, by decide +kernel⟩
theorem ok_House_add_room (F : Fun K "add_room" "House.add_room" s_House_add_room f fd) (T : TxH K mg CH CB) : FnOk P w K mg base CX0 1 f fd ["self", "seats"] (spAddRoom CH CB CP) := by
  refine F.ok sc_House_add_room (fun vs H Q E h => ?_) (fun cdv A outer s H vs Q E hr h => ?_)
  · obtain ⟨_, _, _, _, _, _, _, rfl, _⟩ := h
    rfl
  · obtain ⟨h, sl, dl, rooms, es, c, n, rfl, ⟨⟨dx, h1⟩, h2, h3, h4⟩, hl, q⟩ := h
    have nh : h ≠ sl := ne_of h1 h2 (by intro z; cases z)
    refine ⟨_, (pss_cons (ps_expr (pe_bm PySem.F.plainAttrs_list PySem.F.slot_list_append PySem.F.type_list_append mt_append (pe_fld (pv 0) rfl) (pa_cons (pv 1) pa_nil)))
      (pss_one (ps_ret (pe_op op_sub (pe_callB call_len_seq (by rfl) T.b_len PySem.boot_len (pa_cons (pe_fld (pv 0) rfl) pa_nil)) pe_int)))), ?_⟩
    refine ⟨_, rfl, h, CH, dx, _, _, rfl, h1, T.clH, T.nS, hF_seats _ _ _, .inl ⟨rfl, _, SqL.of h2⟩, _, rfl, sl, _, _, rfl, rfl, h2, small1000 (by rw [show (gV rooms).length = rooms.length from List.length_map _]; omega), ?_⟩
    rw [gV_snoc]
    refine ⟨_, rfl, h, CH, dx, _, _, rfl, (by rw [upd_ne nh]; exact h1), T.clH, T.nS, hF_seats _ _ _, sl, _, rfl, .inl (SqL.of upd_same), _, _, rfl, rfl, ?_⟩
    refine ret_eq q (congrArg V.int ?_)
    rw [show (gV (rooms ++ [n])).length = rooms.length + 1 by unfold gV; rw [List.length_map, List.length_append]; rfl]
    omega
/-! ### find_booked -/
theorem valV_kvs (n : Nat) : ∀ es : List Ent, valV (kvs es) (Sum.inl (n : Int) : Key) = (es.find? fun e => e.id == n).map fun e => V.ref e.ba
  | [] => rfl
  | e :: es => by
    by_cases h : e.id = n
    · show valV ((Sum.inl (e.id : Int), V.ref e.ba) :: kvs es) _ = _
      rw [valV_pos (by rw [h]), List.find?_cons_of_pos (by simp [h])]
      rfl
    · show valV ((Sum.inl (e.id : Int), V.ref e.ba) :: kvs es) _ = _
      rw [valV_neg (fun z => h (by have := Sum.inl.inj z; omega)), List.find?_cons_of_neg (by simp [h])]
      exact valV_kvs n es
def spFind (CH CB CP : Addr) : Sp := fun vs H Q _ => ∃ (h sl dl : Addr) (rooms : List Nat) (es : List Ent) (c n : Nat), vs = [.ref h, .int n] ∧ HouseAt CH CB CP id H h sl dl rooms es c ∧
  ((∀ e, es.find? (fun e => e.id == n) = some e → e.waits = true) → Q .non H) ∧ (∀ e, es.find? (fun e => e.id == n) = some e → e.waits = false → Q (.ref e.ba) H)
abbrev s_House_find_booked : Stmt := inClass (top 18) 6
theorem sc_House_find_booked : FnScope ["self", "number", "booking"] ["self", "number"] (defScope s_House_find_booked) := ⟨rfl, rfl, rfl, by decide +kernel, rfl, by decide +kernel, by decide +kernel⟩
theorem ok_House_find_booked (F : Fun K "find_booked" "House.find_booked" s_House_find_booked f fd) (T : TxH K mg CH CB) : FnOk P w K mg base CX0 1 f fd ["self", "number"] (spFind CH CB CP) := by
  refine F.ok sc_House_find_booked (fun vs H Q E h => ?_) (fun cdv A outer s H vs Q E hr h => ?_)
  · obtain ⟨_, _, _, _, _, _, _, rfl, _⟩ := h
    rfl
  · obtain ⟨h, sl, dl, rooms, es, c, n, rfl, ⟨⟨dx, h1⟩, h2, h3, h4⟩, qN, qS⟩ := h
    have hu := hu_of hr
    refine ⟨_, (pss_cons (ps_set (i := 2) sc_House_find_booked.nd rfl (Or.inl rfl) (pe_dget1 hu (pe_fld (pv 0) rfl) (pv 1) ⟨rfl, rfl, rfl, rfl⟩))
      (pss_cons (ps_if (PW.pt (pw_or (pt_cmpR op_isN (pv 2) pe_non (nomark _)) (pw_or1 (pt_val (pe_fld (pv 2) rfl)))))
        (pss_one (ps_ret pe_non))
        pss_nil)
      (pss_one (ps_ret (pv 2))))), ?_⟩
    refine ⟨_, rfl, h, CH, dx, _, _, rfl, h1, T.clH, T.nH, hF_held _ _ _, dl, rfl, .inl ⟨_, .inl h3⟩, _, rfl, _, DGet.k (k := Sum.inl (n : Int)) h3, ?_⟩
    rw [valV_kvs]
    cases e : es.find? (fun e => e.id == n) with
    | none =>
      refine ⟨_, rfl, rfl, _, rfl, if_t rfl ?_⟩
      exact iteT (qN fun b z => by rw [e] at z; cases z)
    | some b =>
      refine ⟨_, rfl, rfl, _, rfl, if_f rfl ?_⟩
      obtain ⟨⟨dy, o1⟩, _⟩ := h4 b (List.mem_of_find?_eq_some e)
      refine ⟨_, rfl, b.ba, CB, dy, _, _, rfl, o1, T.clB, T.nBa, bF_waits b, _, rfl, if_b (fun z => ?_) fun z => ?_⟩
      · exact qN fun b' z' => by rw [e] at z'; cases z'; exact z
      · exact ⟨_, rfl, qS b e z⟩
end
end R
end

section
set_option maxRecDepth 100000
set_option maxHeartbeats 4000000
namespace R
open PySem PySem.Spec PyProof.Rows L2
section
variable {P : Program} {w : World} {K : PySem.W.Frag} {mg : Str → Option Value} {base : Heap} {CH CB CP f : Addr} {fd : FuncData}
/-- a list at l of new pairs, as ts tells them -/
structure PairsAt (H : Hp) (l : Addr) (ts : List (Addr × Int × Int)) : Prop where
  ls : H l = some (.lst (ts.map fun t => V.ref t.1))
  tu : ∀ t ∈ ts, H t.1 = some (.tup [.int t.2.1, .int t.2.2])
def asI (l : List (Nat × Nat)) : List (Int × Int) := l.map fun x => ((x.1 : Int), (x.2 : Int))
def FzU (fz : HO → HO) : Prop := fz = id
def FzL (fz : HO → HO) : Prop := ∃ od, fz = .frz od
def spMeet (Fz : (HO → HO) → Prop) (CH CB CP : Addr) : Sp := fun vs H Q _ => ∃ (fz : HO → HO) (h sl dl a g : Addr) (rooms : List Nat) (es : List Ent) (c r : Nat) (p : Cl05.Plan), vs = [.ref h, .int r, .ref a] ∧ Fz fz ∧ HouseAt CH CB CP fz H h sl dl rooms es c ∧
  PlanAt CP H a g p ∧ RM.OkP p ∧ (∀ e ∈ es, RM.OkP e.plan) ∧ es.length ≤ 100 ∧
  ∀ (H' : Hp) (l : Addr) (ts : List (Addr × Int × Int)), Same H H' → PairsAt H' l ts → ts.map (·.2) = asI (clashE es r p) → Q (.ref l) H'
theorem eqInt {a b : Nat} : decide (V.int (a : Int) = V.int (b : Int)) = decide (a = b) := by
  rw [Bool.eq_iff_iff, decide_eq_true_eq, decide_eq_true_eq]
  constructor
  · intro z
    injection z with z
    omega
  · intro z; rw [z]
/-! ### what is booked in a room -/
def inR (es : List Ent) (r : Nat) : List Ent := es.filter fun e => decide (e.room = r) && !e.waits
theorem mem_inR {es : List Ent} {r : Nat} {e : Ent} : e ∈ inR es r ↔ e ∈ es ∧ e.waits = false ∧ e.room = r := by
  unfold inR
  rw [List.mem_filter, Bool.and_eq_true, decide_eq_true_eq, Bool.not_eq_true', and_comm (a := e.room = r)]
theorem inR_next {es : List Ent} {i : Nat} {e : Ent} (h : es[i]? = some e) (r : Nat) : inR (es.take (i + 1)) r = inR (es.take i) r ++ (if e.room = r ∧ e.waits = false then [e] else []) := by
  unfold inR
  rw [take_next h, List.filter_append]
  congr 1
  by_cases c : e.room = r ∧ e.waits = false
  · rw [if_pos c]
    exact List.filter_cons_of_pos (by rw [c.2]; simp [c.1])
  · rw [if_neg c, List.filter_cons_of_neg]
    · rfl
    · intro z
      rw [Bool.and_eq_true, decide_eq_true_eq, Bool.not_eq_true'] at z
      exact c z
theorem inR_len (es : List Ent) (r : Nat) : (inR es r).length ≤ es.length := List.length_filter_le _ _
theorem clashE_inR (r : Nat) (p : Cl05.Plan) : ∀ es : List Ent, clashE es r p = (inR es r).filterMap fun e => (Cl05.meets p e.plan).map fun u => (u, e.id)
  | [] => rfl
  | e :: es => by
    have ih := clashE_inR r p es
    unfold clashE inR at ih ⊢
    by_cases c : e.room = r ∧ e.waits = false
    · rw [List.filter_cons_of_pos (by rw [c.2]; simp [c.1]), List.filterMap_cons, List.filterMap_cons, if_pos c, ih]
    · rw [List.filter_cons_of_neg (fun z => by rw [Bool.and_eq_true, decide_eq_true_eq, Bool.not_eq_true'] at z; exact c z), List.filterMap_cons, if_neg c, ih]
def spBookedIn (Fz : (HO → HO) → Prop) (CH CB CP : Addr) : Sp := fun vs H Q _ => ∃ (fz : HO → HO) (h sl dl : Addr) (rooms : List Nat) (es : List Ent) (c r : Nat), vs = [.ref h, .int r] ∧ Fz fz ∧ HouseAt CH CB CP fz H h sl dl rooms es c ∧ es.length ≤ 100 ∧
  ∀ (H' : Hp) (l : Addr), Same H H' → H l = none → H' l = some (.lst ((inR es r).map fun e => V.ref e.ba)) → Q (.ref l) H'
theorem kvs_at {es : List Ent} {i : Nat} {key : Key} {x : V} (hx : (kvs es)[i]? = some (key, x)) : ∃ e, es[i]? = some e ∧ x = V.ref e.ba := by
  unfold kvs at hx
  rw [List.getElem?_map] at hx
  cases q : es[i]? with
  | none => rw [q] at hx; cases hx
  | some e => rw [q] at hx; cases hx; exact ⟨e, rfl, rfl⟩
abbrev s_House_booked_in : Stmt := inClass (top 18) 7
theorem sc_House_booked_in : FnScope ["self", "room", "booking"] ["self", "room"] (defScope s_House_booked_in) := ⟨rfl, rfl, rfl, by decide +kernel, rfl, by decide +kernel, by decide +kernel⟩
theorem ok_House_booked_inU (F : Fun K "booked_in" "House.booked_in" s_House_booked_in f fd) (T : TxH K mg CH CB) : FnOk P w K mg base CX0 1 f fd ["self", "room"] (spBookedIn FzU CH CB CP) := by
  refine F.ok sc_House_booked_in (fun vs H Q E h => ?_) (fun cdv A outer s H vs Q E hr h => ?_)
  · obtain ⟨_, _, _, _, _, _, _, _, rfl, _⟩ := h
    rfl
  · obtain ⟨fz, h, sl, dl, rooms, es, c, r, rfl, hz, HA, hlen, k⟩ := h
    subst hz
    obtain ⟨⟨dx, h1⟩, h2, h3, h4⟩ := id HA
    replace h3 : H dl = some (.dK (kvs es)) := h3
    refine ⟨_, pss_one (ps_ret (pe_lock (pe_lc (own := [("booking", 2)]) (g := gName 2) (tt := tAnd (tTest (tOp rEq (tFld K (tVar 2) "room") (tVar 1))) (tNot (tB (tFld K (tVar 2) "waits")))) (te := tVar 2) (by rfl) sc_House_booked_in.nd (pi_values (pe_fld (pv 0) rfl))
        (blkOk_by (own := [("booking", 2)]) (N := ["self", "room", "booking"]) (sc := defScope s_House_booked_in) (by decide +kernel)) (fun _ _ _ _ _ => by exact pg_name (i := 2) sc_House_booked_in.nd rfl (Or.inl rfl))
        (fun _ _ _ _ _ => by exact pts_one (PW.pt (pw_and (pt_cmpR op_eq (pe_fld (pv 2) rfl) (pv 1) (nomark _)) (pw_and1 (pt_not (pt_val (pe_fld (pv 2) rfl))))))) (fun _ _ _ _ _ => by exact pv 2)))), ?_⟩
    have nhd : h ≠ dl := ne_of h1 h3 (by intro z; cases z)
    refine ⟨dl, .dK (kvs es), h3, trivial, fun od => ?_⟩
    have eL : ∀ {b o}, H b = some o → b ≠ dl → (upd H dl (.frz od (.dK (kvs es)))) b = some o := fun e hb => by rw [upd_ne hb]; exact e
    have lk : (upd H dl (.frz od (.dK (kvs es)))) dl = some (.frz od (.dK (kvs es))) := upd_same
    have nL : ∀ {b}, (upd H dl (.frz od (.dK (kvs es)))) b = none → H b = none := fun {b} e => by
      rw [upd_ne (fun z => by rw [z, upd_same] at e; cases e)] at e
      exact e
    generalize hHL : upd H dl (.frz od (.dK (kvs es))) = HL at eL lk nL ⊢
    refine ⟨_, rfl, h, CH, dx, _, _, rfl, eL h1 nhd, T.clH, T.nH, hF_held _ _ _, dl, od, _, rfl, lk, fun D hD => ?_⟩
    have kD : ∀ {b o}, HL b = some o → b ≠ D := fun e => ne_of_none e hD
    refine lc_it walk_values (fun i H' => (∀ b o, HL b = some o → H' b = some o) ∧ H' D = some (.lst ((inR (es.take i) r).map fun e => V.ref e.ba))) ⟨fun b o e => by rw [upd_ne (kD e)]; exact e, upd_same⟩ (fun i H' _ q => q.1 _ _ lk) ?_ ?_
    · rintro i x H0 H' hi ⟨k1, hD'⟩ ⟨rfl, key, hx⟩
      obtain ⟨e, he, rfl⟩ := kvs_at hx
      have hm : e ∈ es := List.mem_of_getElem? he
      obtain ⟨⟨dy, b1⟩, _⟩ := h4 e hm
      have b1' := k1 _ _ (eL b1 (ne_of b1 h3 (by intro z; cases z)))
      have nx := inR_next he r
      refine ⟨rfl, _, rfl, e.ba, CB, dy, _, _, rfl, b1', T.clB, T.nBr, bF_room e, _, rfl, rfl, _, rfl, ?_⟩
      rw [eqInt]
      refine if_b (fun z1 => ?_) fun z1 => ?_
      · have y1 := of_decide_eq_true z1
        refine ⟨_, rfl, e.ba, CB, dy, _, _, rfl, b1', T.clB, T.nBa, bF_waits e, _, rfl, if_b (fun z2 => ?_) fun z2 => ?_⟩
        · have y2 : e.waits = false := by simpa using z2
          rw [if_pos ⟨y1, y2⟩] at nx
          refine ⟨_, rfl, _, hD', small1000 ?_, fun b o q => by rw [upd_ne (kD q)]; exact k1 b o q, ?_⟩
          · rw [List.length_map]
            have a1 := inR_len (es.take i) r
            rw [List.length_take] at a1
            omega
          · rw [upd_same, nx, List.map_append]
            rfl
        · have y2 : ¬ (e.room = r ∧ e.waits = false) := fun z => by rw [z.2] at z2; cases z2
          rw [if_neg y2, List.append_nil] at nx
          exact ⟨k1, by rw [nx]; exact hD'⟩
      · have y2 : ¬ (e.room = r ∧ e.waits = false) := fun z => of_decide_eq_false z1 z.1
        rw [if_neg y2, List.append_nil] at nx
        exact iteF ⟨k1, by rw [nx]; exact hD'⟩
    · rintro H' ⟨k1, hD'⟩
      have e0 : es.take (kvs es).length = es := by rw [show (kvs es).length = es.length from List.length_map _]; exact List.take_length
      rw [e0] at hD'
      refine ⟨k1 _ _ lk, ?_⟩
      have ndD : D ≠ dl := fun z => by rw [z, lk] at hD; cases hD
      refine k _ D (fun b o q => ?_) (nL hD) (by rw [upd_ne ndD]; exact hD')
      by_cases z : b = dl
      · subst z
        rw [h3] at q
        cases q
        exact upd_same
      · rw [upd_ne z]; exact k1 _ _ (eL q z)
theorem ok_House_booked_inL (F : Fun K "booked_in" "House.booked_in" s_House_booked_in f fd) (T : TxH K mg CH CB) : FnOk P w K mg base CX0 1 f fd ["self", "room"] (spBookedIn FzL CH CB CP) := by
  refine F.ok sc_House_booked_in (fun vs H Q E h => ?_) (fun cdv A outer s H vs Q E hr h => ?_)
  · obtain ⟨_, _, _, _, _, _, _, _, rfl, _⟩ := h
    rfl
  · obtain ⟨fz, h, sl, dl, rooms, es, c, r, rfl, hz, HA, hlen, k⟩ := h
    obtain ⟨od, rfl⟩ := hz
    obtain ⟨⟨dx, h1⟩, h2, h3, h4⟩ := id HA
    replace h3 : H dl = some (.frz od (.dK (kvs es))) := h3
    refine ⟨_, pss_one (ps_ret (pe_lc (own := [("booking", 2)]) (g := gName 2) (tt := tAnd (tTest (tOp rEq (tFld K (tVar 2) "room") (tVar 1))) (tNot (tB (tFld K (tVar 2) "waits")))) (te := tVar 2) (by rfl) sc_House_booked_in.nd (pi_values (pe_fld (pv 0) rfl))
        (blkOk_by (own := [("booking", 2)]) (N := ["self", "room", "booking"]) (sc := defScope s_House_booked_in) (by decide +kernel)) (fun _ _ _ _ _ => by exact pg_name (i := 2) sc_House_booked_in.nd rfl (Or.inl rfl))
        (fun _ _ _ _ _ => by exact pts_one (PW.pt (pw_and (pt_cmpR op_eq (pe_fld (pv 2) rfl) (pv 1) (nomark _)) (pw_and1 (pt_not (pt_val (pe_fld (pv 2) rfl))))))) (fun _ _ _ _ _ => by exact pv 2))), ?_⟩
    have nhd : h ≠ dl := ne_of h1 h3 (by intro z; cases z)
    obtain ⟨HL, rfl⟩ : ∃ HL : Hp, HL = H := ⟨H, rfl⟩
    have eL : ∀ {b o}, HL b = some o → b ≠ dl → HL b = some o := fun e _ => e
    have lk := h3
    refine ⟨_, rfl, h, CH, dx, _, _, rfl, eL h1 nhd, T.clH, T.nH, hF_held _ _ _, dl, od, _, rfl, lk, fun D hD => ?_⟩
    have kD : ∀ {b o}, HL b = some o → b ≠ D := fun e => ne_of_none e hD
    refine lc_it walk_values (fun i H' => (∀ b o, HL b = some o → H' b = some o) ∧ H' D = some (.lst ((inR (es.take i) r).map fun e => V.ref e.ba))) ⟨fun b o e => by rw [upd_ne (kD e)]; exact e, upd_same⟩ (fun i H' _ q => q.1 _ _ lk) ?_ ?_
    · rintro i x H0 H' hi ⟨k1, hD'⟩ ⟨rfl, key, hx⟩
      obtain ⟨e, he, rfl⟩ := kvs_at hx
      have hm : e ∈ es := List.mem_of_getElem? he
      obtain ⟨⟨dy, b1⟩, _⟩ := h4 e hm
      have b1' := k1 _ _ (eL b1 (ne_of b1 h3 (by intro z; cases z)))
      have nx := inR_next he r
      refine ⟨rfl, _, rfl, e.ba, CB, dy, _, _, rfl, b1', T.clB, T.nBr, bF_room e, _, rfl, rfl, _, rfl, ?_⟩
      rw [eqInt]
      refine if_b (fun z1 => ?_) fun z1 => ?_
      · have y1 := of_decide_eq_true z1
        refine ⟨_, rfl, e.ba, CB, dy, _, _, rfl, b1', T.clB, T.nBa, bF_waits e, _, rfl, if_b (fun z2 => ?_) fun z2 => ?_⟩
        · have y2 : e.waits = false := by simpa using z2
          rw [if_pos ⟨y1, y2⟩] at nx
          refine ⟨_, rfl, _, hD', small1000 ?_, fun b o q => by rw [upd_ne (kD q)]; exact k1 b o q, ?_⟩
          · rw [List.length_map]
            have a1 := inR_len (es.take i) r
            rw [List.length_take] at a1
            omega
          · rw [upd_same, nx, List.map_append]
            rfl
        · have y2 : ¬ (e.room = r ∧ e.waits = false) := fun z => by rw [z.2] at z2; cases z2
          rw [if_neg y2, List.append_nil] at nx
          exact ⟨k1, by rw [nx]; exact hD'⟩
      · have y2 : ¬ (e.room = r ∧ e.waits = false) := fun z => of_decide_eq_false z1 z.1
        rw [if_neg y2, List.append_nil] at nx
        exact iteF ⟨k1, by rw [nx]; exact hD'⟩
    · rintro H' ⟨k1, hD'⟩
      have e0 : es.take (kvs es).length = es := by rw [show (kvs es).length = es.length from List.length_map _]; exact List.take_length
      rw [e0] at hD'
      exact k _ D k1 hD hD'
abbrev s_House_meetings : Stmt := inClass (top 18) 12
theorem sc_House_meetings : FnScope ["self", "room", "plan", "found", "booking", "moment"] ["self", "room", "plan"] (defScope s_House_meetings) := ⟨rfl, rfl, rfl, by decide +kernel, rfl, by decide +kernel, by decide +kernel⟩
theorem ok_House_meetings {Fz : (HO → HO) → Prop} (F : Fun K "meetings" "House.meetings" s_House_meetings f fd) (T : TxH K mg CH CB) (d_House_booked_in : DM P w K mg base CH "booked_in" 1 ["self", "room"] (spBookedIn Fz CH CB CP)) (d_first_meeting : DF P w K mg base "first_meeting" 3 ["one", "other"] (spFirst CP)) :
    FnOk P w K mg base CX0 4 f fd ["self", "room", "plan"] (spMeet Fz CH CB CP) := by
  refine F.ok sc_House_meetings (fun vs H Q E h => ?_) (fun cdv A outer s H vs Q E hr h => ?_)
  · obtain ⟨_, _, _, _, _, _, _, _, _, _, _, rfl, _⟩ := h
    rfl
  · obtain ⟨fz, h, sl, dl, a, g, rooms, es, c, r, p, rfl, hz, HA, PA, op, oes, hlen, k⟩ := h
    refine ⟨_, (pss_cons (ps_set (i := 3) sc_House_meetings.nd rfl (Or.inl rfl) (pe_lst pa_nil))
      (pss_cons (ps_for PassesOwn.never rfl (pi_list (md_of (pe_meth (pv 0) d_House_booked_in.cl d_House_booked_in.h d_House_booked_in.F (hr.mono (by decide)) d_House_booked_in.b .nil pass0 (pa_cons (pv 1) pa_nil)))) (pg_name (i := 4) sc_House_meetings.nd rfl (Or.inl rfl))
        (pss_cons (ps_set (i := 5) sc_House_meetings.nd rfl (Or.inl rfl) (cd_of (pe_call d_first_meeting.F (hr.mono (by decide)) (by rfl) d_first_meeting.g d_first_meeting.kp d_first_meeting.b .nil pass0 (pa_cons (pv 2) (pa_cons (pe_fld (pv 4) rfl) pa_nil)))))
        (pss_one (ps_if (pt_cmpR op_notN (pv 5) pe_non (nomark _))
          (pss_one (ps_expr (pe_bm PySem.F.plainAttrs_list PySem.F.slot_list_append PySem.F.type_list_append mt_append (pv 3) (pa_cons (pe_tup (pa_cons (pv 5) (pa_cons (pe_fld (pv 4) rfl) pa_nil))) pa_nil))))
          pss_nil))))
      (pss_one (ps_ret (pv 3))))), ?_⟩
    -- found = []
    refine ⟨(by show 0 ≤ sizeLine; decide), fun fl hfl => ?_⟩
    have s1 : Same H (upd H fl (.lst [])) := fun b o e => by rw [upd_ne (ne_of_none e hfl)]; exact e
    have HA1 := HA.same s1
    obtain ⟨dx, h1⟩ := HA1.ob
    refine ⟨_, rfl, h, dx, _, rfl, h1, hF_no _ _ _ (by decide +kernel), _, rfl, fz, h, sl, dl, rooms, es, c, r, rfl, hz, HA1, hlen, fun H1 l s2 nl hl => ?_⟩
    have s12 : Same H H1 := fun b o e => s2 _ _ (s1 _ _ e)
    have hf1 : H1 fl = some (.lst []) := s2 _ _ upd_same
    have nlf : l ≠ fl := fun z => by rw [z, upd_same] at nl; cases nl
    have nF : ∀ {b o}, H b = some o → b ≠ fl := fun e => ne_of_none e hfl
    refine ⟨l, rfl, ⟨_, SqL.of hl⟩, ?_⟩
    refine for_list (K := K) (a := l) (xs := (inR es r).map fun e => V.ref e.ba) (fun i σ H' => Same H H' ∧ H' l = some (.lst ((inR es r).map fun e => V.ref e.ba)) ∧ ∃ (v u : Option V) (ts : List (Addr × Int × Int)), σ = [some (.ref h), some (.int r), some (.ref a), some (.ref fl), v, u] ∧ PairsAt H' fl ts ∧ ts.map (·.2) = asI (((inR es r).take i).filterMap fun e => (Cl05.meets p e.plan).map fun u => (u, e.id)))
      ⟨s12, hl, none, none, [], rfl, ⟨hf1, fun t ht => by cases ht⟩, rfl⟩ (fun i σ H' _ q => SqL.of q.2.1) ?_ ?_
    · rintro i x σ H' hi ⟨k1, k2, v, u, ts, rfl, PT, et⟩
      obtain ⟨e, he, rfl⟩ : ∃ e, (inR es r)[i]? = some e ∧ x = V.ref e.ba := by
        rw [List.getElem?_map] at hi
        cases q : (inR es r)[i]? with
        | none => rw [q] at hi; cases hi
        | some e => rw [q] at hi; cases hi; exact ⟨e, rfl, rfl⟩
      have hm : e ∈ es := (mem_inR.mp (List.mem_of_getElem? he)).1
      have EA := (HA.ents e hm).same k1
      obtain ⟨⟨dy, b1⟩, PE'⟩ := id EA
      have PA' := PA.same k1
      have nx : ((inR es r).take (i + 1)).filterMap (fun e => (Cl05.meets p e.plan).map fun u => (u, e.id)) = ((inR es r).take i).filterMap (fun e => (Cl05.meets p e.plan).map fun u => (u, e.id)) ++ ((Cl05.meets p e.plan).map fun u => (u, e.id)).toList := by
        rw [take_next he, List.filterMap_append]
        congr 1
      have hil : i < (inR es r).length := (List.getElem?_eq_some_iff.mp he).1
      have hil2 := inR_len es r
      have hts : ts.length ≤ i := by
        have l1 := congrArg List.length et
        unfold asI at l1
        rw [List.length_map, List.length_map] at l1
        have l2 := List.length_filterMap_le (fun e : Ent => (Cl05.meets p e.plan).map fun u => (u, e.id)) ((inR es r).take i)
        rw [List.length_take] at l2
        omega
      refine ⟨_, rfl, _, rfl, e.ba, CB, dy, _, _, rfl, b1, T.clB, T.nBp, bF_plan e, a, g, e.pa, e.ga, p, e.plan, rfl, PA', PE', op, oes e hm, fun H2 s2 => ?_⟩
      cases em : Cl05.meets p e.plan with
      | none =>
        rw [em] at nx
        refine ⟨_, rfl, rfl, _, rfl, if_f rfl ?_⟩
        exact ⟨fun b o q => s2 _ _ (k1 b o q), s2 _ _ k2, _, _, ts, rfl, ⟨s2 _ _ PT.ls, fun t ht => s2 _ _ (PT.tu t ht)⟩, by rw [et, nx]; simp⟩
      | some m =>
        rw [em] at nx
        refine ⟨_, rfl, rfl, _, rfl, if_t rfl ?_⟩
        refine ⟨_, rfl, .inl ⟨rfl, _, SqL.of (s2 _ _ PT.ls)⟩, _, rfl, _, rfl, e.ba, CB, dy, _, _, rfl, s2 _ _ b1, T.clB, T.nBn, bF_number e, (by show 2 ≤ sizeLine; decide), fun t0 ht0 => ?_⟩
        have nft : fl ≠ t0 := ne_of_none (s2 _ _ PT.ls) ht0
        refine ⟨fl, _, _, rfl, rfl, (by rw [upd_ne nft]; exact s2 _ _ PT.ls), small1000 (by rw [List.length_map]; omega), ?_⟩
        refine ⟨fun b o q => ?_, ?_, _, _, ts ++ [(t0, (m : Int), (e.id : Int))], rfl, ⟨?_, fun t ht => ?_⟩, ?_⟩
        · have q' := s2 _ _ (k1 b o q)
          rw [upd_ne (nF q), upd_ne (ne_of_none q' ht0)]
          exact q'
        · have q' := s2 _ _ k2
          rw [upd_ne nlf, upd_ne (ne_of_none q' ht0)]
          exact q'
        · rw [upd_same, List.map_append]
          rfl
        · rcases List.mem_append.mp ht with ht | ht
          · have q' := s2 _ _ (PT.tu t ht)
            have n1 : t.1 ≠ fl := ne_of (PT.tu t ht) PT.ls (by intro z; cases z)
            rw [upd_ne n1, upd_ne (ne_of_none q' ht0)]
            exact q'
          · rw [List.mem_singleton] at ht
            subst ht
            rw [upd_ne nft.symm]
            exact upd_same
        · rw [List.map_append, et, nx]
          unfold asI
          rw [List.map_append]
          rfl
    · rintro σ H' ⟨k1, k2, v, u, ts, rfl, PT, et⟩
      rw [List.length_map, List.take_length, ← clashE_inR] at et
      exact ⟨_, rfl, k _ fl ts k1 PT et⟩
end
end R
end

section
set_option maxRecDepth 100000
set_option maxHeartbeats 4000000
namespace R
open PySem PySem.Spec PyProof.Rows L2
section
variable {P : Program} {w : World} {K : PySem.W.Frag} {mg : Str → Option Value} {base : Heap} {CH CB CP f : Addr} {fd : FuncData}
def fitsE (es : List Ent) (r : Nat) (p : Cl05.Plan) : Bool := (clashE es r p).isEmpty
def spFits (Fz : (HO → HO) → Prop) (CH CB CP : Addr) : Sp := fun vs H Q _ => ∃ (fz : HO → HO) (h sl dl a g : Addr) (rooms : List Nat) (es : List Ent) (c r : Nat) (p : Cl05.Plan), vs = [.ref h, .int r, .ref a] ∧ Fz fz ∧ HouseAt CH CB CP fz H h sl dl rooms es c ∧
  PlanAt CP H a g p ∧ RM.OkP p ∧ (∀ e ∈ es, RM.OkP e.plan) ∧ es.length ≤ 100 ∧ ∀ (H' : Hp), Same H H' → Q (.bl (fitsE es r p)) H'
abbrev s_House_fits : Stmt := inClass (top 18) 13
theorem sc_House_fits : FnScope ["self", "room", "plan"] ["self", "room", "plan"] (defScope s_House_fits) := ⟨rfl, rfl, rfl, by decide +kernel, rfl, by decide +kernel, by decide +kernel⟩
theorem ok_House_fitsU (F : Fun K "fits" "House.fits" s_House_fits f fd) (T : TxH K mg CH CB) (d_House_meetings : DM P w K mg base CH "meetings" 4 ["self", "room", "plan"] (spMeet FzU CH CB CP)) :
    FnOk P w K mg base CX0 5 f fd ["self", "room", "plan"] (spFits FzU CH CB CP) := by
  refine F.ok sc_House_fits (fun vs H Q E h => ?_) (fun cdv A outer s H vs Q E hr h => ?_)
  · obtain ⟨_, _, _, _, _, _, _, _, _, _, _, rfl, _⟩ := h
    rfl
  · obtain ⟨fz, h, sl, dl, a, g, rooms, es, c, r, p, rfl, hz, HA, PA, op, oes, hlen, k⟩ := h
    obtain ⟨dx, h1⟩ := HA.ob
    refine ⟨_, (pss_one (ps_ret (pe_cmpR op_eq (pe_callB call_len_seq (by rfl) T.b_len PySem.boot_len (pa_cons (md_of (pe_meth (pv 0) d_House_meetings.cl d_House_meetings.h d_House_meetings.F (hr.mono (by decide)) d_House_meetings.b .nil pass0 (pa_cons (pv 1) (pa_cons (pv 2) pa_nil)))) pa_nil)) pe_int (nomark _)))), ?_⟩
    refine ⟨_, rfl, h, dx, _, rfl, h1, hF_no _ _ _ (by decide +kernel), _, rfl, _, rfl, fz, h, sl, dl, a, g, rooms, es, c, r, p, rfl, hz, HA, PA, op, oes, hlen, fun H' l ts s1 PT et => ?_⟩
    refine ⟨l, _, rfl, .inl (SqL.of PT.ls), rfl, ?_⟩
    refine ret_eq (k H' s1) (congrArg V.bl ?_)
    have e1 : ts.length = (clashE es r p).length := by
      have := congrArg List.length et
      unfold asI at this
      rw [List.length_map, List.length_map] at this
      exact this
    have e2 := eqInt (a := ((ts.map fun t => V.ref t.1)).length) (b := 0)
    rw [show V.int ((0 : Nat) : Int) = V.int 0 from rfl] at e2
    rw [e2, List.length_map, e1]
    unfold fitsE
    cases clashE es r p <;> rfl
theorem ok_House_fitsL (F : Fun K "fits" "House.fits" s_House_fits f fd) (T : TxH K mg CH CB) (d_House_meetings : DM P w K mg base CH "meetings" 4 ["self", "room", "plan"] (spMeet FzL CH CB CP)) :
    FnOk P w K mg base CX0 5 f fd ["self", "room", "plan"] (spFits FzL CH CB CP) := by
  refine F.ok sc_House_fits (fun vs H Q E h => ?_) (fun cdv A outer s H vs Q E hr h => ?_)
  · obtain ⟨_, _, _, _, _, _, _, _, _, _, _, rfl, _⟩ := h
    rfl
  · obtain ⟨fz, h, sl, dl, a, g, rooms, es, c, r, p, rfl, hz, HA, PA, op, oes, hlen, k⟩ := h
    obtain ⟨dx, h1⟩ := HA.ob
    refine ⟨_, (pss_one (ps_ret (pe_cmpR op_eq (pe_callB call_len_seq (by rfl) T.b_len PySem.boot_len (pa_cons (md_of (pe_meth (pv 0) d_House_meetings.cl d_House_meetings.h d_House_meetings.F (hr.mono (by decide)) d_House_meetings.b .nil pass0 (pa_cons (pv 1) (pa_cons (pv 2) pa_nil)))) pa_nil)) pe_int (nomark _)))), ?_⟩
    refine ⟨_, rfl, h, dx, _, rfl, h1, hF_no _ _ _ (by decide +kernel), _, rfl, _, rfl, fz, h, sl, dl, a, g, rooms, es, c, r, p, rfl, hz, HA, PA, op, oes, hlen, fun H' l ts s1 PT et => ?_⟩
    refine ⟨l, _, rfl, .inl (SqL.of PT.ls), rfl, ?_⟩
    refine ret_eq (k H' s1) (congrArg V.bl ?_)
    have e1 : ts.length = (clashE es r p).length := by
      have := congrArg List.length et
      unfold asI at this
      rw [List.length_map, List.length_map] at this
      exact this
    have e2 := eqInt (a := ((ts.map fun t => V.ref t.1)).length) (b := 0)
    rw [show V.int ((0 : Nat) : Int) = V.int 0 from rfl] at e2
    rw [e2, List.length_map, e1]
    unfold fitsE
    cases clashE es r p <;> rfl
/-! ### hold -/
def spHold (CH CB CP : Addr) : Sp := fun vs H Q _ => ∃ (h sl dl a g : Addr) (rooms : List Nat) (es : List Ent) (c wh r : Nat) (p : Cl05.Plan) (b : Bool), vs = [.ref h, .int wh, .int r, .ref a, .bl b] ∧ HouseAt CH CB CP id H h sl dl rooms es c ∧
  PlanAt CP H a g p ∧ (∀ e ∈ es, e.id < c) ∧ es.length ≤ 100 ∧
  ∀ (H' : Hp) (ba : Addr), H ba = none → HouseAt CH CB CP id H' h sl dl rooms (es ++ [⟨c, wh, r, p, b, ba, a, g⟩]) (c + 1) → (∀ x o, H x = some o → x ≠ h → x ≠ dl → H' x = some o) → Q (.int c) H'
theorem kvs_new {es : List Ent} {c : Nat} (h : ∀ e ∈ es, e.id < c) : valV (kvs es) (Sum.inl (c : Int) : Key) = none := by
  rw [valV_kvs, List.find?_eq_none.mpr]
  · rfl
  · intro e he
    have := h e he
    simp only [beq_iff_eq]
    omega
theorem hF_put (sl dl : Addr) (c n : Nat) : putF "came" (.int n) (hF sl dl c) = hF sl dl n := by
  unfold hF
  rw [put_past (by decide +kernel), put_past (by decide +kernel), put_here]
theorem bF_hF (e : Ent) (sl dl : Addr) (c : Nat) : bF e ≠ hF sl dl c := fun z => by
  have := congrArg List.length z
  exact absurd this (by show ¬ 5 = 3; decide)
theorem pF_hF (p : Cl05.Plan) (g sl dl : Addr) (c : Nat) : pF p g ≠ hF sl dl c := fun z => by
  have := congrArg List.length z
  exact absurd this (by show ¬ 5 = 3; decide)
abbrev s_House_hold : Stmt := inClass (top 18) 14
theorem sc_House_hold : FnScope ["self", "whom", "room", "plan", "waits", "number"] ["self", "whom", "room", "plan", "waits"] (defScope s_House_hold) := ⟨rfl, rfl, rfl, by decide +kernel, rfl, by decide +kernel, by decide +kernel⟩
theorem ok_House_hold (F : Fun K "hold" "House.hold" s_House_hold f fd) (T : TxH K mg CH CB) (d_Booking : DC P w K mg base "Booking" CB 1 ["self", "number", "whom", "room", "plan", "waits"] (spBInit CB)) :
    FnOk P w K mg base CX0 3 f fd ["self", "whom", "room", "plan", "waits"] (spHold CH CB CP) := by
  refine F.ok sc_House_hold (fun vs H Q E h => ?_) (fun cdv A outer s H vs Q E hr h => ?_)
  · obtain ⟨_, _, _, _, _, _, _, _, _, _, _, _, rfl, _⟩ := h
    rfl
  · obtain ⟨h, sl, dl, a, g, rooms, es, c, wh, r, p, b, rfl, HA, PA, hid, hlen, k⟩ := h
    obtain ⟨⟨dx, h1⟩, h2, h3, h4⟩ := id HA
    replace h3 : H dl = some (.dK (kvs es)) := h3
    have hu := hu_of hr
    refine ⟨_, (pss_cons (ps_set (i := 5) sc_House_hold.nd rfl (Or.inl rfl) (pe_fld (pv 0) rfl))
      (pss_cons (ps_dput hu (pe_fld (pv 0) rfl) (pv 5) (kd_of (pe_make d_Booking.M d_Booking.F (hr.mono (by decide)) (by rfl) d_Booking.g d_Booking.b .nil pass0 (pa_cons (pv 5) (pa_cons (pv 1) (pa_cons (pv 2) (pa_cons (pv 3) (pa_cons (pv 4) pa_nil))))))) rfl)
      (pss_cons (ps_fldaug (pv 0) pe_int in_add)
      (pss_one (ps_ret (pv 5)))))), ?_⟩
    refine ⟨_, rfl, h, CH, dx, _, _, rfl, h1, T.clH, T.nC, hF_came _ _ _, ?_⟩
    refine ⟨_, rfl, _, rfl, _, rfl, _, rfl, _, rfl, ?_⟩
    intro x dy nx ndy nxy
    refine ⟨x, dy, a, c, wh, r, b, rfl, upd_same, rfl, ?_⟩
    rw [upd_upd]
    -- the heap with the new booking
    have o1 : ∀ {z o}, H z = some o → (upd (upd H dy (.own x)) x (.ins CB dy (bF ⟨c, wh, r, p, b, x, a, g⟩))) z = some o := fun e => by rw [upd_ne (ne_of_none e nx), upd_ne (ne_of_none e ndy)]; exact e
    have ox : (upd (upd H dy (.own x)) x (.ins CB dy (bF ⟨c, wh, r, p, b, x, a, g⟩))) x = some (.ins CB dy (bF ⟨c, wh, r, p, b, x, a, g⟩)) := upd_same
    have nhd : h ≠ dl := ne_of h1 h3 (by intro z; cases z)
    have nhx : h ≠ x := ne_of_none h1 nx
    have ndx : dl ≠ x := ne_of_none h3 nx
    generalize hH2 : (upd (upd H dy (.own x)) x (.ins CB dy (bF ⟨c, wh, r, p, b, x, a, g⟩))) = H2 at o1 ox
    have hH2' : (upd (upd H dy (.own x)) x (.ins CB dy [("number", .int c), ("whom", .int wh), ("room", .int r), ("plan", .ref a), ("waits", .bl b)])) = H2 := hH2
    dsimp only
    rw [hH2']
    refine ⟨_, rfl, h, CH, dx, _, _, rfl, o1 h1, T.clH, T.nH, hF_held _ _ _, _, rfl, dl, _, rfl, DPut.k (k := Sum.inl (c : Int)) (o1 h3) (small1000 (by rw [show (kvs es).length = es.length from List.length_map _]; omega)), ?_⟩
    rw [putK_new _ (kvs_new hid)]
    -- self.came += 1
    have h1' : (upd H2 dl (.dK (kvs es ++ [(Sum.inl (c : Int), V.ref x)]))) h = some (.ins CH dx (hF sl dl c)) := by rw [upd_ne nhd]; exact o1 h1
    refine ⟨_, rfl, h, CH, dx, _, _, rfl, h1', T.clH, T.nC, hF_came _ _ _, _, _, rfl, rfl, dx, _, h1', (by show 3 < 1000; decide), ?_⟩
    have e1 : putF "came" (.int ((c : Int) + 1)) (hF sl dl c) = hF sl dl (c + 1) := hF_put sl dl c (c + 1)
    refine ⟨_, rfl, ?_⟩
    dsimp only
    rw [e1]
    have keep : ∀ {z o}, H2 z = some o → z ≠ h → z ≠ dl → (upd (upd H2 dl (.dK (kvs es ++ [(Sum.inl (c : Int), V.ref x)]))) h (.ins CH dx (hF sl dl (c + 1)))) z = some o := fun e n1 n2 => by rw [upd_ne n1, upd_ne n2]; exact e
    have nF : ∀ {z C' d' fs o}, H2 z = some o → o = .ins C' d' fs → fs ≠ hF sl dl c → z ≠ h := fun e eo nf q => by
      subst eo
      rw [q, o1 h1] at e
      cases e
      exact nf rfl
    have hEnt : ∀ e, EntAt CB CP H2 e → EntAt CB CP (upd (upd H2 dl (.dK (kvs es ++ [(Sum.inl (c : Int), V.ref x)]))) h (.ins CH dx (hF sl dl (c + 1)))) e := fun e ⟨⟨d1, q1⟩, ⟨⟨d2, q2⟩, q3⟩⟩ =>
      ⟨⟨d1, keep q1 (nF q1 rfl (bF_hF e sl dl c)) (ne_of q1 (o1 h3) (by intro z; cases z))⟩, ⟨d2, keep q2 (nF q2 rfl (pF_hF e.plan e.ga sl dl c)) (ne_of q2 (o1 h3) (by intro z; cases z))⟩, keep q3 (ne_of q3 (o1 h1) (by intro z; cases z)) (ne_of q3 (o1 h3) (by intro z; cases z))⟩
    refine k _ x nx ⟨⟨dx, upd_same⟩, ?_, ?_, fun e he => ?_⟩ fun z o e n1 n2 => keep (o1 e) n1 n2
    · exact keep (o1 h2) (ne_of (o1 h2) (o1 h1) (by intro z; cases z)) (ne_of (o1 h2) (o1 h3) (by intro z; cases z))
    · rw [upd_ne nhd.symm, upd_same]
      show _ = some (HO.dK (kvs (es ++ [_])))
      unfold kvs
      rw [List.map_append]
      rfl
    · rcases List.mem_append.mp he with he | he
      · obtain ⟨⟨d1, q1⟩, ⟨⟨d2, q2⟩, q3⟩⟩ := h4 e he
        exact hEnt e ⟨⟨d1, o1 q1⟩, ⟨d2, o1 q2⟩, o1 q3⟩
      · rw [List.mem_singleton] at he
        subst he
        obtain ⟨⟨d2, q2⟩, q3⟩ := PA
        exact hEnt _ ⟨⟨dy, ox⟩, ⟨d2, o1 q2⟩, o1 q3⟩
/-! ### let_go -/
theorem dropK_kvs (n : Nat) (es : List Ent) : dropK (kvs es) (Sum.inl (n : Int) : Key) = kvs (es.filter fun e => e.id != n) := by
  unfold dropK kvs
  rw [List.filter_map]
  congr 1
  apply List.filter_congr
  intro e _
  simp only [Function.comp]
  rw [Bool.eq_iff_iff, decide_eq_true_eq, bne_iff_ne]
  constructor
  · intro h z; exact h (by rw [z])
  · intro h z; exact h (by have := Sum.inl.inj z; omega)
def spLetGo (CH CB CP : Addr) : Sp := fun vs H Q _ => ∃ (h sl dl : Addr) (rooms : List Nat) (es : List Ent) (c n : Nat), vs = [.ref h, .int n] ∧ HouseAt CH CB CP id H h sl dl rooms es c ∧ (∃ e ∈ es, e.id = n) ∧
  Q .non (upd H dl (.dK (kvs (es.filter fun e => e.id != n))))
abbrev s_House_let_go : Stmt := inClass (top 18) 15
theorem sc_House_let_go : FnScope ["self", "number"] ["self", "number"] (defScope s_House_let_go) := ⟨rfl, rfl, rfl, by decide +kernel, rfl, by decide +kernel, by decide +kernel⟩
theorem ok_House_let_go (F : Fun K "let_go" "House.let_go" s_House_let_go f fd) (T : TxH K mg CH CB) : FnOk P w K mg base CX0 1 f fd ["self", "number"] (spLetGo CH CB CP) := by
  refine F.ok sc_House_let_go (fun vs H Q E h => ?_) (fun cdv A outer s H vs Q E hr h => ?_)
  · obtain ⟨_, _, _, _, _, _, _, rfl, _⟩ := h
    rfl
  · obtain ⟨h, sl, dl, rooms, es, c, n, rfl, ⟨⟨dx, h1⟩, h2, h3, h4⟩, ⟨e, he, en⟩, k⟩ := h
    refine ⟨_, (pss_one (ps_expr (pe_dpop1 (pe_fld (pv 0) rfl) (pv 1) ⟨rfl, rfl, rfl, rfl⟩))), ?_⟩
    obtain ⟨v, hv⟩ : ∃ v, valV (kvs es) (Sum.inl (n : Int) : Key) = some v := by
      rw [valV_kvs]
      cases q : es.find? (fun e => e.id == n) with
      | none => exact absurd en (by simpa using List.find?_eq_none.mp q e he)
      | some b => exact ⟨_, rfl⟩
    refine ⟨_, rfl, h, CH, dx, _, _, rfl, h1, T.clH, T.nH, hF_held _ _ _, dl, rfl, .inl ⟨_, .inl h3⟩, _, rfl, _, Sum.inl (n : Int), v, h3, rfl, hv, ?_⟩
    rw [dropK_kvs]
    exact k
end
end R
end

section
set_option maxRecDepth 100000
set_option maxHeartbeats 4000000
namespace R
open PySem PySem.Spec PyProof.Rows L2
section
variable {P : Program} {w : World} {K : PySem.W.Frag} {mg : Str → Option Value} {base : Heap} {CH CB CP f : Addr} {fd : FuncData}
/-! ### who waits -/
theorem wait_next {es : List Ent} {i : Nat} {e : Ent} (h : es[i]? = some e) : ((es.take (i + 1)).filter fun e => e.waits).map (·.id) = ((es.take i).filter fun e => e.waits).map (·.id) ++ (if e.waits = true then [e.id] else []) := by
  rw [take_next h, List.filter_append, List.map_append]
  congr 1
  cases c : e.waits with
  | true => rw [List.filter_cons_of_pos (by exact c)]; rfl
  | false => rw [List.filter_cons_of_neg (by rw [c]; simp)]; rfl
def spWaiting (CH CB CP : Addr) : Sp := fun vs H Q _ => ∃ (h sl dl : Addr) (rooms : List Nat) (es : List Ent) (c : Nat), vs = [.ref h] ∧ HouseAt CH CB CP id H h sl dl rooms es c ∧ es.length ≤ 100 ∧
  ∀ (H' : Hp) (l : Addr), Same H H' → H l = none → H' l = some (.lst (gV ((es.filter fun e => e.waits).map (·.id)))) → Q (.ref l) H'
abbrev s_House_waiting : Stmt := inClass (top 18) 8
theorem sc_House_waiting : FnScope ["self", "booking"] ["self"] (defScope s_House_waiting) := ⟨rfl, rfl, rfl, by decide +kernel, rfl, by decide +kernel, by decide +kernel⟩
theorem ok_House_waiting (F : Fun K "waiting" "House.waiting" s_House_waiting f fd) (T : TxH K mg CH CB) : FnOk P w K mg base CX0 1 f fd ["self"] (spWaiting CH CB CP) := by
  refine F.ok sc_House_waiting (fun vs H Q E h => ?_) (fun cdv A outer s H vs Q E hr h => ?_)
  · obtain ⟨_, _, _, _, _, _, rfl, _⟩ := h
    rfl
  · obtain ⟨h, sl, dl, rooms, es, c, rfl, HA, hlen, k⟩ := h
    obtain ⟨⟨dx, h1⟩, h2, h3, h4⟩ := id HA
    replace h3 : H dl = some (.dK (kvs es)) := h3
    refine ⟨_, pss_one (ps_ret (pe_lock (pe_lc (own := [("booking", 1)]) (g := gName 1) (tt := tB (tFld K (tVar 1) "waits")) (te := tFld K (tVar 1) "number") (by rfl) sc_House_waiting.nd (pi_values (pe_fld (pv 0) rfl))
        (blkOk_by (own := [("booking", 1)]) (N := ["self", "booking"]) (sc := defScope s_House_waiting) (by decide +kernel)) (fun _ _ _ _ _ => by exact pg_name (i := 1) sc_House_waiting.nd rfl (Or.inl rfl))
        (fun _ _ _ _ _ => by exact pts_one (pt_val (pe_fld (pv 1) rfl))) (fun _ _ _ _ _ => by exact pe_fld (pv 1) rfl)))), ?_⟩
    have nhd : h ≠ dl := ne_of h1 h3 (by intro z; cases z)
    refine ⟨dl, .dK (kvs es), h3, trivial, fun od => ?_⟩
    have eL : ∀ {b o}, H b = some o → b ≠ dl → (upd H dl (.frz od (.dK (kvs es)))) b = some o := fun e hb => by rw [upd_ne hb]; exact e
    have lk : (upd H dl (.frz od (.dK (kvs es)))) dl = some (.frz od (.dK (kvs es))) := upd_same
    have nL : ∀ {b}, (upd H dl (.frz od (.dK (kvs es)))) b = none → H b = none := fun {b} e => by
      rw [upd_ne (fun z => by rw [z, upd_same] at e; cases e)] at e
      exact e
    generalize hHL : upd H dl (.frz od (.dK (kvs es))) = HL at eL lk nL ⊢
    refine ⟨_, rfl, h, CH, dx, _, _, rfl, eL h1 nhd, T.clH, T.nH, hF_held _ _ _, dl, od, _, rfl, lk, fun D hD => ?_⟩
    have kD : ∀ {b o}, HL b = some o → b ≠ D := fun e => ne_of_none e hD
    refine lc_it walk_values (fun i H' => (∀ b o, HL b = some o → H' b = some o) ∧ H' D = some (.lst (gV (((es.take i).filter fun e => e.waits).map (·.id))))) ⟨fun b o e => by rw [upd_ne (kD e)]; exact e, upd_same⟩ (fun i H' _ q => q.1 _ _ lk) ?_ ?_
    · rintro i x H0 H' hi ⟨k1, hD'⟩ ⟨rfl, key, hx⟩
      obtain ⟨e, he, rfl⟩ := kvs_at hx
      have hm : e ∈ es := List.mem_of_getElem? he
      obtain ⟨⟨dy, b1⟩, _⟩ := h4 e hm
      have b1' := k1 _ _ (eL b1 (ne_of b1 h3 (by intro z; cases z)))
      have nx := wait_next he
      refine ⟨rfl, _, rfl, e.ba, CB, dy, _, _, rfl, b1', T.clB, T.nBa, bF_waits e, _, rfl, if_b (fun z => ?_) fun z => ?_⟩
      · rw [if_pos z] at nx
        refine ⟨_, rfl, e.ba, CB, dy, _, _, rfl, b1', T.clB, T.nBn, bF_number e, _, hD', small1000 ?_, fun b o q => by rw [upd_ne (kD q)]; exact k1 b o q, ?_⟩
        · show (gV _).length ≤ 1000
          unfold gV
          rw [List.length_map, List.length_map]
          have a1 := List.length_filter_le (fun e : Ent => e.waits) (es.take i)
          rw [List.length_take] at a1
          omega
        · rw [upd_same, nx, gV_snoc]
      · rw [if_neg (by rw [z]; simp), List.append_nil] at nx
        exact ⟨k1, by rw [nx]; exact hD'⟩
    · rintro H' ⟨k1, hD'⟩
      have e0 : es.take (kvs es).length = es := by rw [show (kvs es).length = es.length from List.length_map _]; exact List.take_length
      rw [e0] at hD'
      refine ⟨k1 _ _ lk, ?_⟩
      have ndD : D ≠ dl := fun z => by rw [z, lk] at hD; cases hD
      refine k _ D (fun b o q => ?_) (nL hD) (by rw [upd_ne ndD]; exact hD')
      by_cases z : b = dl
      · subst z
        rw [h3] at q
        cases q
        exact upd_same
      · rw [upd_ne z]; exact k1 _ _ (eL q z)
theorem inR_at {es : List Ent} {r i : Nat} {x : V} (hi : ((inR es r).map fun e => V.ref e.ba)[i]? = some x) : ∃ e, (inR es r)[i]? = some e ∧ x = V.ref e.ba := by
  rw [List.getElem?_map] at hi
  cases q : (inR es r)[i]? with
  | none => rw [q] at hi; cases hi
  | some e => rw [q] at hi; cases hi; exact ⟨e, rfl, rfl⟩
/-! ### who has a room -/
def spWho (CH CB CP : Addr) : Sp := fun vs H Q _ => ∃ (h sl dl : Addr) (rooms : List Nat) (es : List Ent) (c r u : Nat), vs = [.ref h, .int r, .int u] ∧ HouseAt CH CB CP id H h sl dl rooms es c ∧ (∀ e ∈ es, RM.OkP e.plan) ∧ es.length ≤ 100 ∧
  ((∀ e ∈ inR es r, Cl05.takes e.plan u = false) → ∀ H', Same H H' → Q .non H') ∧ (∀ e ∈ inR es r, Cl05.takes e.plan u = true → ∀ H', Same H H' → Q (.ref e.ba) H')
abbrev s_House_who_has : Stmt := inClass (top 18) 9
theorem sc_House_who_has : FnScope ["self", "room", "moment", "booking"] ["self", "room", "moment"] (defScope s_House_who_has) := ⟨rfl, rfl, rfl, by decide +kernel, rfl, by decide +kernel, by decide +kernel⟩
theorem ok_House_who_has (F : Fun K "who_has" "House.who_has" s_House_who_has f fd) (T : TxH K mg CH CB) (DP2 : DPlan2 P w K mg base CP) (d_House_booked_in : DM P w K mg base CH "booked_in" 1 ["self", "room"] (spBookedIn FzU CH CB CP)) :
    FnOk P w K mg base CX0 4 f fd ["self", "room", "moment"] (spWho CH CB CP) := by
  have d_Plan_has_moment := DP2.has_moment
  refine F.ok sc_House_who_has (fun vs H Q E h => ?_) (fun cdv A outer s H vs Q E hr h => ?_)
  · obtain ⟨_, _, _, _, _, _, _, _, rfl, _⟩ := h
    rfl
  · obtain ⟨h, sl, dl, rooms, es, c, r, u, rfl, HA, oes, hlen, qN, qS⟩ := h
    obtain ⟨dx, h1⟩ := HA.ob
    refine ⟨_, (pss_cons (ps_for PassesOwn.never rfl (pi_list (md_of (pe_meth (pv 0) d_House_booked_in.cl d_House_booked_in.h d_House_booked_in.F (hr.mono (by decide)) d_House_booked_in.b .nil pass0 (pa_cons (pv 1) pa_nil)))) (pg_name (i := 3) sc_House_who_has.nd rfl (Or.inl rfl))
        (pss_one (ps_if (pt_val (md_of (pe_meth (pe_fld (pv 3) rfl) d_Plan_has_moment.cl d_Plan_has_moment.h d_Plan_has_moment.F (hr.mono (by decide)) d_Plan_has_moment.b .nil pass0 (pa_cons (pv 2) pa_nil))))
          (pss_one (ps_ret (pv 3)))
          pss_nil)))
      (pss_one (ps_ret pe_non))), ?_⟩
    refine ⟨_, rfl, h, dx, _, rfl, h1, hF_no _ _ _ (by decide +kernel), _, rfl, id, h, sl, dl, rooms, es, c, r, rfl, rfl, HA, hlen, fun H1 l s1 nl hl => ?_⟩
    refine ⟨l, rfl, ⟨_, SqL.of hl⟩, ?_⟩
    refine for_list (K := K) (a := l) (xs := (inR es r).map fun e => V.ref e.ba) (fun i σ H' => H' = H1 ∧ ∃ (v : Option V), σ = [some (.ref h), some (.int r), some (.int u), v] ∧ ∀ e ∈ (inR es r).take i, Cl05.takes e.plan u = false)
      ⟨rfl, none, rfl, fun e he => by cases he⟩ (fun i σ H' _ q => by rw [q.1]; exact SqL.of hl) ?_ ?_
    · rintro i x σ H' hi ⟨rfl, v, rfl, hn⟩
      obtain ⟨e, he, rfl⟩ := inR_at hi
      have hm' := List.mem_of_getElem? he
      have hm : e ∈ es := (mem_inR.mp hm').1
      obtain ⟨⟨dy, b1⟩, PE'⟩ := (HA.ents e hm).same s1
      obtain ⟨⟨dp, p1⟩, p2⟩ := id PE'
      refine ⟨_, rfl, e.ba, CB, dy, _, _, rfl, b1, T.clB, T.nBp, bF_plan e, e.pa, dp, _, rfl, p1, pF_no _ _ no_has_moment, _, rfl, e.pa, e.ga, e.plan, u, rfl, PE', oes e hm, _, rfl, if_b (fun z => ?_) fun z => ?_⟩
      · exact ⟨_, rfl, qS e hm' z _ s1⟩
      · refine ⟨rfl, _, rfl, fun e' he' => ?_⟩
        rw [take_next he] at he'
        rcases List.mem_append.mp he' with he' | he'
        · exact hn e' he'
        · rw [List.mem_singleton.mp he']; exact z
    · rintro σ H' ⟨rfl, v, rfl, hn⟩
      rw [List.length_map, List.take_length] at hn
      exact qN hn _ s1
/-! ### the next time -/
def nextL (es : List Ent) (u : Nat) : List (Nat × Nat) := es.filterMap fun e => (Cl05.nextOf e.plan u).map fun t => (t, e.id)
def spNextT (CH CB CP : Addr) : Sp := fun vs H Q _ => ∃ (h sl dl : Addr) (rooms : List Nat) (es : List Ent) (c r u : Nat), vs = [.ref h, .int r, .int u] ∧ HouseAt CH CB CP id H h sl dl rooms es c ∧ (∀ e ∈ es, RM.OkP e.plan) ∧ es.length ≤ 100 ∧
  ((∀ e ∈ inR es r, Cl05.nextOf e.plan u = none) → ∀ H', Same H H' → Q .non H') ∧
  (∀ (e : Ent) (t : Nat), e ∈ inR es r → Cl05.nextOf e.plan u = some t → (∀ e' ∈ inR es r, ∀ t', Cl05.nextOf e'.plan u = some t' → t ≤ t') → ∀ H' x, Same H H' → H' x = some (.tup [.int t, .int e.id]) → Q (.ref x) H')
theorem nextL_mem {es : List Ent} {u : Nat} {m : Nat × Nat} : m ∈ nextL es u ↔ ∃ e ∈ es, Cl05.nextOf e.plan u = some m.1 ∧ e.id = m.2 := by
  unfold nextL
  rw [List.mem_filterMap]
  constructor
  · rintro ⟨e, he, hm⟩
    obtain ⟨t, ht, rfl⟩ := Option.map_eq_some_iff.mp hm
    exact ⟨e, he, ht, rfl⟩
  · rintro ⟨e, he, ht, hid⟩
    refine ⟨e, he, ?_⟩
    rw [ht]
    show some (m.1, e.id) = some m
    rw [hid]
abbrev s_House_next_time : Stmt := inClass (top 18) 10
theorem sc_House_next_time : FnScope ["self", "room", "moment", "found", "booking", "begin"] ["self", "room", "moment"] (defScope s_House_next_time) := ⟨rfl, rfl, rfl, by decide +kernel, rfl, by decide +kernel, by decide +kernel⟩
theorem ok_House_next_time (F : Fun K "next_time" "House.next_time" s_House_next_time f fd) (T : TxH K mg CH CB) (DP2 : DPlan2 P w K mg base CP) (d_House_booked_in : DM P w K mg base CH "booked_in" 1 ["self", "room"] (spBookedIn FzU CH CB CP)) :
    FnOk P w K mg base CX0 4 f fd ["self", "room", "moment"] (spNextT CH CB CP) := by
  have d_Plan_next_beginning := DP2.next_beginning
  refine F.ok sc_House_next_time (fun vs H Q E h => ?_) (fun cdv A outer s H vs Q E hr h => ?_)
  · obtain ⟨_, _, _, _, _, _, _, _, rfl, _⟩ := h
    rfl
  · obtain ⟨h, sl, dl, rooms, es, c, r, u, rfl, HA, oes, hlen, qN, qS⟩ := h
    have hu := hu_of hr
    refine ⟨_, (pss_cons (ps_set (i := 3) sc_House_next_time.nd rfl (Or.inl rfl) (pe_lst pa_nil))
      (pss_cons (ps_for PassesOwn.never rfl (pi_list (md_of (pe_meth (pv 0) d_House_booked_in.cl d_House_booked_in.h d_House_booked_in.F (hr.mono (by decide)) d_House_booked_in.b .nil pass0 (pa_cons (pv 1) pa_nil)))) (pg_name (i := 4) sc_House_next_time.nd rfl (Or.inl rfl))
        (pss_cons (ps_set (i := 5) sc_House_next_time.nd rfl (Or.inl rfl) (md_of (pe_meth (pe_fld (pv 4) rfl) d_Plan_next_beginning.cl d_Plan_next_beginning.h d_Plan_next_beginning.F (hr.mono (by decide)) d_Plan_next_beginning.b .nil pass0 (pa_cons (pv 2) pa_nil))))
        (pss_one (ps_if (pt_cmpR op_notN (pv 5) pe_non (nomark _))
          (pss_one (ps_expr (pe_bm PySem.F.plainAttrs_list PySem.F.slot_list_append PySem.F.type_list_append mt_append (pv 3) (pa_cons (pe_tup (pa_cons (pv 5) (pa_cons (pe_fld (pv 4) rfl) pa_nil))) pa_nil))))
          pss_nil))))
      (pss_one (ps_ret (pe_callBK (cr_minPD rfl hu) (by rfl) T.b_min (by decide +kernel) (pa_cons (pv 3) pa_nil) (pk_cons pe_non pk_nil)))))), ?_⟩
    refine ⟨(by show 0 ≤ sizeLine; decide), fun fl hfl => ?_⟩
    have s1 : Same H (upd H fl (.lst [])) := fun b o e => by rw [upd_ne (ne_of_none e hfl)]; exact e
    have HA1 := HA.same s1
    obtain ⟨dx, h1⟩ := HA1.ob
    refine ⟨_, rfl, h, dx, _, rfl, h1, hF_no _ _ _ (by decide +kernel), _, rfl, id, h, sl, dl, rooms, es, c, r, rfl, rfl, HA1, hlen, fun H1 l s2 nl hl => ?_⟩
    have s12 : Same H H1 := fun b o e => s2 _ _ (s1 _ _ e)
    have hf1 : H1 fl = some (.lst []) := s2 _ _ upd_same
    have nlf : l ≠ fl := fun z => by rw [z, upd_same] at nl; cases nl
    have nF : ∀ {b o}, H b = some o → b ≠ fl := fun e => ne_of_none e hfl
    refine ⟨l, rfl, ⟨_, SqL.of hl⟩, ?_⟩
    refine for_list (K := K) (a := l) (xs := (inR es r).map fun e => V.ref e.ba) (fun i σ H' => Same H H' ∧ H' l = some (.lst ((inR es r).map fun e => V.ref e.ba)) ∧ ∃ (v b : Option V) (ts : List (Addr × Int × Int)), σ = [some (.ref h), some (.int r), some (.int u), some (.ref fl), v, b] ∧ PairsAt H' fl ts ∧ ts.map (·.2) = asI (nextL ((inR es r).take i) u))
      ⟨s12, hl, none, none, [], rfl, ⟨hf1, fun t ht => by cases ht⟩, rfl⟩ (fun i σ H' _ q => SqL.of q.2.1) ?_ ?_
    · rintro i x σ H' hi ⟨k1, k2, v, b, ts, rfl, PT, et⟩
      obtain ⟨e, he, rfl⟩ := inR_at hi
      have hm : e ∈ es := (mem_inR.mp (List.mem_of_getElem? he)).1
      obtain ⟨⟨dy, b1⟩, PE'⟩ := (HA.ents e hm).same k1
      obtain ⟨⟨dp, p1⟩, p2⟩ := id PE'
      have nx : nextL ((inR es r).take (i + 1)) u = nextL ((inR es r).take i) u ++ ((Cl05.nextOf e.plan u).map fun t => (t, e.id)).toList := by
        unfold nextL
        rw [take_next he, List.filterMap_append]
        congr 1
      have hil : i < (inR es r).length := (List.getElem?_eq_some_iff.mp he).1
      have hil2 := inR_len es r
      have hts : ts.length ≤ i := by
        have l1 := congrArg List.length et
        unfold asI nextL at l1
        rw [List.length_map, List.length_map] at l1
        have l2 := List.length_filterMap_le (fun e : Ent => (Cl05.nextOf e.plan u).map fun t => (t, e.id)) ((inR es r).take i)
        rw [List.length_take] at l2
        omega
      refine ⟨_, rfl, e.ba, CB, dy, _, _, rfl, b1, T.clB, T.nBp, bF_plan e, e.pa, dp, _, rfl, p1, pF_no _ _ no_next_beginning, _, rfl, e.pa, e.ga, e.plan, u, rfl, PE', oes e hm, ?_⟩
      cases em : Cl05.nextOf e.plan u with
      | none =>
        rw [em] at nx
        refine ⟨_, rfl, rfl, _, rfl, if_f rfl ?_⟩
        exact ⟨k1, k2, _, _, ts, rfl, PT, by rw [et, nx]; simp⟩
      | some m =>
        rw [em] at nx
        refine ⟨_, rfl, rfl, _, rfl, if_t rfl ?_⟩
        refine ⟨_, rfl, .inl ⟨rfl, _, SqL.of PT.ls⟩, _, rfl, _, rfl, e.ba, CB, dy, _, _, rfl, b1, T.clB, T.nBn, bF_number e, (by show 2 ≤ sizeLine; decide), fun t0 ht0 => ?_⟩
        have nft : fl ≠ t0 := ne_of_none PT.ls ht0
        refine ⟨fl, _, _, rfl, rfl, (by rw [upd_ne nft]; exact PT.ls), small1000 (by rw [List.length_map]; omega), ?_⟩
        refine ⟨fun b o q => ?_, ?_, _, _, ts ++ [(t0, (m : Int), (e.id : Int))], rfl, ⟨?_, fun t ht => ?_⟩, ?_⟩
        · have q' := k1 b o q
          rw [upd_ne (nF q), upd_ne (ne_of_none q' ht0)]
          exact q'
        · rw [upd_ne nlf, upd_ne (ne_of_none k2 ht0)]
          exact k2
        · rw [upd_same, List.map_append]
          rfl
        · rcases List.mem_append.mp ht with ht | ht
          · have q' := PT.tu t ht
            have n1 : t.1 ≠ fl := ne_of (PT.tu t ht) PT.ls (by intro z; cases z)
            rw [upd_ne n1, upd_ne (ne_of_none q' ht0)]
            exact q'
          · rw [List.mem_singleton] at ht
            subst ht
            rw [upd_ne nft.symm]
            exact upd_same
        · rw [List.map_append, et, nx]
          unfold asI
          rw [List.map_append]
          rfl
    · rintro σ H' ⟨k1, k2, v, b, ts, rfl, PT, et⟩
      rw [List.length_map, List.take_length] at et
      refine ⟨_, rfl, fl, ts, .non, rfl, rfl, SqL.of PT.ls, PT.tu, fun e0 => ?_, fun t ht hle => ?_⟩
      · refine qN (fun e he => ?_) _ k1
        rw [e0] at et
        unfold asI at et
        have en : nextL (inR es r) u = [] := List.map_eq_nil_iff.mp et.symm
        cases q : Cl05.nextOf e.plan u with
        | none => rfl
        | some t =>
          have : (t, e.id) ∈ nextL (inR es r) u := nextL_mem.mpr ⟨e, he, q, rfl⟩
          rw [en] at this
          cases this
      · have mem : ∀ {x : Int × Int}, x ∈ ts.map (·.2) → ∃ m ∈ nextL (inR es r) u, x = ((m.1 : Int), (m.2 : Int)) := fun {x} hx => by
          rw [et] at hx
          unfold asI at hx
          obtain ⟨m, hm, rfl⟩ := List.mem_map.mp hx
          exact ⟨m, hm, rfl⟩
        obtain ⟨m, hm, em⟩ := mem (List.mem_map.mpr ⟨t, ht, rfl⟩)
        obtain ⟨e, he, hn, hid⟩ := nextL_mem.mp hm
        refine qS e m.1 he hn (fun e' he' t' ht' => ?_) _ t.1 k1 ?_
        · have hx : ((t' : Int), (e'.id : Int)) ∈ ts.map (·.2) := by
            rw [et]
            unfold asI
            exact List.mem_map.mpr ⟨(t', e'.id), nextL_mem.mpr ⟨e', he', ht', rfl⟩, rfl⟩
          obtain ⟨q, hq, eq⟩ := List.mem_map.mp hx
          have := hle q hq
          have a1 : t.2.1 = (m.1 : Int) := by rw [em]
          have a2 : q.2.1 = (t' : Int) := by rw [eq]
          omega
        · have := PT.tu t ht
          rw [em] at this
          rw [hid]
          exact this
/-! ### how many minutes -/
def spMinU (CH CB CP : Addr) : Sp := fun vs H Q _ => ∃ (h sl dl : Addr) (rooms : List Nat) (es : List Ent) (c r u t : Nat), vs = [.ref h, .int r, .int u, .int t] ∧ HouseAt CH CB CP id H h sl dl rooms es c ∧ (∀ e ∈ es, RM.OkP e.plan) ∧ es.length ≤ 100 ∧
  ∀ H', Same H H' → Q (.int (((inR es r).map fun e => (Cl05.usedBy e.plan u t : Int)).sum)) H'
abbrev s_House_minutes_used : Stmt := inClass (top 18) 11
theorem sc_House_minutes_used : FnScope ["self", "room", "moment", "until", "booking"] ["self", "room", "moment", "until"] (defScope s_House_minutes_used) := ⟨rfl, rfl, rfl, by decide +kernel, rfl, by decide +kernel, by decide +kernel⟩
theorem ok_House_minutes_used (F : Fun K "minutes_used" "House.minutes_used" s_House_minutes_used f fd) (T : TxH K mg CH CB) (DP2 : DPlan2 P w K mg base CP) (d_House_booked_in : DM P w K mg base CH "booked_in" 1 ["self", "room"] (spBookedIn FzU CH CB CP)) :
    FnOk P w K mg base CX0 4 f fd ["self", "room", "moment", "until"] (spMinU CH CB CP) := by
  have d_Plan_minutes_had := DP2.minutes_had
  refine F.ok sc_House_minutes_used (fun vs H Q E h => ?_) (fun cdv A outer s H vs Q E hr h => ?_)
  · obtain ⟨_, _, _, _, _, _, _, _, _, rfl, _⟩ := h
    rfl
  · obtain ⟨h, sl, dl, rooms, es, c, r, u, t, rfl, HA, oes, hlen, k⟩ := h
    obtain ⟨dx, h1⟩ := HA.ob
    refine ⟨_, pss_one (ps_ret (pe_callB (cr_sum rfl) (by rfl) T.b_sum (by decide +kernel) (pa_cons (pe_lc (own := [("booking", 4)]) (g := gName 4) (tt := tYes) (te := tMD CP "minutes_had" (spMinutes CP) (tFld K (tVar 4) "plan") (tCons (tVar 2) (tCons (tVar 3) tNil))) (by rfl) sc_House_minutes_used.nd
        (pi_list (md_of (pe_meth (pv 0) d_House_booked_in.cl d_House_booked_in.h d_House_booked_in.F (hr.mono (by decide)) d_House_booked_in.b .nil pass0 (pa_cons (pv 1) pa_nil))))
        (blkOk_by (own := [("booking", 4)]) (N := ["self", "room", "moment", "until", "booking"]) (sc := defScope s_House_minutes_used) (by decide +kernel)) (fun _ _ _ _ _ => by exact pg_name (i := 4) sc_House_minutes_used.nd rfl (Or.inl rfl))
        (fun _ _ _ _ _ => by exact pts_nil) (fun _ _ _ _ _ => by exact md_of (pe_meth (pe_fld (pv 4) rfl) d_Plan_minutes_had.cl d_Plan_minutes_had.h d_Plan_minutes_had.F (hr.mono (by decide)) d_Plan_minutes_had.b .nil pass0 (pa_cons (pv 2) (pa_cons (pv 3) pa_nil))))) pa_nil))), ?_⟩
    refine ⟨_, rfl, h, dx, _, rfl, h1, hF_no _ _ _ (by decide +kernel), _, rfl, id, h, sl, dl, rooms, es, c, r, rfl, rfl, HA, hlen, fun H1 l s1 nl hl => ?_⟩
    refine ⟨l, rfl, ⟨_, SqL.of hl⟩, fun D hD => ?_⟩
    have kD : ∀ {b o}, H1 b = some o → b ≠ D := fun e => ne_of_none e hD
    refine lc_list (K := K) (a := l) (xs := (inR es r).map fun e => V.ref e.ba) (fun i H' => Same H1 H' ∧ H' D = some (.lst ((((inR es r).take i).map fun e => (Cl05.usedBy e.plan u t : Int)).map V.int))) ⟨fun b o e => by rw [upd_ne (kD e)]; exact e, upd_same⟩ (fun i H' _ q => SqL.of (q.1 _ _ hl)) ?_ ?_
    · rintro i x H' hi ⟨k1, hD'⟩
      obtain ⟨e, he, rfl⟩ := inR_at hi
      have hm : e ∈ es := (mem_inR.mp (List.mem_of_getElem? he)).1
      obtain ⟨⟨dy, b1⟩, PE'⟩ := ((HA.ents e hm).same s1).same k1
      obtain ⟨⟨dp, p1⟩, p2⟩ := id PE'
      have hil : i < (inR es r).length := (List.getElem?_eq_some_iff.mp he).1
      have hil2 := inR_len es r
      refine ⟨rfl, _, rfl, e.ba, CB, dy, _, _, rfl, b1, T.clB, T.nBp, bF_plan e, e.pa, dp, _, rfl, p1, pF_no _ _ no_minutes_had, _, rfl, _, rfl, e.pa, e.ga, e.plan, u, t, rfl, PE', oes e hm, _, hD', small1000 ?_, fun b o q => by rw [upd_ne (kD q)]; exact k1 b o q, ?_⟩
      · rw [List.length_map, List.length_map, List.length_take]
        omega
      · rw [upd_same, take_next he, List.map_append, List.map_append]
        rfl
    · rintro H' ⟨k1, hD'⟩
      rw [List.length_map, List.take_length] at hD'
      exact ⟨D, _, rfl, SqL.of hD', k H' fun b o q => k1 _ _ (s1 _ _ q)⟩
structure DHouse2 (P : Program) (w : World) (K : PySem.W.Frag) (mg : Str → Option Value) (base : Heap) (CH CB CP : Addr) : Prop where
  waiting : DM P w K mg base CH "waiting" 1 ["self"] (spWaiting CH CB CP)
  who_has : DM P w K mg base CH "who_has" 4 ["self", "room", "moment"] (spWho CH CB CP)
  next_time : DM P w K mg base CH "next_time" 4 ["self", "room", "moment"] (spNextT CH CB CP)
  minutes_used : DM P w K mg base CH "minutes_used" 4 ["self", "room", "moment", "until"] (spMinU CH CB CP)
end
end R
end

section
set_option maxRecDepth 100000
set_option maxHeartbeats 4000000
namespace R
open PySem PySem.Spec PyProof.Rows L2
/-! ### who waits is served: one walk over all -/
def Ent.freed (e : Ent) : Ent := { e with waits := false }
def serveGo : List Ent → List Ent → List Ent × List Nat
  | done, [] => (done, [])
  | done, e :: rest => if (e.waits && fitsE (done ++ e :: rest) e.room e.plan) = true then
      ((serveGo (done ++ [e.freed]) rest).1, e.id :: (serveGo (done ++ [e.freed]) rest).2) else serveGo (done ++ [e]) rest
/-- the keys are apart -/
def Ids (es : List Ent) : Prop := (es.map (·.id)).Nodup
section
variable {P : Program} {w : World} {K : PySem.W.Frag} {mg : Str → Option Value} {base : Heap} {CH CB CP f : Addr} {fd : FuncData}
theorem bF_pF (e : Ent) (p : Cl05.Plan) (g : Addr) : pF p g ≠ bF e := fun z => by
  have h := congrArg (fun l => (l.map (·.1)).head?) z
  exact absurd h (by show ¬ (some ("first" : Str) = some ("number" : Str)); decide +kernel)
theorem bF_ne {e e' : Ent} (h : e.id ≠ e'.id) : bF e ≠ bF e' := fun z => by
  unfold bF at z
  injection z with z1 _
  injection z1 with _ z2
  injection z2 with z3
  omega
/-- one booking changes from waiting to booked; all else of the house stands -/
theorem HouseAt.free {fz : HO → HO} {H : Hp} {h sl dl : Addr} {rooms : List Nat} {done rest : List Ent} {e : Ent} {c : Nat} (A : HouseAt CH CB CP fz H h sl dl rooms (done ++ e :: rest) c) (hi : Ids (done ++ e :: rest)) (nd : ∀ C d fs, fz (.dK (kvs (done ++ e :: rest))) ≠ .ins C d fs) :
    ∃ dy, H e.ba = some (.ins CB dy (bF e)) ∧ HouseAt CH CB CP fz (upd H e.ba (.ins CB dy (bF e.freed))) h sl dl rooms (done ++ e.freed :: rest) c := by
  obtain ⟨⟨dx, h1⟩, h2, h3, h4⟩ := A
  obtain ⟨⟨dy, b1⟩, bp⟩ := h4 e (List.mem_append_right _ List.mem_cons_self)
  refine ⟨dy, b1, ⟨dx, ?_⟩, ?_, ?_, fun e' he' => ?_⟩
  · rw [upd_ne (ne_of h1 b1 fun z => bF_hF e sl dl c (by injection z with _ _ z; exact z.symm))]; exact h1
  · rw [upd_ne (ne_of h2 b1 (by intro z; cases z))]; exact h2
  · rw [upd_ne (ne_of h3 b1 (nd _ _ _)), h3]
    unfold kvs
    rw [List.map_append, List.map_append]
    rfl
  · have pl : ∀ {p g q}, PlanAt CP H p g q → PlanAt CP (upd H e.ba (.ins CB dy (bF e.freed))) p g q := fun ⟨⟨d2, q2⟩, q3⟩ =>
      ⟨⟨d2, by rw [upd_ne (ne_of q2 b1 fun z => bF_pF e _ _ (by injection z))]; exact q2⟩, by rw [upd_ne (ne_of q3 b1 (by intro z; cases z))]; exact q3⟩
    have hid := hi
    unfold Ids at hid
    rw [List.map_append, List.nodup_append] at hid
    obtain ⟨n1, n2, n3⟩ := hid
    rw [List.map_cons, List.nodup_cons] at n2
    have other : ∀ x, x ∈ done ++ e :: rest → x.id ≠ e.id → EntAt CB CP (upd H e.ba (.ins CB dy (bF e.freed))) x := fun x hx hne => by
      obtain ⟨⟨d1, q1⟩, q2⟩ := h4 x hx
      exact ⟨⟨d1, by rw [upd_ne (ne_of q1 b1 fun z => bF_ne hne (by injection z))]; exact q1⟩, pl q2⟩
    rcases List.mem_append.mp he' with he' | he'
    · exact other e' (List.mem_append_left _ he') fun z => n3 e'.id (List.mem_map.mpr ⟨e', he', rfl⟩) e.id (by simp) z
    · rcases List.mem_cons.mp he' with rfl | he'
      · exact ⟨⟨dy, upd_same⟩, pl bp⟩
      · exact other e' (List.mem_append_right _ (List.mem_cons_of_mem _ he')) fun z => n2.1 (List.mem_map.mpr ⟨e', he', z⟩)
def spServe (CH CB CP : Addr) : Sp := fun vs H Q _ => ∃ (h sl dl : Addr) (rooms : List Nat) (es : List Ent) (c : Nat), vs = [.ref h] ∧ HouseAt CH CB CP id H h sl dl rooms es c ∧ Ids es ∧ (∀ e ∈ es, RM.OkP e.plan) ∧ es.length ≤ 100 ∧
  ∀ (H' : Hp) (l : Addr), H l = none → HouseAt CH CB CP id H' h sl dl rooms (serveGo [] es).1 c → H' l = some (.lst (gV (serveGo [] es).2)) → (∀ x o, H x = some o → (∀ e ∈ es, x ≠ e.ba) → H' x = some o) → Q (.ref l) H'
theorem kvs_free (done rest : List Ent) (e : Ent) : kvs (done ++ e.freed :: rest) = kvs (done ++ e :: rest) := by
  unfold kvs
  rw [List.map_append, List.map_append]
  rfl
abbrev s_House_serve : Stmt := inClass (top 18) 16
theorem sc_House_serve : FnScope ["self", "served", "booking"] ["self"] (defScope s_House_serve) := ⟨rfl, rfl, rfl, by decide +kernel, rfl, by decide +kernel, by decide +kernel⟩
theorem ok_House_serve (F : Fun K "serve" "House.serve" s_House_serve f fd) (T : TxH K mg CH CB) (d_House_fits : DM P w K mg base CH "fits" 5 ["self", "room", "plan"] (spFits FzL CH CB CP)) :
    FnOk P w K mg base CX0 6 f fd ["self"] (spServe CH CB CP) := by
  refine F.ok sc_House_serve (fun vs H Q E h => ?_) (fun cdv A outer s H vs Q E hr h => ?_)
  · obtain ⟨_, _, _, _, _, _, rfl, _⟩ := h
    rfl
  · obtain ⟨h, sl, dl, rooms, es, c, rfl, HA, hids, oes, hlen, k⟩ := h
    obtain ⟨⟨dx, h1⟩, h2, h3, h4⟩ := id HA
    replace h3 : H dl = some (.dK (kvs es)) := h3
    refine ⟨_, (pss_cons (ps_set (i := 1) sc_House_serve.nd rfl (Or.inl rfl) (pe_lst pa_nil))
      (pss_cons (ps_lock (ps_for PassesOwn.never rfl (pi_values (pe_fld (pv 0) rfl)) (pg_name (i := 2) sc_House_serve.nd rfl (Or.inl rfl))
        (pss_one (ps_if (PW.pt (pw_and (pt_val (pe_fld (pv 2) rfl)) (pw_and1 (pt_val (md_of (pe_meth (pv 0) d_House_fits.cl d_House_fits.h d_House_fits.F (hr.mono (by decide)) d_House_fits.b .nil pass0 (pa_cons (pe_fld (pv 2) rfl) (pa_cons (pe_fld (pv 2) rfl) pa_nil))))))))
          (pss_cons (ps_fld (pv 2) pe_bl rfl)
          (pss_one (ps_expr (pe_bm PySem.F.plainAttrs_list PySem.F.slot_list_append PySem.F.type_list_append mt_append (pv 1) (pa_cons (pe_fld (pv 2) rfl) pa_nil)))))
          pss_nil))))
      (pss_one (ps_ret (pv 1))))), ?_⟩
    -- served = []
    refine ⟨(by show 0 ≤ sizeLine; decide), fun ol hol => ?_⟩
    have ndo : dl ≠ ol := ne_of_none h3 hol
    have nhd : h ≠ dl := ne_of h1 h3 (by intro z; cases z)
    have s1 : ∀ {b o}, H b = some o → (upd H ol (.lst [])) b = some o := fun e => by rw [upd_ne (ne_of_none e hol)]; exact e
    have ngo : ∀ e ∈ es, e.ga ≠ ol := fun e he => ne_of_none (h4 e he).pl.gu hol
    refine ⟨dl, .dK (kvs es), s1 h3, trivial, fun od => ?_⟩
    have eL : ∀ {b o}, H b = some o → b ≠ dl → (upd (upd H ol (.lst [])) dl (.frz od (.dK (kvs es)))) b = some o := fun e hb => by rw [upd_ne hb]; exact s1 e
    refine ⟨_, rfl, h, CH, dx, _, _, rfl, eL h1 nhd, T.clH, T.nH, hF_held _ _ _, dl, od, _, rfl, upd_same, ?_⟩
    refine for_it walk_values (fun i σ H' => ∃ (v : Option V) (done : List Ent) (out : List Nat), σ = [some (.ref h), some (.ref ol), v] ∧ done.length = i ∧ (∀ e ∈ done, RM.OkP e.plan ∧ e.ga ≠ ol) ∧ HouseAt CH CB CP (.frz od) H' h sl dl rooms (done ++ es.drop i) c ∧ kvs (done ++ es.drop i) = kvs es ∧
        Ids (done ++ es.drop i) ∧ H' ol = some (.lst (gV out)) ∧ out.length ≤ i ∧ serveGo [] es = ((serveGo done (es.drop i)).1, out ++ (serveGo done (es.drop i)).2) ∧ (∀ x o, H x = some o → x ≠ dl → (∀ e ∈ es, x ≠ e.ba) → H' x = some o))
      ⟨none, [], [], rfl, rfl, (fun e he => by cases he), ⟨⟨dx, eL h1 nhd⟩, eL h2 (ne_of h2 h3 (by intro z; cases z)), upd_same, fun e he => ?_⟩, rfl, hids, (by rw [upd_ne ndo.symm]; exact upd_same), Nat.le_refl _, rfl, fun x o e hx _ => eL e hx⟩
      (fun i σ H' _ ⟨_, done, _, _, _, _, q, ek, _⟩ => by have := q.held; rw [ek] at this; exact this) ?_ ?_
    · obtain ⟨⟨d1, q1⟩, ⟨⟨d2, q2⟩, q3⟩⟩ := h4 e he
      exact ⟨⟨d1, eL q1 (ne_of q1 h3 (by intro z; cases z))⟩, ⟨d2, eL q2 (ne_of q2 h3 (by intro z; cases z))⟩, eL q3 (ne_of q3 h3 (by intro z; cases z))⟩
    · rintro i x σ H0 H' hi ⟨v, done, out, rfl, hdl, odone, HA', ek, hid', ho, hol', eS, kp⟩ ⟨rfl, key, hx⟩
      have hil : i < es.length := by rw [show (kvs es).length = es.length from List.length_map _] at hi; exact hi
      obtain ⟨e, he⟩ : ∃ e, es[i]? = some e := ⟨_, List.getElem?_eq_getElem hil⟩
      have ed : es.drop i = e :: es.drop (i + 1) := by
        rw [List.drop_eq_getElem_cons hil]
        congr 1
        exact Option.some.inj ((List.getElem?_eq_getElem hil).symm.trans he)
      have hx' : x = V.ref e.ba := by
        have : (kvs es)[i]? = some (Sum.inl (e.id : Int), V.ref e.ba) := by unfold kvs; rw [List.getElem?_map, he]; rfl
        rw [this] at hx
        cases hx
        rfl
      subst hx'
      rw [ed] at HA' ek hid' eS
      have hm : e ∈ es := List.mem_of_getElem? he
      obtain ⟨⟨dy, b1⟩, bp⟩ := HA'.ents e (List.mem_append_right _ List.mem_cons_self)
      obtain ⟨dh, hh⟩ := HA'.ob
      have ok' : ∀ x ∈ done ++ e :: es.drop (i + 1), RM.OkP x.plan := fun x hx => by
        rcases List.mem_append.mp hx with hx | hx
        · exact (odone x hx).1
        · rw [← ed] at hx; exact oes x (List.mem_of_mem_drop hx)
      have len' : (done ++ e :: es.drop (i + 1)).length ≤ 100 := by
        rw [List.length_append, hdl, ← ed, List.length_drop]
        omega
      refine ⟨_, rfl, e.ba, CB, dy, _, _, rfl, b1, T.clB, T.nBa, bF_waits e, _, rfl, if_b (fun z1 => ?_) fun z1 => ?_⟩
      · refine ⟨_, rfl, h, dh, _, rfl, hh, hF_no _ _ _ (by decide +kernel), _, rfl, e.ba, CB, dy, _, _, rfl, b1, T.clB, T.nBr, bF_room e, _, rfl, e.ba, CB, dy, _, _, rfl, b1, T.clB, T.nBp, bF_plan e, .frz od, h, sl, dl, e.pa, e.ga, rooms, done ++ e :: es.drop (i + 1), c, e.room, e.plan, rfl, ⟨od, rfl⟩, HA', bp, oes e hm, ok', len', fun H2 s2 => ?_⟩
        refine ⟨_, rfl, if_b (fun z2 => ?_) fun z2 => ?_⟩
        · -- it fits: it waits no more
          have HA2 := HA'.same s2
          obtain ⟨dz, c1, HA3⟩ := HouseAt.free HA2 hid' (by intro C d fs z; cases z)
          refine ⟨_, rfl, e.ba, CB, dz, _, rfl, c1, T.clB, T.nBa, (by show 5 < 1000; decide), ?_⟩
          rw [bF_free]
          have hob : (upd H2 e.ba (.ins CB dz (bF e.freed))) ol = some (.lst (gV out)) := by rw [upd_ne (ne_of (s2 _ _ ho) c1 (by intro z; cases z))]; exact s2 _ _ ho
          refine ⟨_, rfl, .inl ⟨rfl, _, SqL.of hob⟩, _, rfl, e.ba, CB, dz, _, _, rfl, upd_same, T.clB, T.nBn, bF_number e.freed, ol, _, _, rfl, rfl, hob, small1000 (by rw [show (gV out).length = out.length from List.length_map _]; omega), ?_⟩
          have eo : gV out ++ [V.int (e.freed.id : Int)] = gV (out ++ [e.id]) := gV_snoc out e.id
          rw [eo]
          have eg : serveGo done (e :: es.drop (i + 1)) = ((serveGo (done ++ [e.freed]) (es.drop (i + 1))).1, e.id :: (serveGo (done ++ [e.freed]) (es.drop (i + 1))).2) := by
            rw [serveGo, if_pos (by rw [z1, z2]; rfl)]
          refine ⟨_, done ++ [e.freed], out ++ [e.id], rfl, by rw [List.length_append, hdl]; rfl, fun x hx => ?_, ?_, ?_, ?_, upd_same, by rw [List.length_append]; show out.length + 1 ≤ i + 1; omega, ?_, fun x o q hx hb => ?_⟩
          · rcases List.mem_append.mp hx with hx | hx
            · exact odone x hx
            · rw [List.mem_singleton] at hx; subst hx; exact ⟨oes e hm, ngo e hm⟩
          · rw [List.append_assoc]
            obtain ⟨⟨d5, a1⟩, a2, a3, a4⟩ := HA3
            refine ⟨⟨d5, ?_⟩, ?_, ?_, fun x hx => ?_⟩
            · rw [upd_ne (ne_of a1 hob (by intro z; cases z))]; exact a1
            · rw [upd_ne (fun z => ?_)]; exact a2
              rw [z] at h2
              rw [h2] at hol
              cases hol
            · rw [upd_ne ndo]; exact a3
            · obtain ⟨⟨d6, q1⟩, ⟨⟨d7, q2⟩, q3⟩⟩ := a4 x hx
              refine ⟨⟨d6, by rw [upd_ne (ne_of q1 hob (by intro z; cases z))]; exact q1⟩, ⟨d7, by rw [upd_ne (ne_of q2 hob (by intro z; cases z))]; exact q2⟩, ?_⟩
              rw [upd_ne]; exact q3
              rcases List.mem_append.mp hx with hx | hx
              · exact (odone x hx).2
              · rcases List.mem_cons.mp hx with rfl | hx
                · exact ngo e hm
                · exact ngo x (List.mem_of_mem_drop hx)
          · rw [List.append_assoc]; exact (kvs_free _ _ _).trans ek
          · rw [List.append_assoc]
            unfold Ids at hid' ⊢
            rw [List.map_append] at hid' ⊢
            exact hid'
          · rw [eS, eg, List.append_assoc]; rfl
          · rw [upd_ne (ne_of_none q hol), upd_ne (hb e hm)]
            exact s2 _ _ (kp x o q hx hb)
        · have eg : serveGo done (e :: es.drop (i + 1)) = serveGo (done ++ [e]) (es.drop (i + 1)) := by
            rw [serveGo, if_neg (by rw [z2, Bool.and_false]; decide)]
          refine ⟨_, done ++ [e], out, rfl, by rw [List.length_append, hdl]; rfl, fun x hx => ?_, ?_, ?_, ?_, s2 _ _ ho, by omega, by rw [eS, eg], fun x o q hx hb => s2 _ _ (kp x o q hx hb)⟩
          · rcases List.mem_append.mp hx with hx | hx
            · exact odone x hx
            · rw [List.mem_singleton] at hx; subst hx; exact ⟨oes _ hm, ngo _ hm⟩
          · rw [List.append_assoc]; exact HA'.same s2
          · rw [List.append_assoc]; exact ek
          · rw [List.append_assoc]; exact hid'
      · have eg : serveGo done (e :: es.drop (i + 1)) = serveGo (done ++ [e]) (es.drop (i + 1)) := by
          rw [serveGo, if_neg (by rw [z1, Bool.false_and]; decide)]
        refine ⟨_, done ++ [e], out, rfl, by rw [List.length_append, hdl]; rfl, fun x hx => ?_, ?_, ?_, ?_, ho, by omega, by rw [eS, eg], fun x o q hx hb => kp x o q hx hb⟩
        · rcases List.mem_append.mp hx with hx | hx
          · exact odone x hx
          · rw [List.mem_singleton] at hx; subst hx; exact ⟨oes _ hm, ngo _ hm⟩
        · rw [List.append_assoc]; exact HA'
        · rw [List.append_assoc]; exact ek
        · rw [List.append_assoc]; exact hid'
    · rintro σ H' ⟨v, done, out, rfl, hdl, odone, HA', ek, hid', ho, hol', eS, kp⟩
      have e0 : es.drop (kvs es).length = [] := by rw [show (kvs es).length = es.length from List.length_map _]; exact List.drop_length
      rw [e0, List.append_nil] at HA' ek hid'
      rw [e0] at eS
      have eS' : serveGo [] es = (done, out) := by rw [eS]; show (done, out ++ []) = _; rw [List.append_nil]
      refine ⟨by have := HA'.held; rw [ek] at this; exact this, _, rfl, ?_⟩
      rw [eS'] at k
      obtain ⟨⟨d5, a1⟩, a2, a3, a4⟩ := HA'
      have nd : ∀ {b o}, H' b = some o → o ≠ .frz od (.dK (kvs done)) → (upd H' dl (.dK (kvs es))) b = some o := fun e hne => by rw [upd_ne (ne_of e a3 hne)]; exact e
      refine k _ ol hol ⟨⟨d5, nd a1 (by intro z; cases z)⟩, nd a2 (by intro z; cases z), by rw [ek]; exact upd_same, fun x hx => ?_⟩ (nd ho (by intro z; cases z)) fun x o q hb => ?_
      · obtain ⟨⟨d6, q1⟩, ⟨⟨d7, q2⟩, q3⟩⟩ := a4 x hx
        exact ⟨⟨d6, nd q1 (by intro z; cases z)⟩, ⟨d7, nd q2 (by intro z; cases z)⟩, nd q3 (by intro z; cases z)⟩
      · by_cases z : x = dl
        · subst z
          rw [h3] at q
          cases q
          exact upd_same
        · rw [upd_ne z]; exact kp x o q z hb
end
end R
end

section
set_option maxRecDepth 100000
set_option maxHeartbeats 4000000
namespace R
open PySem PySem.Spec PyProof.Rows L2
/-! ### sorted(xs, key=f) of whole numbers, f a def that gives a pair of whole numbers and may look at all that is tracked -/
def pd (k : Int × Int) : PyData := .tuple [.int k.1, .int k.2]
theorem reads_pair {P : Program} {w : World} {H : Hp} {h : Heap} (hok : HOk P w H h) {t : Addr} {x y : Int} (e : H t = some (.tup [.int x, .int y])) : Reads h (.ref t) (pd (x, y)) [] := by
  obtain ⟨_, its, r, o, ho, hc, n, hd⟩ := hok t _ e
  obtain ⟨u1, u2, rfl, ri, rj⟩ := vals2 r
  obtain ⟨t1, rfl⟩ := ri
  obtain ⟨t2, rfl⟩ := rj
  exact .tuple ho hc hd (.cons (.int _ _) (.cons (.int _ _) .nil))
section
variable {X : Cx} {pins : List (Addr × Obj)} {σ : L2.St} {H : Hp} {s : Shared}
/-- an address of ours: no frame, no cell, no pin -/
structure Ours (X : Cx) (pins : List (Addr × Obj)) (b : Addr) : Prop where
  lo : b ≠ X.env.locals
  up : X.s_0.heap.objs.size ≤ b
  ce : ∀ x c, X.env.cells.lookup x = some c → c ≠ b
  pi : ∀ p ∈ X.pn ++ pins, p.1 ≠ b
  fr : b ∉ frs X.stack
theorem ours_of (I : L2.Inv X pins σ H s) {b : Addr} (h : s.heap.objs.size ≤ b) : Ours X pins b := by
  refine ⟨fun z => ?_, Nat.le_trans I.sz h, fun x c e z => ?_, fun p hp z => ?_, fun z => ?_⟩
  · have := I.lt
    rw [← z] at this
    exact absurd h (Nat.not_le_of_lt this)
  · obtain ⟨v, o, ho, _⟩ := I.cell x c e
    have := Heap.lt_size ho
    rw [z] at this
    exact absurd h (Nat.not_le_of_lt this)
  · have := Heap.lt_size (I.pin p hp).1
    rw [z] at this
    exact absurd h (Nat.not_le_of_lt this)
  · rcases List.mem_cons.mp (I.stkSub _ z) with e | e
    · have := I.lt
      rw [← e] at this
      exact absurd h (Nat.not_le_of_lt this)
    · exact I.nofs h e
def Run (X : Cx) (pins : List (Addr × Obj)) (σ : L2.St) (H : Hp) (A : Around) (G : Hp → Shared → Prop) (f : Value) (k : Int → Int × Int) (ns : List Int) : Prop :=
  ∀ n, n ∈ ns → ∀ (Hi : Hp) (si : Shared) (t : Tok), L2.Inv X pins σ Hi si → (∀ b o, H b = some o → Hi b = some o) → G Hi si →
    wpAny (model X.prog X.w) A (call f [.int n t]) (fun v s' => ∃ (p : Addr) (H' : Hp), v = .ref p ∧ L2.Inv X pins σ H' s' ∧ (∀ b o, Hi b = some o → H' b = some o) ∧ H' p = some (.tup [.int (k n).1, .int (k n).2]) ∧ G H' s' ∧
      ∀ b o, si.heap.get? b = some o → Hi b = none → b ∉ frs X.stack → s'.heap.get? b = some o ∧ H' b = none) (fun _ _ => False) si
theorem key_rest {a kS : Addr} {f : Value} {vs : List Value} {ns : List Int} {e1 : Nat} {A : Around} {P : PySem.Fin → Shared → Prop} {E : Value → Shared → Prop} {k : Int → Int × Int} {G : Hp → Shared → Prop}
    (I : L2.Inv X pins σ H s) (fa : Ours X pins a) (fk : Ours X pins kS) (hka : kS ≠ a) (Ha : H a = none) (Hk : H kS = none) (oa : s.heap.get? a = some (seqObj "list" #[] e1)) (ok : s.heap.get? kS = some (seqObj "list" #[] 0))
    (hi : IntsAre vs ns) (hZ : vs.length ≤ sizeLine) (hu : A.units + 10 < cLine) (g0 : G H s)
    (gS : ∀ (Hi : Hp) (si : Shared) (h' : Heap) (tk : Nat), G Hi si → (∀ b o, b ≠ kS → si.heap.get? b = some o → h'.get? b = some o) → G Hi { si with heap := h', toks := tk })
    (turn : Run X pins σ H A G f k ns)
    (h : ∀ (H' : Hp) (s' : Shared) (ns' : List Int), L2.Inv X pins σ (upd H' a (.lst (ns'.map V.int))) s' → (∀ b o, H b = some o → H' b = some o) → H' a = none → ns' = ns.mergeSort (PySem.W.dataLe false fun n => pd (k n)) → P (.done (.ret .none)) s') :
    wpAny (model X.prog X.w) A (ksk_rest a f false vs.toArray e1 (.ref kS)) P E s := by
  have hlen := hi.length
  unfold ksk_rest
  refine wpAny_bind (wpAny_rule ?_)
  rw [List.forIn_toArray]
  refine wpAny_bind (ksk_fold (fun i s' => ∃ (Hi : Hp) (kA : Array Value) (e : Nat), L2.Inv X pins σ Hi s' ∧ (∀ b o, H b = some o → Hi b = some o) ∧ G Hi s' ∧ Hi a = none ∧ Hi kS = none ∧ s'.heap.get? a = some (seqObj "list" #[] e1) ∧ s'.heap.get? kS = some (seqObj "list" kA e) ∧
      PySem.W.EachIs (fun (v : Value) (n : Int) => ∃ t, v = .ref t ∧ Hi t = some (.tup [.int (k n).1, .int (k n).2])) kA.toList (ns.take i)) vs 0 s
    ⟨H, #[], 0, I, fun _ _ q => q, g0, Ha, Hk, oa, ok, by rw [List.take_zero]; exact .nil⟩ ?step ?done)
  case step =>
    rintro j x s' hx ⟨Hi, kA, e, I1, sub, g1, na, nk, oa1, ok1, hk⟩
    simp only [Nat.zero_add] at hk ⊢
    have hj : j < vs.length := (List.getElem?_eq_some_iff.mp hx).1
    obtain ⟨n, hn⟩ : ∃ n, ns[j]? = some n := ⟨_, List.getElem?_eq_getElem (by omega)⟩
    obtain ⟨t, rfl⟩ : ∃ t, x = .int n t := by
      obtain ⟨u, e2, ru⟩ := Vals.get (i := j) (x := V.int n) (vals_of_ints hi) (by rw [List.getElem?_map, hn]; rfl)
      rw [hx] at e2
      cases e2
      exact ru
    have hz : kA.size ≤ vs.length := by
      have h1 := hk.length
      rw [Array.length_toList, List.length_take] at h1
      omega
    refine wpAny_bind (wpAny_attempt (wpAny_mono (turn n (List.mem_of_getElem? hn) Hi s' t I1 sub g1) (fun v s'' he => ?_) fun _ _ hF => hF.elim))
    obtain ⟨p, H2, rfl, I2, sub2, hp, g2, kp2⟩ := he
    obtain ⟨oa2, na2⟩ := kp2 a _ oa1 na fa.fr
    obtain ⟨ok2, nk2⟩ := kp2 kS _ ok1 nk fk.fr
    dsimp only
    have s1 := Heap.SameBut.update s''.heap kS (Obj.mapSeq (·.push (.ref p)))
    obtain ⟨c2, hc2⟩ : ∃ c2, (s''.heap.update kS (Obj.mapSeq (·.push (.ref p)))).get? kS = some (seqObj "list" (kA.push (.ref p)) c2) := ⟨_, get?_update_seq ok2 (·.push (.ref p))⟩
    refine wpAny_bind (listUpdate_at ok2 rfl ?_ (Nat.le_trans hz hZ) (Nat.le_trans (Nat.le_of_eq (Array.size_push ..)) (Nat.succ_le_succ (Nat.le_trans hz hZ))))
    have kp : ∀ b o, b ≠ kS → s''.heap.get? b = some o → (s''.heap.update kS (Obj.mapSeq (·.push (.ref p)))).get? b = some o := fun b o hb q => (s1.2 b hb).trans q
    refine wpAny_pure ⟨rfl, H2, kA.push (.ref p), c2, I2.turned kp nk2 fk.lo (.inr fk.up) fk.ce fk.pi, fun b o q => sub2 b o (sub b o q), gS H2 s'' _ _ g2 kp, na2, nk2, kp _ _ hka.symm oa2, hc2, ?_⟩
    have ek : ns.take (j + 1) = ns.take j ++ [n] := by rw [List.take_add_one, hn]; rfl
    rw [ek, show (kA.push (.ref p)).toList = kA.toList ++ [.ref p] by simp]
    exact PySem.W.each_snoc ⟨p, rfl, hp⟩ (hk.mono fun v m ⟨t', e1, e2⟩ => ⟨t', e1, sub2 _ _ e2⟩)
  case done =>
    rintro s' ⟨Hi, kA, e, I1, sub, g1, na, nk, oa1, ok1, hk⟩
    have e3 : ns.take (0 + vs.length) = ns := List.take_of_length_le (by omega)
    rw [e3] at hk
    have hsz : kA.size = vs.length := by
      have h1 := hk.length
      rw [Array.length_toList] at h1
      omega
    refine wpAny_bind (listItems_at ok1 rfl ?_)
    have hrd : PySem.W.EachIs (fun (v : Value) (d : PyData) => ∃ as, Reads s'.heap v d as) kA.toList (ns.map fun n => pd (k n)) := by
      have : ∀ (as : List Value) (bs : List Int), PySem.W.EachIs (fun (v : Value) (n : Int) => ∃ t, v = .ref t ∧ Hi t = some (.tup [.int (k n).1, .int (k n).2])) as bs → PySem.W.EachIs (fun (v : Value) (d : PyData) => ∃ as, Reads s'.heap v d as) as (bs.map fun n => pd (k n)) := by
        intro as bs q
        induction q with
        | nil => exact .nil
        | cons r _ ih =>
          obtain ⟨t, rfl, ht⟩ := r
          exact .cons ⟨[], reads_pair I1.hok ht⟩ ih
      exact this _ _ hk
    have hal : PySem.W.AllAlike (ns.map fun n => pd (k n)) := fun d hd d' hd' => by
      obtain ⟨x, _, rfl⟩ := List.mem_map.mp hd
      obtain ⟨y, _, rfl⟩ := List.mem_map.mp hd'
      rfl
    have hso : PySem.W.Sortable (ns.map fun n => pd (k n)) := .inl fun d hd => by
      obtain ⟨x, _, rfl⟩ := List.mem_map.mp hd
      exact ⟨_, _, rfl⟩
    have hud : ∀ d, d ∈ (ns.map fun n => pd (k n)) → A.units + d.depth < cLine := fun d hd => by
      obtain ⟨x, _, rfl⟩ := List.mem_map.mp hd
      have : (pd (k x)).depth ≤ 10 := by show PyData.depth (.tuple [.int (k x).1, .int (k x).2]) ≤ 10; simp [PyData.depth, PyData.depthAll]
      omega
    let hide : Hp := fun b => if b = kS then some (.lst []) else none
    have kp : PySem.W.KeepsBut a (hidT s'.heap hide) s'.heap := fun b o _ q => (of_hidT q).1
    have hkS : (hidT s'.heap hide).get? kS = none := by
      cases q : (hidT s'.heap hide).get? kS with
      | none => rfl
      | some o =>
        have := (of_hidT q).2
        rw [show hide kS = some (.lst []) from if_pos rfl] at this
        cases this
    refine PySem.W.keyH_end (κ := PySem.W.dataKind s'.heap (ns.map fun n => pd (k n))) (h₁ := hidT s'.heap hide) kp hkS ok1 oa1 hka (PySem.W.SortsAt.data hrd hal hso hud) hsz hZ fun h3 tk3 c k3 n3 => ?_
    have ko : PySem.W.KeyedOut false (ns.map fun n => pd (k n)) vs (PySem.W.sortVals (PySem.W.dataKind s'.heap (ns.map fun n => pd (k n))) false kA.toList vs) := ⟨s'.heap, kA.toList, hal, rfl, hrd⟩
    have eI : PySem.W.EachIs (fun (v : Value) (n : Int) => ∃ t, v = .int n t) vs ns := by
      have : ∀ (us : List Value) (ms : List Int), IntsAre us ms → PySem.W.EachIs (fun (v : Value) (n : Int) => ∃ t, v = .int n t) us ms := by
        intro us ms q
        induction q with
        | nil => exact .nil
        | cons _ _ _ ih => exact .cons ⟨_, rfl⟩ ih
      exact this _ _ hi
    have eo := PySem.W.keyedOut_each (fun n => pd (k n)) ko eI
    generalize PySem.W.sortVals (PySem.W.dataKind s'.heap (ns.map fun n => pd (k n))) false kA.toList vs = out at n3 eo ko
    have vo : Vals ((ns.mergeSort (PySem.W.dataLe false fun n => pd (k n))).map V.int) out := by
      have : ∀ (us : List Value) (ms : List Int), PySem.W.EachIs (fun (v : Value) (n : Int) => ∃ t, v = .int n t) us ms → Vals (ms.map V.int) us := by
        intro us ms q
        induction q with
        | nil => exact .nil
        | cons r _ ih => exact .cons r ih
      exact this _ _ eo
    have keep : ∀ b o, b ≠ a → b ≠ kS → s'.heap.get? b = some o → h3.get? b = some o := fun b o h1 h2 q => k3 b o h1 (hidT_get q (if_neg h2))
    have hT : ∀ b u, Hi b = some u → b ≠ a ∧ b ≠ kS := fun b u q => ⟨fun z => (by rw [z, na] at q; cases q), fun z => (by rw [z, nk] at q; cases q)⟩
    have hout : out.length ≤ sizeLine := by
      have := ko.length (by rw [List.length_map]; omega)
      omega
    refine h Hi _ _ (I1.step (g' := s'.gens) (d' := s'.drawn) (ch := [a, kS]) ?_ ?_ ?_ ?_ ?_ ?_ ?_ ?_ ?_ ?_ I1.bare) sub na rfl
    · intro b hb
      rcases List.mem_cons.mp hb with rfl | hb
      · exact ⟨.inr fa.up, fa.lo, fa.ce, fa.pi⟩
      · rw [List.mem_singleton] at hb
        subst hb
        exact ⟨.inr fk.up, fk.lo, fk.ce, fk.pi⟩
    · intro b o _ _ hb q _
      exact keep b o (fun z => hb (by simp [z])) (fun z => hb (by simp [z])) q
    · intro b o _ _ hb q _
      exact ⟨o.slots, keep b o (fun z => hb (by simp [z])) (fun z => hb (by simp [z])) q⟩
    · intro b o hb q n
      rw [upd_ne (fun z => hb (by simp [z]))]
      exact n
    · intro b o hb q
      exact ⟨o, keep b o (fun z => hb (by simp [z])) (fun z => hb (by simp [z])) q⟩
    · intro b xs q
      rw [upd_ne (hT b _ q).1]; exact q
    · intro b o u q
      rw [upd_ne (hT b _ q).1]; exact q
    · intro b ps q
      rw [upd_ne (hT b _ q).1]; exact ⟨#[], by rw [q]; simp⟩
    · rintro m ⟨o, es, ep, ho, r⟩
      exact ⟨o, es, ep, keep _ o fa.lo.symm fk.lo.symm ho, r⟩
    · intro b u q
      by_cases hb : b = a
      · subst hb
        rw [upd_same] at q
        cases q
        exact ⟨by rw [List.length_map]; have := vo.length; rw [List.length_map] at this; omega, out, c, vo, n3⟩
      · rw [upd_ne hb] at q
        refine (I1.hok b u q).stay (fun d v hd q' => ?_) (fun d q' => by rw [upd_ne (hT d _ q').1]; exact q') fun d xs q' => by rw [upd_ne (hT d _ q').1]; exact q'
        rcases hd with z | z
        · rw [z] at q' ⊢
          exact keep _ v (hT b _ q).1 (hT b _ q).2 q'
        · exact keep _ v (hT d _ z).1 (hT d _ z).2 q'
/-- sorted(xs, key=f) -/
theorem sorted_by {l : Addr} {f : Addr} {ns : List Int} {k : Int → Int × Int} {G : Hp → Shared → Prop} {Q : VK} (I : L2.Inv X pins σ H s) (hs : SqL X.K H l (ns.map V.int)) (hu : X.A.units + 20 < cLine) (g0 : G H s)
    (gS : ∀ (Hi : Hp) (si : Shared) (h' : Heap) (tk : Nat), G Hi si → (∀ b o, b < s.heap.objs.size → si.heap.get? b = some o → h'.get? b = some o) → G Hi { si with heap := h', toks := tk })
    (turn : Run X pins σ H X.A.in1.in1 G (.ref f) k ns)
    (h : ∀ (H' : Hp) (p : Addr), (∀ b o, H b = some o → H' b = some o) → H' p = none → Q (.ref p) (upd H' p (.lst ((ns.mergeSort (PySem.W.dataLe false fun n => pd (k n))).map V.int)))) :
    wpAny (model X.prog X.w) X.A (call (.builtin "sorted") [.ref l] [(Str.ofString "key", .ref f)]) (EP X pins σ Q) X.xe s := by
  obtain ⟨its, rv, hl, hz⟩ := I.list hs
  have hi := rv.ints
  have hlen : its.length ≤ sizeLine := by
    have := rv.length
    omega
  refine PySem.W.sorted_of_sort hl.isList hlen (ksk_s1 _ _) (fun _ => ksk_l1 _ _) fun E' => ?_
  rw [ksk_t1]
  have ho := PySem.W.copyHeap_at s.heap its
  have old : ∀ b o, s.heap.get? b = some o → (PySem.W.copyHeap s.heap its).get? b = some o := fun b o q => PySem.W.copyHeap_old q
  have szc : s.heap.objs.size + 1 < (PySem.W.copyHeap s.heap its).objs.size := Heap.lt_size ho
  generalize PySem.W.copyHeap s.heap its = hC at ho old szc
  unfold ksk_tree
  obtain ⟨e1, ho1⟩ : ∃ e1, (hC.update (s.heap.objs.size + 1) (Obj.mapSeq fun _ => (#[] : Array Value))).get? (s.heap.objs.size + 1) = some (seqObj "list" #[] e1) := ⟨_, get?_update_seq ho fun _ => #[]⟩
  refine wpAny_bind (listItems_at ho rfl ?_)
  refine wpAny_bind (listUpdate_at ho rfl ?_ (by rw [List.size_toArray]; exact hlen) (Nat.zero_le _))
  refine wpAny_bind (seqEpoch_at ho1 rfl ?_)
  refine wpAny_bind (wpAny_newTuple ?_ (by show its.length ≤ _; exact hlen))
  refine wpAny_bind (wpAny_newList ?_ (Nat.zero_le _))
  refine wpAny_holding ?_
  have sz5 : ((hC.update (s.heap.objs.size + 1) (Obj.mapSeq fun _ => (#[] : Array Value))).push (seqObj "tuple" its.toArray 0)).objs.size = hC.objs.size + 1 := by rw [size_push', Heap.size_update]
  have old5 : ∀ b o, s.heap.get? b = some o → ((((hC.update (s.heap.objs.size + 1) (Obj.mapSeq fun _ => (#[] : Array Value))).push (seqObj "tuple" its.toArray 0)).push (seqObj "list" #[] 0))).get? b = some o := fun b o q =>
    Heap.get?_push_of_some _ (Heap.get?_push_of_some _ ((Heap.get?_update_ne _ _ _ _ (Nat.ne_of_lt (Nat.lt_succ_of_lt (Heap.lt_size q)))).trans (old b o q)))
  have I5 : L2.Inv X pins σ H { s with heap := ((hC.update (s.heap.objs.size + 1) (Obj.mapSeq fun _ => (#[] : Array Value))).push (seqObj "tuple" its.toArray 0)).push (seqObj "list" #[] 0), toks := s.toks } := I.kept old5
  have up : s.heap.objs.size ≤ ((hC.update (s.heap.objs.size + 1) (Obj.mapSeq fun _ => (#[] : Array Value))).push (seqObj "tuple" its.toArray 0)).objs.size := by
    rw [sz5]
    exact Nat.le_of_lt (Nat.lt_succ_of_lt (Nat.lt_of_succ_lt szc))
  refine key_rest (s := { s with heap := ((hC.update (s.heap.objs.size + 1) (Obj.mapSeq fun _ => (#[] : Array Value))).push (seqObj "tuple" its.toArray 0)).push (seqObj "list" #[] 0), toks := s.toks }) (k := k) (G := G) I5 (ours_of I (Nat.le_succ _)) (ours_of I up) ?_
    (I.hok.fresh (Nat.le_succ _)) (I.hok.fresh up) (Heap.get?_push_of_some _ (Heap.get?_push_of_some _ ho1)) (Heap.get?_push_size _ rfl) hi hlen (by show X.A.units + 1 + 1 + 10 < cLine; omega) (gS H s _ _ g0 fun b o _ q => old5 b o q) ?_ turn ?_
  · rw [sz5]
    exact fun z => absurd szc (by rw [← z]; exact Nat.not_lt_of_le (Nat.le_succ _))
  · intro Hi si h' tk g kp
    exact gS Hi si h' tk g fun b o hb q => kp b o (fun z => by rw [z] at hb; exact absurd hb (Nat.not_lt_of_le up)) q
  · intro H' s' ns' I' sub na e
    subst e
    exact ⟨rfl, .ref (s.heap.objs.size + 1), _, I', rfl, h H' _ sub na⟩
end
end R
end

section
set_option maxRecDepth 100000
set_option maxHeartbeats 4000000
namespace R
open PySem PySem.Spec PyProof.Rows L2 LamX
section
variable {X : Cx} {pins : List (Addr × Obj)} {σ : L2.St} {H : Hp} {s : Shared}
/-- the lambda as a made function -/
abbrev lamF (X : Cx) (params : Arguments) (scope : Scope) (c : Addr) : NdefX.NF := ⟨"<lambda>", X.env.qual ++ "<lambda>", params, [], scope, cloFrom X.env.cells scope.names [], c⟩
/-- one call of it, from any state in which the maker's frame stands -/
theorem lam_run {f c' : Addr} {params : Arguments} {body : Expr} {scope : Scope} {pm ctv : Value} {N ps fr : List Str} {js : List Nat} {A : Around} {k : Nat} {us : List Value} {vs : List V} {tb : TE} {Q : VK}
    (I : L2.Inv X pins σ H s) (hA : A.frames = some X.stack) (S : NdefX.NScope N ps fr scope) (cp : NdefX.Caps X (cloFrom X.env.cells scope.names []) fr js)
    (hf : s.heap.get? f = some (PySem.W.kla_obj "<lambda>" (X.env.qual ++ "<lambda>") params body scope (cloFrom X.env.cells scope.names []) pm c' ctv)) (hc : H c' = some (CodeO c' (X.env.qual ++ "<lambda>")))
    (hb : bindArgs (PySem.W.kla_fn "<lambda>" (X.env.qual ++ "<lambda>") params body scope (cloFrom X.env.cells scope.names []) pm (.ref c') ctv) ⟨us, []⟩ = pure (ps.zip us)) (hl : vs.length = ps.length) (r : Vals vs us) (hr : Room (k + 1) A)
    (hbody : ∀ (s : Shared) (H : Hp), Room k (A.deeper (NdefX.envF (lamF X params scope c') f s.heap.objs.size)) → PE (NdefX.ncx CX0 X.prog X.w X.K X.mg X.base N (lamF X params scope c') f A X.stack s H E0) body tb)
    (ht : tb (NdefX.startF N vs (js.map (NdefX.slotAt σ))) H Q) :
    codeAny (model X.prog X.w) A (.call (.ref f) ⟨us, []⟩) (CR CX0 X.stack X.prog X.w H s Q E0) s := by
  have e0 : Env0 X.prog X.w X.K X.mg X.base A X.stack s H := ⟨hA, I.ok.mod, I.bs, Nat.le_trans I.ok.bsz I.sz, I.stack, I.stkFree, I.hok, I.bare⟩
  have C := NdefX.cells_of I cp
  obtain ⟨⟨oc, ws, t, hoc, hdc, hvc⟩, _, _⟩ := I.hok c' _ hc
  refine PySem.W.kla_callFunE hr.depth hf rfl S.co S.gen rfl ⟨c', oc, ws, t, rfl, hoc, hdc, hvc⟩ ?_
  rw [hb]
  refine wpAny_pure (wpAny_newFunctionEnv S.nocell (fun ⟨n, _⟩ hy => S.par n (List.of_mem_zip hy).1) (fun h₁ hns hsb => ⟨I.nolimit.fresh _ hsb, ?_⟩) S.kind)
  show codeAny _ _ (.expr body (NdefX.envF (lamF X params scope c') f s.heap.objs.size)) _ _
  have kp : ∀ b o, s.heap.get? b = some o → h₁.get? b = some o := fun b o e => hsb.extBut b o (Nat.ne_of_lt (Heap.lt_size e)) (Heap.get?_push_of_some _ e)
  have J : L2.Inv (NdefX.ncx CX0 X.prog X.w X.K X.mg X.base N (lamF X params scope c') f A X.stack s H E0) [] (NdefX.startF N vs (js.map (NdefX.slotAt σ))) H { s with heap := h₁, toks := s.toks + (ps.zip us).length } :=
    NdefX.inv_startN S hr.hd e0 hl r C hns kp
  refine PySem.W.kla_codeExpr (wpAny_mono ((hbody s H (hr.deeper _)).run [] _ _ H Q J ht) (fun v s' hq => ?_) fun e s' hq => hq)
  obtain ⟨w', H', J', rv, q⟩ := hq
  exact ⟨w', H', J'.os, J'.bare, J'.base, J'.hok, rv, q⟩
/-- what sorted(e, key=lambda x: body) asks: ns the numbers, kf each one's key -/
def tSortLam (K : PySem.W.Frag) (T : List (Addr × Str)) (N : List Str) (js : List Nat) (ta : TA) (tb : TE) : TE := fun σ H Q => ta σ H fun vs H1 => ∃ (a : Addr) (ns : List Int) (kf : Int → Int × Int), vs = [.ref a] ∧ SqL K H1 a (ns.map V.int) ∧ Tabs T H1 ∧
  (∀ n, n ∈ ns → ∀ H2, ExtN H1 H2 → tb (NdefX.startF N [.int n] (js.map (NdefX.slotAt σ))) H2 fun v H3 => ∃ p, v = .ref p ∧ H2 p = none ∧ H3 = upd H2 p (.tup [.int (kf n).1, .int (kf n).2])) ∧
  ∀ (H3 : Hp) (p : Addr), ExtN H1 H3 → Tabs T H3 → H3 p = none → Q (.ref p) (upd H3 p (.lst ((ns.mergeSort (PySem.W.dataLe false fun n => pd (kf n))).map V.int)))
theorem pe_sortLam {T : List (Addr × Str)} {c P : Addr} {params : Arguments} {body e : Expr} {scope : Scope} {x : Str} {N fr : List Str} {js : List Nat} {k : Nat} {ta : TA} {tb : TE} {p pos lpos kpos : Pos} (hg : Gl X "sorted") (hm : X.mg "sorted" = none) (ha : PA X [e] ta)
    (TB : TabB X.base X.mg c P) (hcode : X.env.code = .ref c) (hmT : (P, X.env.qual ++ "<lambda>") ∈ T) (hu : ∀ p ∈ T, p.1 = P → p.2 = X.env.qual ++ "<lambda>") (hdef : defaultsOf params X.env = ([], [])) (S : NdefX.NScope N [x] fr scope)
    (hfree : ∀ y ∈ scope.names, y.2 = .free → X.env.scope.names.lookup y.1 = some .cell ∨ X.env.scope.names.lookup y.1 = some .free) (hfr : ∀ y ∈ fr, (y, NameKind.free) ∈ scope.names) (hjs : js.map (fun j => X.N[j]?) = fr.map some)
    (hb : ∀ (q : Str) (cl : List (Str × Addr)) (pm cv ctv u : Value), bindArgs (PySem.W.kla_fn "<lambda>" q params body scope cl pm cv ctv) ⟨[u], []⟩ = pure [(x, u)]) (hr : Room (k + 3) X.A)
    (hbody : ∀ (f c' : Addr) (A : Around) (s : Shared) (H : Hp), Room k (A.deeper (NdefX.envF (lamF X params scope c') f s.heap.objs.size)) → PE (NdefX.ncx CX0 X.prog X.w X.K X.mg X.base N (lamF X params scope c') f A X.stack s H E0) body tb)
    (he : backTo pos (starEach [e] X.env) = (false, eval e X.env) :: backTo pos (starEach [] X.env) := by rfl) (hpl : (backTo pos (starEach [e] X.env)).any (·.1) = false := by rfl) :
    PE X (.Call (.Name "sorted" p) [e] [⟨some "key", .Lambda params body scope lpos, kpos⟩] pos) (tSortLam X.K T N js ta tb) := by
  refine ⟨fun pins s σ H Q I h => ?_⟩
  refine wpAny_Call_Name_kw (ld_blt I hg hm (u := .builtin "sorted") (by decide +kernel) ?_ (by decide) (by decide))
  refine PyProof.Rows.callWith_kw (thn (ha.run pos pins s σ H _ I h) fun us s1 ⟨vs, H1, I1, r1, a, ns, kf, ev, hs, hT, hkey, q⟩ => ?_) he hpl (by rfl) (by rfl)
  subst ev
  obtain rfl := Vals.ref1 r1
  have hfc : ∀ y ∈ scope.names, y.2 = .free → ∃ c, X.env.cells.lookup y.1 = some c := fun y hy e => (hfree y hy e).elim (fun z => I.ok.has _ (.inl z)) fun z => I.ok.has _ (.inr z)
  show wpAny _ _ (evalAll [do let v ← eval (.Lambda params body scope lpos) X.env; standAt pos; pure v]) _ _ _
  refine wpAny_evalAll_cons (wpAny_bind (lam_make2 I1 TB hcode hmT hu hT hdef hfc fun f c' pm ctv H2 s2 I2 eN T2 hf hfn hfr' hco => ?_))
  refine wpAny_bind (wpAny_standAt (wpAny_pure (wpAny_evalAll_nil ?_)))
  show wpAny _ _ (call (.builtin "sorted") [.ref a] [(Str.ofString "key", .ref f)]) _ _ _
  have hs2 : SqL X.K H2 a (ns.map V.int) := by
    rcases hs with (z | ⟨o, z⟩) | z
    · exact .inl (.inl (eN _ _ z (fun _ w => by cases w)))
    · exact .inl (.inr ⟨o, eN _ _ z (fun _ w => by cases w)⟩)
    · exact .inr z
  have lt : f < s2.heap.objs.size := Heap.lt_size hf
  refine sorted_by (k := kf) (G := fun Hi si => Hi f = none ∧ Hi c' = some (CodeO c' (X.env.qual ++ "<lambda>")) ∧ si.heap.get? f = some (PySem.W.kla_obj "<lambda>" (X.env.qual ++ "<lambda>") params body scope (cloFrom X.env.cells scope.names []) pm c' ctv)) I2 hs2 (by have := hr.un; omega) ⟨hfn, hco, hf⟩
    (fun Hi si h' tk g kp => ⟨g.1, g.2.1, kp f _ lt g.2.2⟩) ?_ fun H' p sub np => q H' p (fun b o z n => sub _ _ (eN _ _ z n)) (T2.ext sub) np
  intro n hn Hi si t Ii sub g
  have ext : ExtN H1 Hi := fun b o z w => sub _ _ (eN _ _ z w)
  have rc := lam_run (f := f) (c' := c') (body := body) (params := params) (pm := pm) (ctv := ctv) (js := js) (A := X.A.in1.in1) (k := k) (us := [.int n t]) (vs := [.int n]) Ii Ii.ok.frames S (NdefX.Caps.made Ii.ok hfree hfr hjs) g.2.2 g.2.1 (hb _ _ _ _ _ _) rfl (.cons ⟨t, rfl⟩ .nil) (Room.in1 (Room.in1 hr)) (fun s H => hbody f c' _ s H) (hkey n hn Hi ext)
  refine wpAny_call (codeAny_mono rc fun r s' hq => ?_)
  cases r with
  | error e => exact (show False from hq).elim
  | ok fl =>
    cases fl with
    | next => exact False.elim hq
    | brk => exact False.elim hq
    | cont => exact False.elim hq
    | ret u =>
      obtain ⟨v, H', os, bare, un, hok, rv, p, rfl, np, rfl⟩ := hq
      obtain rfl : u = Value.ref p := rv
      have lt' : ∀ b o, Hi b = some o → upd Hi p (.tup [.int (kf n).1, .int (kf n).2]) b = some o := fun b o z => by rw [upd_ne (ne_of_none z np)]; exact z
      have keep : ∀ b o, si.heap.get? b = some o → Hi b = none → b ∉ frs X.stack → s'.heap.get? b = some o ∧ upd Hi p (.tup [.int (kf n).1, .int (kf n).2]) b = none := fun b o z w nf => ⟨un.keep b o z w nf (by simp), un.free b o z w (by simp)⟩
      obtain ⟨of, nf⟩ := keep f _ g.2.2 g.1 hfr'
      obtain ⟨hh, gg, dd, tt, os'⟩ := s'
      obtain rfl : os' = si.os := os
      exact ⟨p, _, rfl, Ii.call (h' := hh) (g' := gg) (d' := dd) (t' := tt) (ch := []) un hok bare (fun b z => absurd z (by simp)), lt', upd_same, ⟨nf, lt' _ _ g.2.1, of⟩, keep⟩
end
end R
end

section
set_option maxRecDepth 100000
set_option maxHeartbeats 4000000
namespace R
open PySem PySem.Spec PyProof.Rows L2 LamX
/-! ### the rooms that have so many seats, those with the fewest ahead -/
theorem le_pd {a b c d : Int} : PySem.W.dataLe (β := Int × Int) false pd (a, b) (c, d) = true ↔ (a < c ∨ (a = c ∧ b ≤ d)) := by
  have e : ∀ x y : Int, PySem.W.keyToks (pd (x, y)) = [Sum.inl 1, Sum.inl x, Sum.inl 1, Sum.inl y, Sum.inl 0] := fun x y => rfl
  show (!(PyProof.Rows.lexLt PyProof.Rows.itemOrd (PySem.W.keyToks (pd (c, d))) (PySem.W.keyToks (pd (a, b))))) = true ↔ _
  rw [e, e]
  simp only [PyProof.Rows.itemLt, PyProof.Rows.lexLt]
  by_cases h1 : c < a
  · simp [h1]; omega
  · by_cases h2 : a < c
    · simp [h1, h2]
    · have : a = c := by omega
      subst this
      simp
/-- the promise's list: those that have n seats or more, in order -/
structure Ordered (rooms : List Nat) (n : Nat) (rs : List Nat) : Prop where
  perm : rs.Perm ((List.range rooms.length).filter fun r => decide (n ≤ rooms.getD r 0))
  ord : rs.Pairwise fun a b => rooms.getD a 0 < rooms.getD b 0 ∨ (rooms.getD a 0 = rooms.getD b 0 ∧ a ≤ b)
def seatKey (rooms : List Nat) (r : Int) : Int × Int := ((rooms.getD r.toNat 0 : Nat), r)
theorem gV_eq (l : List Nat) : gV l = (l.map fun n : Nat => (n : Int)).map V.int := by
  unfold gV
  rw [List.map_map]
  rfl
theorem ordered_of (rooms : List Nat) (n : Nat) : ∃ rs, Ordered rooms n rs ∧ ((((List.range rooms.length).filter fun r => decide (n ≤ rooms.getD r 0)).map fun r : Nat => (r : Int)).mergeSort (PySem.W.dataLe false fun r => pd (seatKey rooms r))).map V.int = gV rs := by
  let l := (List.range rooms.length).filter fun r => decide (n ≤ rooms.getD r 0)
  let ns := l.map fun r : Nat => (r : Int)
  let out := ns.mergeSort (PySem.W.dataLe false fun r => pd (seatKey rooms r))
  have hp : out.Perm ns := List.mergeSort_perm _ _
  have hs : out.Pairwise fun a b => PySem.W.dataLe false (fun r => pd (seatKey rooms r)) a b = true := PySem.W.sort_pairwise (PySem.W.sortLe_total _ _ _) ns
  have nn : ∀ x ∈ out, (x.toNat : Int) = x := fun x hx => by
    obtain ⟨r, _, rfl⟩ := List.mem_map.mp (hp.mem_iff.mp hx)
    omega
  refine ⟨out.map Int.toNat, ⟨?_, ?_⟩, ?_⟩
  · have h1 := hp.map Int.toNat
    have h2 : ns.map Int.toNat = l := by
      show (l.map fun r : Nat => (r : Int)).map Int.toNat = l
      rw [List.map_map]
      exact (List.map_congr_left fun x _ => by simp).trans (List.map_id l)
    rw [h2] at h1
    exact h1
  · rw [List.pairwise_map]
    refine hs.imp_of_mem fun {a b} ha hb h => ?_
    have h' : PySem.W.dataLe (β := Int × Int) false pd (seatKey rooms a) (seatKey rooms b) = true := h
    have := le_pd.mp h'
    have ea := nn a ha
    have eb := nn b hb
    omega
  · rw [gV_eq, List.map_map]
    have e2 : out.map ((fun n : Nat => (n : Int)) ∘ Int.toNat) = out := (List.map_congr_left fun x hx => nn x hx).trans (List.map_id out)
    rw [← List.map_map, List.map_map (f := Int.toNat), e2]
section
variable {P : Program} {w : World} {K : PySem.W.Frag} {mg : Str → Option Value} {base : Heap} {CH CB CP f : Addr} {fd : FuncData}
/-- a def whose code object is known -/
theorem okC {x qual : Str} {st : Stmt} {N ps : List Str} {k : Nat} {sp : Sp} {cv : Value} (F : Fun K x qual st f fd) (hcv : fd.code = cv) (S : FnScope N ps (defScope st)) (len : ∀ vs H Q E, sp vs H Q E → vs.length = ps.length)
    (hbody : ∀ (A : Around) (outer : List Env) (s : Shared) (H : Hp) (vs : List V) (Q : VK) (E : XK), Room k (A.deeper (envOfC qual (defScope st) s.heap.objs.size f cv)) → sp vs H Q E →
      ∃ t, PSs (cxOf CX0 P w K mg base N qual (defScope st) f cv A outer s H E).nox (defBody st) t ∧ t { nx := fun _ H' => Q .non H', rt := Q } (start N vs) H) : FnOk P w K mg base CX0 (k + 1) f fd ps sp := by
  obtain ⟨oc, od, kV, doc, pm, an, cdv, ct, osl, rfl, lk, hcd⟩ := F.ex
  obtain rfl : cdv = cv := hcv
  refine fn_of lk hcd S len fun A outer s H vs Q E hr hsp => ?_
  obtain ⟨t, h, q⟩ := hbody A outer s H vs Q E hr hsp
  exact ⟨t, h.nox, q⟩
def lamQ : Str := "House.rooms_with" ++ ".<locals>." ++ "<lambda>"
def spRooms (T : List (Addr × Str)) (CH CB CP : Addr) : Sp := fun vs H Q _ => ∃ (h sl dl : Addr) (rooms : List Nat) (es : List Ent) (c n : Nat), vs = [.ref h, .int n] ∧ HouseAt CH CB CP id H h sl dl rooms es c ∧ rooms.length ≤ 100 ∧ Tabs T H ∧
  ∀ (H' : Hp) (l : Addr) (rs : List Nat), ExtN H H' → Tabs T H' → H' l = some (.lst (gV rs)) → Ordered rooms n rs → Q (.ref l) H'
abbrev s_House_rooms_with : Stmt := inClass (top 18) 4
theorem sc_House_rooms_with : FnScope ["self", "seats", "rooms", "room"] ["self", "seats"] (defScope s_House_rooms_with) := ⟨rfl, rfl, rfl, by decide +kernel, rfl, by decide +kernel, by decide +kernel⟩
/-- the lambda's own text -/
def lamOf (st : Stmt) : Arguments × Expr × Scope := match defBody st with
  | [_, .Return (some (.Call _ _ [⟨_, .Lambda a b sc _, _⟩] _)) _] => (a, b, sc)
  | _ => (defArgs st, .Constant .none 0 ⟨0, 0, 0, 0⟩, defScope st)
theorem ok_House_rooms_with {c PT : Addr} {TT : List (Addr × Str)} (F : Fun K "rooms_with" "House.rooms_with" s_House_rooms_with f fd) (hcv : fd.code = .ref c) (T : TxH K mg CH CB) (TB : TabB base mg c PT) (hT : TT = [(PT, lamQ)]) :
    FnOk P w K mg base CX0 4 f fd ["self", "seats"] (spRooms TT CH CB CP) := by
  refine okC F hcv sc_House_rooms_with (fun vs H Q E h => ?_) (fun A outer s H vs Q E hr h => ?_)
  · obtain ⟨_, _, _, _, _, _, _, rfl, _⟩ := h
    rfl
  · obtain ⟨h, sl, dl, rooms, es, ca, n, rfl, HA, hlen, tabs, k⟩ := h
    obtain ⟨⟨dx, h1⟩, h2, h3, h4⟩ := id HA
    refine ⟨_, pss_cons (ps_setLc (i := 2) (own := [("room", 3)]) (g := gName 3) (tt := tTest (tOp (rI0 fun i j => .bl (decide (j ≤ i))) (tOp (rIxL K) (tFld K (tVar 0) "seats") (tVar 3)) (tVar 1))) (te := tVar 3) (by rfl) sc_House_rooms_with.nd rfl rfl (sw_true rfl rfl rfl (by decide +kernel)) (pi_range1 (by rfl) T.b_range (pa_cons (pe_callB call_len_seq (by rfl) T.b_len PySem.boot_len (pa_cons (pe_fld (pv 0) rfl) pa_nil)) pa_nil))
        (blkOk_by (own := [("room", 3)]) (N := ["self", "seats", "rooms", "room"]) (sc := defScope s_House_rooms_with) (by decide +kernel)) (fun _ _ _ _ _ => by exact pg_name (i := 3) sc_House_rooms_with.nd rfl (Or.inl rfl)) (fun _ _ _ _ _ => by exact pts_one (pt_cmpR op_ge (pe_ix ix_list (pe_fld (pv 0) rfl) (pv 3) (fun _ _ => rfl)) (pv 1) (nomark _))) (fun _ _ _ _ _ => by exact pv 3))
      (pss_one (ps_ret (pe_sortLam (T := TT) (c := c) (P := PT) (x := "room") (N := ["room", "self"]) (fr := ["self"]) (js := [0]) (k := 0) (tb := tTup (tCons (tOp (rIxL K) (tFld K (tVar 1) "seats") (tVar 0)) (tCons (tVar 0) tNil))) (by rfl) T.b_sorted (pa_cons (pv 2) pa_nil) TB rfl (by rw [hT]; exact List.mem_singleton.mpr rfl) (fun p hp _ => by rw [hT, List.mem_singleton] at hp; rw [hp]; rfl) rfl (NdefX.nscope_by (by decide +kernel)) ?fr1 ?fr2 rfl (fun _ _ _ _ _ _ => rfl) hr
        (fun _ _ _ _ _ _ => by exact pe_tup (pa_cons (pe_ix ix_list (pe_fld (pv 1) rfl) (pv 0) (fun _ _ => rfl)) (pa_cons (pv 0) pa_nil)))))), ?_⟩
    case fr1 => exact NdefX.ndef_free (sc := defScope s_House_rooms_with) (fr := ["self"]) (by decide +kernel)
    case fr2 => exact NdefX.ndef_fr (sc := defScope s_House_rooms_with) (by decide +kernel)
    have el : (gV rooms).length = rooms.length := List.length_map _
    refine ⟨_, rfl, h, CH, dx, _, _, rfl, h1, T.clH, T.nS, hF_seats _ _ _, sl, _, rfl, .inl (SqL.of h2), _, rfl, (by rw [el]; omega), (by rw [el]; omega), fun D hD => ?_⟩
    have en : (((gV rooms).length : Int)).toNat = rooms.length := by rw [el]; omega
    rw [en]
    have nD : ∀ {b o}, H b = some o → b ≠ D := fun e => ne_of_none e hD
    have seat : ∀ {r : Nat}, r < rooms.length → atI (gV rooms) (r : Int) = some (.int (rooms.getD r 0 : Nat)) := fun {r} hr' => by
      refine atI_nat ?_
      unfold gV
      rw [List.getElem?_map, List.getElem?_eq_getElem hr', List.getD_eq_getElem?_getD, List.getElem?_eq_getElem hr']
      rfl
    refine lc_range (lo := 0) (n := rooms.length) (fun i H' => Same H H' ∧ H' D = some (.lst (gV ((List.range i).filter fun r => decide (n ≤ rooms.getD r 0))))) ⟨fun b o e => by rw [upd_ne (nD e)]; exact e, upd_same⟩ ?_ ?_
    · rintro i H' hi ⟨s1, hD'⟩
      have er : (0 : Int) + (i : Int) = (i : Int) := Int.zero_add _
      refine ⟨rfl, _, rfl, h, CH, dx, _, _, rfl, s1 _ _ h1, T.clH, T.nS, hF_seats _ _ _, _, rfl, sl, _, _, _, rfl, rfl, SqL.of (s1 _ _ h2), (by rw [er]; exact seat hi), _, rfl, _, _, rfl, rfl, _, rfl, if_b (fun z => ?_) fun z => ?_⟩
      · have y := of_decide_eq_true z
        have e2 : (List.range (i + 1)).filter (fun r => decide (n ≤ rooms.getD r 0)) = (List.range i).filter (fun r => decide (n ≤ rooms.getD r 0)) ++ [i] := by
          have y' : n ≤ rooms.getD i 0 := by omega
          rw [List.range_succ, List.filter_append]
          congr 1
          simp only [List.filter_cons, List.filter_nil, decide_eq_true y', if_true]
        refine ⟨_, rfl, _, hD', small1000 ?_, fun b o e => by rw [upd_ne (nD e)]; exact s1 b o e, ?_⟩
        · have := List.length_filter_le (fun r => decide (n ≤ rooms.getD r 0)) (List.range i)
          rw [List.length_range] at this
          show (gV _).length ≤ 1000
          unfold gV
          rw [List.length_map]
          omega
        · rw [upd_same, e2, er, gV_snoc]
      · have y := of_decide_eq_false z
        have e2 : (List.range (i + 1)).filter (fun r => decide (n ≤ rooms.getD r 0)) = (List.range i).filter (fun r => decide (n ≤ rooms.getD r 0)) := by
          have y' : ¬ n ≤ rooms.getD i 0 := by omega
          rw [List.range_succ, List.filter_append]
          simp only [List.filter_cons, List.filter_nil, decide_eq_false y', Bool.false_eq_true, if_false, List.append_nil]
        exact ⟨s1, by rw [e2]; exact hD'⟩
    · rintro H' ⟨s1, hD'⟩
      obtain ⟨rs, ho, eo⟩ := ordered_of rooms n
      refine ⟨_, rfl, D, ((List.range rooms.length).filter fun r => decide (n ≤ rooms.getD r 0)).map (fun r : Nat => (r : Int)), seatKey rooms, rfl, (by rw [← gV_eq]; exact SqL.of hD'), tabs.ext s1, fun z hz H2 eN => ?_, fun H3 p eN tb3 np => ?_⟩
      · obtain ⟨r, hr', rfl⟩ := List.mem_map.mp hz
        have hlt : r < rooms.length := List.mem_range.mp (List.mem_filter.mp hr').1
        refine ⟨_, rfl, h, CH, dx, _, _, rfl, eN _ _ (s1 _ _ h1) (fun _ w => by cases w), T.clH, T.nS, hF_seats _ _ _, _, rfl, sl, _, _, _, rfl, rfl, SqL.of (eN _ _ (s1 _ _ h2) (fun _ w => by cases w)), seat hlt, _, rfl, (by show 2 ≤ sizeLine; decide), fun p np => ⟨p, rfl, np, ?_⟩⟩
        unfold seatKey
        rfl
      · rw [eo]
        have kp : ExtN H (upd H3 p (.lst (gV rs))) := fun b o e w => by
          have e3 := eN _ _ (s1 _ _ e) w
          rw [upd_ne (ne_of_none e3 np)]
          exact e3
        exact k _ p rs kp (tb3.ext fun b o e => by rw [upd_ne (ne_of_none e np)]; exact e) upd_same ho
end
end R
end

section
set_option maxRecDepth 100000
set_option maxHeartbeats 4000000
namespace R
open PySem PySem.Spec PyProof.Rows L2 LamX
open PySem.W (OpenSpec Codec WData WellAll)
/-! ### the end of a row that compares with a Lean function: one list of whole numbers is handed in; defs whose code tables may grow -/
def withT (ts : List Addr) (H : Hp) : Hp := fun b => if b ∈ ts then some (.tbl #[]) else H b
theorem withT_in {ts : List Addr} {H : Hp} {b : Addr} (h : b ∈ ts) : withT ts H b = some (.tbl #[]) := if_pos h
theorem withT_out {ts : List Addr} {H : Hp} {b : Addr} (h : b ∉ ts) : withT ts H b = H b := if_neg h
theorem spec_tabs {P : Program} {w : World} {K : PySem.W.Frag} {mg mb : Str → Option Value} {k : Nat} {fa : Addr} {cs : List (Addr × Addr)} {fd : FuncData} {x : Str} {sp : Sp} {s : Shared} {v : Value} {ns : List Int} {Rw : PySem.W.WRecords} {cl : Str → Option Addr} {d0 : WData}
    (KX : K.In s.heap) (hns : s.heap.Ns mainGlobals mg) (hb : s.heap.Ns builtinsNs mb) (hbb : ∀ x : Str, x ≠ "__name__" → mb x = bootBuiltins x) (hlim : s.heap.NoLimit) (hg : s.gens = #[])
    (hT : ∀ p ∈ cs, s.heap.get? p.2 = some { cls := .none, data := .fields #[] }) (nT : ∀ p ∈ cs, K.lookup p.2 = none) (C : ∀ p ∈ cs, PySem.W.CodeHd s.heap p.1 p.2)
    (hbm : ∃ (bm : Addr) (ob : Obj), mg "__builtins__" = some (.ref bm) ∧ bm ≠ builtinsNs ∧ s.heap.get? bm = some ob ∧ ob.cls = .type "module" ∧ ob.dict = some builtinsNs ∧ ob.data = .plain)
    (hwl : WellAll w.params s.heap [v] [.list (ns.map WData.int)]) (hwt : (WData.list (ns.map WData.int)).weight ≤ 1048576) (hr : Room k callerA)
    (F : ∀ base : Heap, K.In base → base.Ns mainGlobals mg → (∀ p ∈ cs, TabB base mg p.1 p.2) → FnOk P w K mg base CX0 k fa fd [x] sp) (hbind : ∀ (s : Shared) (u : Value), BindsTo s fd ⟨[u], []⟩ [(x, u)])
    (hsp : ∀ (H : Hp) (a : Addr), (∀ p ∈ cs, H p.2 = some (.tbl #[])) → SqL K H a (ns.map V.int) → (∀ b o, H b = some o → (∃ o' u, o = .frz o' u) ∨ o = .tbl #[]) → sp [.ref a] H (fun v H' => Dw K H' v d0) E0) :
    codeAny (model P w) callerA (.call (.ref fa) ⟨[v], []⟩) (fun r s' => ∃ u as, r = .ok (.ret u) ∧ PySem.W.ReadsW Rw cl s'.heap u d0 as ∧ OldK s.heap s'.heap ∧ s'.os = s.os ∧ AllBare s'.gens) s := by
  have pl : plWs [WData.list (ns.map WData.int)] = true := by
    show (plWs (ns.map WData.int) && true) = true
    rw [plWs_map (fun a => rfl)]
    rfl
  obtain ⟨A, ho, ar⟩ := area_all [WData.list (ns.map WData.int)] [v] hwl pl (fun d hd => by rw [List.mem_singleton.mp hd]; exact hwt)
  let ts := cs.map (·.2)
  have tsT : ∀ b ∈ ts, s.heap.get? b = some { cls := .none, data := .fields #[] } := fun b hb => by
    obtain ⟨p, hp, rfl⟩ := List.mem_map.mp hb
    exact hT p hp
  have tsN : ∀ b ∈ ts, K.lookup b = none := fun b hb => by
    obtain ⟨p, hp, rfl⟩ := List.mem_map.mp hb
    exact nT p hp
  let H0 := argH K s.heap A
  have is0 : ∀ {b u}, H0 b = some u → K.lookup b = none ∧ (∃ o' u', u = .frz o' u') ∧ ∃ (vs : List Value) (c : Value), s.heap.get? b = some { cls := c, data := .seq vs.toArray } := fun {b u} q => by
    obtain ⟨e1, vs, _, _, ⟨e2, e3⟩ | ⟨e2, e3⟩⟩ := argH_is ar q
    · exact ⟨e1, ⟨_, _, e3⟩, vs, _, e2⟩
    · exact ⟨e1, ⟨_, _, e3⟩, vs, _, e2⟩
  have apart : ∀ b ∈ ts, H0 b = none := fun b hb => by
    cases q : H0 b with
    | none => rfl
    | some u =>
      obtain ⟨_, _, vs, c, e⟩ := is0 q
      rw [tsT b hb] at e
      have := congrArg Obj.data (Option.some.inj e)
      cases this
  let H := withT ts H0
  have sub : Same H0 H := fun b o e => by
    have : b ∉ ts := fun z => by rw [apart b z] at e; cases e
    show withT ts H0 b = _
    rw [withT_out this]
    exact e
  have hok0 : HOk P w H0 s.heap := argH_ok ar
  have hok : HOk P w H s.heap := fun b u q => by
    by_cases hb : b ∈ ts
    · have q' : withT ts H0 b = some u := q
      rw [withT_in hb] at q'
      cases q'
      exact tsT b hb
    · have q' : withT ts H0 b = some u := q
      rw [withT_out hb] at q'
      exact (hok0 b u q').stay (fun d v _ z => z) (fun d z => sub _ _ z) fun d xs z => sub _ _ z
  obtain ⟨a, hv, hS⟩ : ∃ a, v = .ref a ∧ SqL K H a (ns.map V.int) := by
    have hd := dw_all KX ar [WData.list (ns.map WData.int)] [v] hwl pl ho
    have hv := vals_toV (vs := [v]) ho
    cases hd with
    | cons h1 h2 =>
      rcases h : toV v with _ | _ | _ | _ | _ | _ | a | _
      all_goals rw [h] at h1
      all_goals first | (cases h1; done) | skip
      cases h1 with
      | lst hs ha =>
        have e := L2.ints_dw ns _ ha
        subst e
        refine ⟨a, ?_, sub.seq hs⟩
        cases hv with
        | cons r _ => rw [h] at r; exact r
  subst hv
  have kinds : ∀ b o, H b = some o → (∃ o' u, o = .frz o' u) ∨ o = .tbl #[] := fun b o q => by
    by_cases hb : b ∈ ts
    · have q' : withT ts H0 b = some o := q
      rw [withT_in hb] at q'
      cases q'
      exact .inr rfl
    · have q' : withT ts H0 b = some o := q
      rw [withT_out hb] at q'
      exact .inl (is0 q').2.1
  have trackD : ∀ {b o}, s.heap.get? b = some o → (∀ vs n, o.data ≠ .seq vs n) → o.data ≠ .fields #[] → H b = none := fun {b o} e h1 h2 => by
    cases q : H b with
    | none => rfl
    | some u =>
      by_cases hb : b ∈ ts
      · rw [tsT b hb] at e
        cases e
        exact absurd rfl h2
      · have q' : withT ts H0 b = some u := q
        rw [withT_out hb] at q'
        obtain ⟨_, _, vs, c, e2⟩ := is0 q'
        rw [e2] at e
        cases e
        exact absurd rfl (h1 _ _)
  have nK : ∀ b o, K.lookup b = some o → H b = none := fun b o e => by
    cases q : H b with
    | none => rfl
    | some u =>
      by_cases hb : b ∈ ts
      · rw [tsN b hb] at e
        cases e
      · have q' : withT ts H0 b = some u := q
        rw [withT_out hb] at q'
        rw [(is0 q').1] at e
        cases e
  have nsK : ∀ {b : Addr} {m : Str → Option Value}, s.heap.Ns b m → (hidT s.heap H).Ns b m := fun {b m} ⟨o, es, ep, e, d, r⟩ =>
    ⟨o, es, ep, hidT_get e (trackD e (fun vs n z => by rw [d] at z; cases z) fun z => by rw [d] at z; cases z), d, r⟩
  have hKb : K.In (hidT s.heap H) := fun b o e => hidT_get (KX b o e) (nK b o e)
  have hM : L2.Mod K mg (hidT s.heap H) := ⟨hKb, nsK hns, ⟨mb, nsK hb, hbb⟩, let ⟨mc, h1, h2⟩ := hlim; ⟨mc, nsK h1, h2⟩⟩
  have TB : ∀ p ∈ cs, TabB (hidT s.heap H) mg p.1 p.2 := fun p hp => by
    have hTp := hT p hp
    refine ⟨?_, ?_, fun z => ?_⟩
    · obtain ⟨o, us, file, tf, flags, tg, inF, text, tt, e1, r1, r2, r3, r4⟩ := C p hp
      refine ⟨o, us, file, tf, flags, tg, inF, text, tt, hidT_get e1 (trackD e1 (fun vs n z => ?_) fun z => ?_), r1, r2, r3, r4⟩
      · rw [r2] at z; cases z
      · rw [r2] at z
        cases z
        simp at r3
    · obtain ⟨bm, ob, b1, b2, b3, b4, b5, b6⟩ := hbm
      have nG : bm ≠ mainGlobals := fun q => by
        obtain ⟨o, es, ep, e, hd, _⟩ := hns
        rw [q, e] at b3
        cases b3
        rw [hd] at b6
        cases b6
      have nP : bm ≠ p.2 := fun q => by
        rw [q, hTp] at b3
        cases b3
        cases b6
      exact ⟨bm, ob, b1, b2, nG, nP, hidT_get b3 (trackD b3 (fun vs n z => by rw [b6] at z; cases z) fun z => by rw [b6] at z; cases z), b4, b5, b6⟩
    · obtain ⟨o, es, ep, e, hd, _⟩ := hns
      rw [z, hTp] at e
      cases e
      cases hd
  have e0 : Env0 P w K mg (hidT s.heap H) callerA [] s H := ⟨rfl, hM, fun b o e => of_hidT e, Nat.le_of_eq (hidT_size _ _), trivial, fun b hb => absurd (show b ∈ ([] : List Addr) from hb) (by simp), hok, .of_eq hg⟩
  refine codeAny_mono ((F _ hKb (nsK hns) TB).run callerA [] s H ⟨[.ref a], []⟩ [.ref a] [.ref a] _ _ hr e0 (hbind s (.ref a)) (.cons rfl .nil) (hsp H a (fun p hp => withT_in (List.mem_map.mpr ⟨p, hp, rfl⟩)) hS kinds)) fun r s' q => ?_
  cases r with
  | error e => exact (show False from q).elim
  | ok fl =>
    cases fl with
    | next => exact False.elim q
    | brk => exact False.elim q
    | cont => exact False.elim q
    | ret u =>
      obtain ⟨v', H', os, bare, un, hok', rv, q⟩ := q
      have key : ∀ b o, b ∉ ts → s.heap.get? b = some o → s'.heap.get? b = some o := fun b o nb e => by
        cases z : H b with
        | none => exact un.keep b o e z (fun y => absurd (show b ∈ ([] : List Addr) from y) (by simp)) (by simp)
        | some u2 =>
          rcases kinds b u2 z with ⟨o', u', rfl⟩ | rfl
          · have z2 := un.frzs b o' u' z
            obtain ⟨e1, _⟩ := hok b _ z
            obtain ⟨e2, _⟩ := hok' b _ z2
            rw [e] at e1
            cases e1
            exact e2
          · have z' : withT ts H0 b = some (.tbl #[]) := z
            rw [withT_out nb] at z'
            obtain ⟨_, ⟨o', u', w'⟩, _⟩ := is0 z'
            cases w'
      have grown : ∀ p ∈ cs, ∃ more : Array Value, s'.heap.get? p.2 = some { cls := .none, data := .fields more } := fun p hp => by
        obtain ⟨more, z⟩ := un.tbls p.2 #[] (withT_in (List.mem_map.mpr ⟨p, hp, rfl⟩))
        exact ⟨_, hok' p.2 _ z⟩
      have KX' : K.In s'.heap := fun b o e => key b o (fun z => by rw [tsN b z] at e; cases e) (KX b o e)
      obtain ⟨as, hrd⟩ := Dw.reads (R := Rw) (cl := cl) hok' KX' d0 v' u q rv
      refine ⟨u, as, rfl, hrd, ⟨fun b o e => ?_, fun b o e => ?_⟩, os, bare⟩
      · by_cases hb : b ∈ ts
        · obtain ⟨p, hp, ep⟩ := List.mem_map.mp hb
          obtain ⟨more, hm⟩ := grown p hp
          rw [← ep] at e ⊢
          rw [hT p hp] at e
          cases e
          exact .inr (.inl ⟨((C p hp).tab (hT p hp)).isCodeTable, rfl, #[], more, rfl, by rw [Array.empty_append]; exact hm⟩)
        · exact .inl (key b o hb e)
      · by_cases hb : b ∈ ts
        · obtain ⟨p, hp, ep⟩ := List.mem_map.mp hb
          obtain ⟨more, hm⟩ := grown p hp
          rw [← ep]
          exact ⟨_, hm⟩
        · exact ⟨o, key b o hb e⟩
end R
end

section

namespace R
open Cl05
def Ent.item (e : Ent) : Item := ⟨e.id, e.who, e.room, e.plan⟩
/-- what is booked, what waits -/
def bk (es : List Ent) : List Item := (es.filter fun e => !e.waits).map Ent.item
def wt (es : List Ent) : List Item := (es.filter fun e => e.waits).map Ent.item
theorem bk_cons (e : Ent) (es : List Ent) : bk (e :: es) = if e.waits = true then bk es else e.item :: bk es := by
  unfold bk
  cases h : e.waits <;> simp [h]
theorem wt_cons (e : Ent) (es : List Ent) : wt (e :: es) = if e.waits = true then e.item :: wt es else wt es := by
  unfold wt
  cases h : e.waits <;> simp [h]
theorem bk_append (a b : List Ent) : bk (a ++ b) = bk a ++ bk b := by unfold bk; rw [List.filter_append, List.map_append]
theorem wt_append (a b : List Ent) : wt (a ++ b) = wt a ++ wt b := by unfold wt; rw [List.filter_append, List.map_append]
/-- the specification's state and ours -/
structure Rel (s : State) (rooms : List Nat) (es : List Ent) (c : Nat) : Prop where
  rooms : s.rooms = rooms
  next : s.next = c
  wait : s.waiting = wt es
  book : s.booked.Perm (bk es)
  ids : (es.map (·.id)).Pairwise (· < ·)
  lt : ∀ e ∈ es, e.id < c
  ok : ∀ e ∈ es, RM.OkP e.plan
  five : ∀ e ∈ es, e.plan.skipped.length ≤ 5
  apart : ∀ e ∈ es, ∀ e' ∈ es, e.waits = false → e'.waits = false → e.id ≠ e'.id → e.room = e'.room → ∀ k j, ¬ RM.Ovl e.plan e'.plan k j
/-! ### what it meets -/
theorem clashE_eq (r : Nat) (p : Plan) : ∀ es : List Ent, clashE es r p = ((bk es).filter fun x => x.room == r).filterMap fun x => (meets p x.plan).map fun u => (u, x.id)
  | [] => rfl
  | e :: es => by
    have ih := clashE_eq r p es
    unfold clashE at ih ⊢
    rw [List.filterMap_cons, bk_cons]
    by_cases hw : e.waits = true
    · rw [if_pos hw, if_neg (by rw [hw]; simp)]
      exact ih
    · have hw' : e.waits = false := by simpa using hw
      rw [if_neg hw]
      by_cases hr : e.room = r
      · rw [if_pos ⟨hr, hw'⟩, List.filter_cons_of_pos (by simp [Ent.item, hr]), List.filterMap_cons, ih]
        rfl
      · rw [if_neg (fun z => hr z.1), List.filter_cons_of_neg (by simp [Ent.item, hr])]
        exact ih
theorem clashes_perm {s : State} {es : List Ent} (h : s.booked.Perm (bk es)) (r : Nat) (p : Plan) : (clashes s r p).Perm (clashE es r p) := by
  rw [clashE_eq]
  exact (h.filter _).filterMap _
/-- the first of all: by the moment, then by the number -/
def lexLe (a b : Nat × Nat) : Prop := a.1 < b.1 ∨ (a.1 = b.1 ∧ a.2 ≤ b.2)
def pick (m : Option (Nat × Nat)) (x : Nat × Nat) : Option (Nat × Nat) := match m with
  | none => some x
  | some y => if x.1 < y.1 ∨ (x.1 = y.1 ∧ x.2 < y.2) then some x else some y
theorem pick_some : ∀ (l : List (Nat × Nat)) (y : Nat × Nat), ∃ m, l.foldl pick (some y) = some m ∧ (m = y ∨ m ∈ l) ∧ lexLe m y ∧ ∀ x ∈ l, lexLe m x
  | [], y => ⟨y, rfl, .inl rfl, .inr ⟨rfl, Nat.le_refl _⟩, fun x hx => by cases hx⟩
  | x :: l, y => by
    show ∃ m, l.foldl pick (if x.1 < y.1 ∨ (x.1 = y.1 ∧ x.2 < y.2) then some x else some y) = some m ∧ _
    by_cases c : x.1 < y.1 ∨ (x.1 = y.1 ∧ x.2 < y.2)
    · rw [if_pos c]
      obtain ⟨m, e, h1, h2, h3⟩ := pick_some l x
      unfold lexLe at h2 h3 ⊢
      refine ⟨m, e, ?_, by omega, fun z hz => ?_⟩
      · rcases h1 with rfl | h1
        · exact .inr List.mem_cons_self
        · exact .inr (List.mem_cons_of_mem _ h1)
      · rcases List.mem_cons.mp hz with rfl | hz
        · exact h2
        · exact h3 z hz
    · rw [if_neg c]
      obtain ⟨m, e, h1, h2, h3⟩ := pick_some l y
      unfold lexLe at h2 h3 ⊢
      refine ⟨m, e, ?_, h2, fun z hz => ?_⟩
      · rcases h1 with rfl | h1
        · exact .inl rfl
        · exact .inr (List.mem_cons_of_mem _ h1)
      · rcases List.mem_cons.mp hz with rfl | hz
        · omega
        · exact h3 z hz
theorem clash_is {s : State} {r : Nat} {p : Plan} : (clashes s r p = [] → clash s r p = none) ∧ ∀ m, m ∈ clashes s r p → (∀ x ∈ clashes s r p, lexLe m x) → clash s r p = some m := by
  have e : clash s r p = (clashes s r p).foldl pick none := rfl
  rw [e]
  cases h : clashes s r p with
  | nil => exact ⟨fun _ => rfl, fun m hm => by cases hm⟩
  | cons y l =>
    refine ⟨fun z => (by cases z), fun m hm hl => ?_⟩
    obtain ⟨m', e', h1, h2, h3⟩ := pick_some l y
    show l.foldl pick (some y) = some m
    rw [e']
    have hm' : m' ∈ y :: l := by
      rcases h1 with rfl | h1
      · exact List.mem_cons_self
      · exact List.mem_cons_of_mem _ h1
    have a1 := hl m' hm'
    have a2 : lexLe m' m := by
      rcases List.mem_cons.mp hm with rfl | hm
      · exact h2
      · exact h3 m hm
    unfold lexLe at a1 a2
    congr 1
    apply Prod.ext <;> omega
theorem fits_iff {s : State} {es : List Ent} (h : s.booked.Perm (bk es)) (r : Nat) (p : Plan) : fits s r p = fitsE es r p := by
  have hp := clashes_perm h r p
  unfold fits fitsE
  cases e : clashE es r p with
  | nil =>
    rw [e] at hp
    rw [clash_is.1 hp.eq_nil]
    rfl
  | cons y l =>
    rw [e] at hp
    cases e2 : clashes s r p with
    | nil => rw [e2] at hp; exact absurd hp.symm.eq_nil (by simp)
    | cons z l2 =>
      have : clash s r p = l2.foldl pick (some z) := by
        show (clashes s r p).foldl pick none = _
        rw [e2]
        rfl
      obtain ⟨m', e', _⟩ := pick_some l2 z
      rw [this, e']
      rfl
theorem fits_all {s : State} {r : Nat} {p : Plan} : fits s r p = true ↔ ∀ x ∈ s.booked, x.room = r → meets p x.plan = none := by
  unfold fits
  have h : (clash s r p).isNone = true ↔ clashes s r p = [] := by
    constructor
    · intro z
      cases e : clashes s r p with
      | nil => rfl
      | cons y l =>
        have : clash s r p = l.foldl pick (some y) := by
          show (clashes s r p).foldl pick none = _
          rw [e]
          rfl
        obtain ⟨m', e', _⟩ := pick_some l y
        rw [this, e'] at z
        cases z
    · intro z
      rw [clash_is.1 z]
      rfl
  rw [h]
  unfold clashes
  rw [List.filterMap_eq_nil_iff]
  constructor
  · intro z x hx hr
    have := z x (List.mem_filter.mpr ⟨hx, by simp [hr]⟩)
    simpa using this
  · intro z x hx
    obtain ⟨h1, h2⟩ := List.mem_filter.mp hx
    rw [z x h1 (by simpa using h2)]
    rfl
/-! ### who waits is served -/
structure RelW (s : State) (es : List Ent) : Prop where
  wait : s.waiting = wt es
  book : s.booked.Perm (bk es)
  ids : (es.map (·.id)).Nodup
theorem mem_wt {es : List Ent} {x : Item} (h : x ∈ wt es) : ∃ e ∈ es, e.waits = true ∧ e.item = x := by
  unfold wt at h
  obtain ⟨e, he, rfl⟩ := List.mem_map.mp h
  obtain ⟨h1, h2⟩ := List.mem_filter.mp he
  exact ⟨e, h1, h2, rfl⟩
theorem serve_go : ∀ (rest done : List Ent) (s : State) (fuel : Nat), RelW s (done ++ rest) → (∀ e ∈ done, e.waits = true → fits s e.room e.plan = false) → (wt rest).length ≤ fuel →
    ∃ s', serve fuel s = (s', (serveGo done rest).2) ∧ RelW s' (serveGo done rest).1 ∧ s'.rooms = s.rooms ∧ s'.next = s.next
  | [], done, s, fuel, R, hn, _ => by
    have none : s.waiting.find? (fun x => fits s x.room x.plan) = none := by
      rw [List.find?_eq_none]
      intro x hx
      rw [R.wait, List.append_nil] at hx
      obtain ⟨e, he, hw, rfl⟩ := mem_wt hx
      have := hn e he hw
      show ¬ fits s e.room e.plan = true
      rw [this]
      simp
    refine ⟨s, ?_, ?_, rfl, rfl⟩
    · cases fuel with
      | zero => rfl
      | succ f => rw [serve, none]; rfl
    · rw [List.append_nil] at R; exact R
  | e :: rest, done, s, fuel, R, hn, hf => by
    have ef : fits s e.room e.plan = fitsE (done ++ e :: rest) e.room e.plan := fits_iff R.book _ _
    rw [wt_cons] at hf
    cases hw : e.waits with
    | false =>
      rw [hw, if_neg (by simp)] at hf
      have eg : serveGo done (e :: rest) = serveGo (done ++ [e]) rest := by rw [serveGo, if_neg (by rw [hw]; simp)]
      rw [eg]
      refine serve_go rest (done ++ [e]) s fuel (by rw [List.append_assoc]; exact R) (fun x hx hxw => ?_) hf
      rcases List.mem_append.mp hx with hx | hx
      · exact hn x hx hxw
      · rw [List.mem_singleton.mp hx, hw] at hxw
        cases hxw
    | true =>
      rw [hw, if_pos rfl] at hf
      cases hfit : fitsE (done ++ e :: rest) e.room e.plan with
      | false =>
        have eg : serveGo done (e :: rest) = serveGo (done ++ [e]) rest := by rw [serveGo, if_neg (by rw [hfit]; simp)]
        rw [eg]
        refine serve_go rest (done ++ [e]) s fuel (by rw [List.append_assoc]; exact R) (fun x hx hxw => ?_) (by simp at hf; omega)
        rcases List.mem_append.mp hx with hx | hx
        · exact hn x hx hxw
        · rw [List.mem_singleton.mp hx, ef, hfit]
      | true =>
        have eg : serveGo done (e :: rest) = ((serveGo (done ++ [e.freed]) rest).1, e.id :: (serveGo (done ++ [e.freed]) rest).2) := by rw [serveGo, if_pos (by rw [hw, hfit]; rfl)]
        rw [eg]
        obtain ⟨f, rfl⟩ : ∃ f, fuel = f + 1 := ⟨fuel - 1, by simp at hf; omega⟩
        have hid := R.ids
        rw [List.map_append, List.nodup_append] at hid
        obtain ⟨n1, n2, n3⟩ := hid
        rw [List.map_cons, List.nodup_cons] at n2
        have hsome : s.waiting.find? (fun x => fits s x.room x.plan) = some e.item := by
          rw [R.wait, wt_append, wt_cons, if_pos hw, List.find?_append]
          have : (wt done).find? (fun x => fits s x.room x.plan) = none := by
            rw [List.find?_eq_none]
            intro x hx
            obtain ⟨y, hy, hyw, rfl⟩ := mem_wt hx
            show ¬ fits s y.room y.plan = true
            rw [hn y hy hyw]
            simp
          rw [this, List.find?_cons_of_pos (by show fits s e.room e.plan = true; rw [ef, hfit])]
          rfl
        let s1 : State := { s with booked := s.booked ++ [e.item], waiting := s.waiting.filter fun y => y.id != e.item.id }
        have neD : ∀ x ∈ done, x.id ≠ e.id := fun x hx z => n3 x.id (List.mem_map.mpr ⟨x, hx, rfl⟩) e.id (by simp) z
        have neR : ∀ x ∈ rest, x.id ≠ e.id := fun x hx z => n2.1 (List.mem_map.mpr ⟨x, hx, z⟩)
        have keepF : ∀ l : List Ent, (∀ x ∈ l, x.id ≠ e.id) → (wt l).filter (fun y => y.id != e.item.id) = wt l := fun l hl => by
          rw [List.filter_eq_self]
          intro x hx
          obtain ⟨y, hy, _, rfl⟩ := mem_wt hx
          have := hl y hy
          simpa [Ent.item] using this
        have R1 : RelW s1 ((done ++ [e.freed]) ++ rest) := by
          refine ⟨?_, ?_, ?_⟩
          · show s.waiting.filter (fun y => y.id != e.item.id) = _
            rw [R.wait, wt_append, wt_cons, if_pos hw, List.filter_append, List.filter_cons_of_neg (by simp), keepF done neD, keepF rest neR, List.append_assoc, wt_append]
            congr 1
          · show (s.booked ++ [e.item]).Perm _
            have h1 : bk ((done ++ [e.freed]) ++ rest) = bk done ++ (e.item :: bk rest) := by
              rw [List.append_assoc, bk_append]
              rfl
            have h2 : bk (done ++ e :: rest) = bk done ++ bk rest := by rw [bk_append, bk_cons, if_pos hw]
            have hb := R.book
            rw [h2] at hb
            rw [h1]
            exact (hb.append_right [e.item]).trans (by rw [List.append_assoc]; exact List.Perm.append_left _ List.perm_append_comm)
          · have hid := R.ids
            rw [List.append_assoc, List.map_append]
            rw [List.map_append] at hid
            exact hid
        have mono : ∀ r p, fits s r p = false → fits s1 r p = false := fun r p z => by
          cases q : fits s1 r p with
          | false => rfl
          | true =>
            have : fits s r p = true := fits_all.mpr fun x hx hr => fits_all.mp q x (List.mem_append_left _ hx) hr
            rw [z] at this
            cases this
        obtain ⟨s', e1, e2, e3, e4⟩ := serve_go rest (done ++ [e.freed]) s1 f R1 (fun x hx hxw => by
          rcases List.mem_append.mp hx with hx | hx
          · exact mono _ _ (hn x hx hxw)
          · rw [List.mem_singleton.mp hx] at hxw
            cases hxw) (by simp at hf; omega)
        refine ⟨s', ?_, e2, e3, e4⟩
        rw [serve, hsome]
        show ((serve f s1).1, e.item.id :: (serve f s1).2) = _
        rw [e1]
        rfl
/-! ### nothing is had by two -/
theorem ovl_symm {p q : Plan} {k j : Nat} (h : RM.Ovl p q k j) : RM.Ovl q p j k := ⟨h.hq, h.hp, h.b, h.a⟩
def Apart (es : List Ent) : Prop := ∀ e ∈ es, ∀ e' ∈ es, e.waits = false → e'.waits = false → e.id ≠ e'.id → e.room = e'.room → ∀ k j, ¬ RM.Ovl e.plan e'.plan k j
theorem no_meet {p q : Plan} (hp : RM.OkP p) (hq : RM.OkP q) (h : meets p q = none) : ∀ k j, ¬ RM.Ovl p q k j := by
  have := RM.meets_first hp.len hq.len
  rw [h] at this
  exact this
theorem fitsE_all {es : List Ent} {r : Nat} {p : Plan} (h : fitsE es r p = true) : ∀ e ∈ es, e.waits = false → e.room = r → meets p e.plan = none := by
  intro e he hw hr
  unfold fitsE at h
  rw [List.isEmpty_iff] at h
  unfold clashE at h
  rw [List.filterMap_eq_nil_iff] at h
  have := h e he
  rw [if_pos ⟨hr, hw⟩] at this
  simpa using this
/-- of what is put behind the others, and fits -/
theorem Apart.one {done rest : List Ent} {e : Ent} (h : Apart (done ++ e :: rest)) (ok : ∀ x ∈ done ++ e :: rest, RM.OkP x.plan) (hf : fitsE (done ++ e :: rest) e.room e.plan = true) : Apart (done ++ e.freed :: rest) := by
  have free : ∀ x ∈ done ++ e :: rest, x.waits = false → x.room = e.room → ∀ k j, ¬ RM.Ovl e.plan x.plan k j := fun x hx hxw hr =>
    no_meet (ok e (by simp)) (ok x hx) (fitsE_all hf x hx hxw hr)
  have back : ∀ x ∈ done ++ e.freed :: rest, x = e.freed ∨ x ∈ done ++ e :: rest := fun x hx => by
    rcases List.mem_append.mp hx with hx | hx
    · exact .inr (List.mem_append_left _ hx)
    · rcases List.mem_cons.mp hx with hx | hx
      · exact .inl hx
      · exact .inr (List.mem_append_right _ (List.mem_cons_of_mem _ hx))
  intro a ha b hb wa wb hne hr k j
  rcases back a ha with rfl | ha' <;> rcases back b hb with rfl | hb'
  · exact absurd rfl hne
  · exact free b hb' wb hr.symm k j
  · exact fun z => free a ha' wa hr j k (ovl_symm z)
  · exact h a ha' b hb' wa wb hne hr k j
theorem go_keeps : ∀ (rest done : List Ent), Apart (done ++ rest) → (∀ x ∈ done ++ rest, RM.OkP x.plan) → Apart (serveGo done rest).1 ∧ (serveGo done rest).1.map (fun e => (e.id, e.who, e.room, e.plan, e.ba, e.pa, e.ga)) = (done ++ rest).map fun e => (e.id, e.who, e.room, e.plan, e.ba, e.pa, e.ga)
  | [], done, h, _ => by
    rw [List.append_nil] at h ⊢
    exact ⟨h, rfl⟩
  | e :: rest, done, h, ok => by
    rw [serveGo]
    by_cases c : (e.waits && fitsE (done ++ e :: rest) e.room e.plan) = true
    · rw [if_pos c]
      obtain ⟨c1, c2⟩ := Bool.and_eq_true_iff.mp c
      have ih := go_keeps rest (done ++ [e.freed]) (by rw [List.append_assoc]; exact h.one ok c2) (by
        rw [List.append_assoc]
        intro x hx
        rcases List.mem_append.mp hx with hx | hx
        · exact ok x (List.mem_append_left _ hx)
        · rcases List.mem_cons.mp hx with rfl | hx
          · exact ok e (by simp)
          · exact ok x (List.mem_append_right _ (List.mem_cons_of_mem _ hx)))
      refine ⟨ih.1, ih.2.trans ?_⟩
      rw [List.append_assoc, List.map_append, List.map_append (l₁ := done) (l₂ := e :: rest)]
      rfl
    · rw [if_neg c]
      have ih := go_keeps rest (done ++ [e]) (by rw [List.append_assoc]; exact h) (by rw [List.append_assoc]; exact ok)
      refine ⟨ih.1, ih.2.trans ?_⟩
      rw [List.append_assoc]
      rfl
/-- a property of what doesn't change of each -/
theorem all_of_map {α β : Type} {f : α → β} {l l' : List α} (h : l.map f = l'.map f) {p : β → Prop} (hp : ∀ x ∈ l', p (f x)) : ∀ x ∈ l, p (f x) := fun x hx => by
  have : f x ∈ l'.map f := by rw [← h]; exact List.mem_map.mpr ⟨x, hx, rfl⟩
  obtain ⟨y, hy, e⟩ := List.mem_map.mp this
  rw [← e]
  exact hp y hy
theorem map_of_map {α β γ : Type} {f : α → β} {l l' : List α} (h : l.map f = l'.map f) (g : β → γ) : l.map (fun x => g (f x)) = l'.map (fun x => g (f x)) := by
  have := congrArg (List.map g) h
  rw [List.map_map, List.map_map] at this
  exact this
theorem Rel.served {s : State} {rooms : List Nat} {es : List Ent} {c : Nat} (R : Rel s rooms es c) : (served s).2 = (serveGo [] es).2 ∧ Rel (served s).1 rooms (serveGo [] es).1 c := by
  have nd : (es.map (·.id)).Nodup := R.ids.imp (fun h => Nat.ne_of_lt h)
  obtain ⟨s', e1, R', e3, e4⟩ := serve_go es [] s s.waiting.length ⟨R.wait, R.book, nd⟩ (fun e he => by cases he) (by rw [R.wait]; exact Nat.le_refl _)
  obtain ⟨a1, a2⟩ := go_keeps es [] R.apart R.ok
  have es' : Cl05.served s = (s', (serveGo [] es).2) := e1
  rw [es']
  refine ⟨rfl, ⟨by rw [← R.rooms]; exact e3, by rw [← R.next]; exact e4, R'.wait, R'.book, ?_, ?_, ?_, ?_, a1⟩⟩
  · have := map_of_map a2 (fun x => x.1)
    show ((serveGo [] es).1.map (·.id)).Pairwise _
    rw [show (serveGo [] es).1.map (·.id) = es.map (·.id) from this]
    exact R.ids
  · exact all_of_map a2 (p := fun x => x.1 < c) (fun x hx => R.lt x hx)
  · exact all_of_map a2 (p := fun x => RM.OkP x.2.2.2.1) (fun x hx => R.ok x hx)
  · exact all_of_map a2 (p := fun x => x.2.2.2.1.skipped.length ≤ 5) (fun x hx => R.five x hx)
end R
end

section

namespace R
open Cl05
section
variable {s : State} {rooms : List Nat} {es : List Ent} {c : Nat}
theorem Rel.nd (R : Rel s rooms es c) : (es.map (·.id)).Nodup := R.ids.imp fun h => Nat.ne_of_lt h
theorem id_inj (nd : (es.map (·.id)).Nodup) {e e' : Ent} (h : e ∈ es) (h' : e' ∈ es) (q : e.id = e'.id) : e = e' := by
  obtain ⟨i, hi, rfl⟩ := List.mem_iff_getElem.mp h
  obtain ⟨j, hj, rfl⟩ := List.mem_iff_getElem.mp h'
  have h1 : (es.map (·.id))[i]? = some (es[i]).id := by rw [List.getElem?_map, List.getElem?_eq_getElem hi]; rfl
  have h2 : (es.map (·.id))[j]? = some (es[i]).id := by rw [List.getElem?_map, List.getElem?_eq_getElem hj, q]; rfl
  have := L2.nd_ix nd h1 h2
  subst this
  rfl
/-! ### how many there are -/
theorem bk_wt_len : ∀ es : List Ent, (bk es).length + (wt es).length = es.length
  | [] => rfl
  | e :: es => by
    have := bk_wt_len es
    rw [bk_cons, wt_cons]
    cases e.waits <;> simp <;> omega
theorem Rel.full (R : Rel s rooms es c) : full s = decide (24 ≤ es.length) := by
  unfold Cl05.full ITEMS
  rw [R.book.length_eq, R.wait, bk_wt_len]
/-! ### found by its number -/
theorem find_of (nd : (es.map (·.id)).Nodup) {e : Ent} (h : e ∈ es) : es.find? (fun x => x.id == e.id) = some e := by
  cases q : es.find? (fun x => x.id == e.id) with
  | none => have := List.find?_eq_none.mp q e h; simp at this
  | some x =>
    have h1 := List.mem_of_find?_eq_some q
    have h2 : x.id = e.id := by simpa using List.find?_some q
    rw [id_inj nd h1 h h2]
theorem find_item {k : Nat} : ∀ {l : List Item} {x : Item}, x ∈ l → x.id = k → (∀ y ∈ l, y.id = k → y = x) → l.find? (fun y => y.id == k) = some x
  | [], _, h, _, _ => by cases h
  | z :: l, x, h, e, u => by
    by_cases hz : z.id = k
    · rw [List.find?_cons_of_pos (by simp [hz]), u z List.mem_cons_self hz]
    · rw [List.find?_cons_of_neg (by simp [hz])]
      refine find_item ?_ e fun y hy => u y (List.mem_cons_of_mem _ hy)
      rcases List.mem_cons.mp h with rfl | h
      · exact absurd e hz
      · exact h
theorem mem_bk {x : Item} : x ∈ bk es ↔ ∃ e ∈ es, e.waits = false ∧ e.item = x := by
  unfold bk
  rw [List.mem_map]
  constructor
  · rintro ⟨e, he, rfl⟩
    obtain ⟨h1, h2⟩ := List.mem_filter.mp he
    exact ⟨e, h1, by simpa using h2, rfl⟩
  · rintro ⟨e, he, hw, rfl⟩
    exact ⟨e, List.mem_filter.mpr ⟨he, by simp [hw]⟩, rfl⟩
theorem mem_wt' {x : Item} : x ∈ wt es ↔ ∃ e ∈ es, e.waits = true ∧ e.item = x := by
  unfold wt
  rw [List.mem_map]
  constructor
  · rintro ⟨e, he, rfl⟩
    obtain ⟨h1, h2⟩ := List.mem_filter.mp he
    exact ⟨e, h1, h2, rfl⟩
  · rintro ⟨e, he, hw, rfl⟩
    exact ⟨e, List.mem_filter.mpr ⟨he, hw⟩, rfl⟩
theorem Rel.item_some (R : Rel s rooms es c) {e : Ent} (h : e ∈ es) (hw : e.waits = false) : item s e.id = some e.item := by
  unfold Cl05.item
  refine find_item (R.book.mem_iff.mpr (mem_bk.mpr ⟨e, h, hw, rfl⟩)) rfl fun y hy hk => ?_
  obtain ⟨e', h', _, rfl⟩ := mem_bk.mp (R.book.mem_iff.mp hy)
  rw [id_inj R.nd h' h hk]
theorem Rel.item_none (R : Rel s rooms es c) {k : Nat} (h : ∀ e ∈ es, e.id = k → e.waits = true) : item s k = none := by
  unfold Cl05.item
  rw [List.find?_eq_none]
  intro x hx
  obtain ⟨e, he, hw, rfl⟩ := mem_bk.mp (R.book.mem_iff.mp hx)
  intro z
  have := h e he (by simpa [Ent.item] using z)
  rw [hw] at this
  cases this
theorem Rel.waits_any (R : Rel s rooms es c) {e : Ent} (h : e ∈ es) (hw : e.waits = true) : s.waiting.any (fun x => x.id == e.id) = true := by
  rw [R.wait, List.any_eq_true]
  exact ⟨e.item, mem_wt'.mpr ⟨e, h, hw, rfl⟩, by simp [Ent.item]⟩
theorem Rel.waits_none (R : Rel s rooms es c) {k : Nat} (h : ∀ e ∈ es, e.id = k → e.waits = false) : s.waiting.any (fun x => x.id == k) = false := by
  rw [R.wait, List.any_eq_false]
  intro x hx
  obtain ⟨e, he, hw, rfl⟩ := mem_wt'.mp hx
  intro z
  have := h e he (by simpa [Ent.item] using z)
  rw [hw] at this
  cases this
/-! ### one more -/
theorem Rel.room (R : Rel s rooms es c) (n : Nat) : Rel { s with rooms := s.rooms ++ [n] } (rooms ++ [n]) es c :=
  ⟨by show s.rooms ++ [n] = _; rw [R.rooms], R.next, R.wait, R.book, R.ids, R.lt, R.ok, R.five, R.apart⟩
theorem ids_snoc (R : Rel s rooms es c) {e : Ent} (he : e.id = c) : ((es ++ [e]).map (·.id)).Pairwise (· < ·) := by
  rw [List.map_append, List.pairwise_append]
  refine ⟨R.ids, by simp, fun a ha b hb => ?_⟩
  obtain ⟨x, hx, rfl⟩ := List.mem_map.mp ha
  have := R.lt x hx
  simp at hb
  omega
theorem all_snoc {p : Ent → Prop} (h : ∀ x ∈ es, p x) {e : Ent} (he : p e) : ∀ x ∈ es ++ [e], p x := fun x hx => by
  rcases List.mem_append.mp hx with hx | hx
  · exact h x hx
  · rw [List.mem_singleton.mp hx]; exact he
theorem Rel.put (R : Rel s rooms es c) {e : Ent} (he : e.id = c) (hw : e.waits = false) (ok : RM.OkP e.plan) (five : e.plan.skipped.length ≤ 5) (hf : fitsE es e.room e.plan = true) : Rel (put s e.item) rooms (es ++ [e]) (c + 1) := by
  refine ⟨R.rooms, by show s.next + 1 = _; rw [R.next], ?_, ?_, ids_snoc R he, all_snoc (fun x hx => Nat.lt_succ_of_lt (R.lt x hx)) (by omega), all_snoc R.ok ok, all_snoc R.five five, ?_⟩
  · show s.waiting = _
    rw [wt_append, R.wait, wt_cons, if_neg (by rw [hw]; simp)]
    simp [wt]
  · show (s.booked ++ [e.item]).Perm _
    rw [bk_append, bk_cons, if_neg (by rw [hw]; simp)]
    exact R.book.append_right _
  · intro a ha b hb wa wb hne hr k j
    have new : ∀ x ∈ es, x.waits = false → x.room = e.room → ∀ k j, ¬ RM.Ovl e.plan x.plan k j := fun x hx hxw hr' => no_meet ok (R.ok x hx) (fitsE_all hf x hx hxw hr')
    rcases List.mem_append.mp ha with ha | ha <;> rcases List.mem_append.mp hb with hb | hb
    · exact R.apart a ha b hb wa wb hne hr k j
    · rw [List.mem_singleton.mp hb] at hr ⊢
      exact fun z => new a ha wa hr j k (ovl_symm z)
    · rw [List.mem_singleton.mp ha] at hr ⊢
      exact new b hb wb hr.symm k j
    · rw [List.mem_singleton.mp ha, List.mem_singleton.mp hb] at hne
      exact absurd rfl hne
theorem Rel.waiting (R : Rel s rooms es c) {e : Ent} (he : e.id = c) (hw : e.waits = true) (ok : RM.OkP e.plan) (five : e.plan.skipped.length ≤ 5) : Rel { s with waiting := s.waiting ++ [e.item], next := s.next + 1 } rooms (es ++ [e]) (c + 1) := by
  refine ⟨R.rooms, by show s.next + 1 = _; rw [R.next], ?_, ?_, ids_snoc R he, all_snoc (fun x hx => Nat.lt_succ_of_lt (R.lt x hx)) (by omega), all_snoc R.ok ok, all_snoc R.five five, ?_⟩
  · show s.waiting ++ [e.item] = _
    rw [wt_append, R.wait, wt_cons, if_pos hw]
    simp [wt]
  · rw [bk_append, bk_cons, if_pos hw]
    show s.booked.Perm (bk es ++ [])
    rw [List.append_nil]
    exact R.book
  · intro a ha b hb wa wb hne hr k j
    rcases List.mem_append.mp ha with ha | ha <;> rcases List.mem_append.mp hb with hb | hb
    · exact R.apart a ha b hb wa wb hne hr k j
    · rw [List.mem_singleton.mp hb, hw] at wb; cases wb
    · rw [List.mem_singleton.mp ha, hw] at wa; cases wa
    · rw [List.mem_singleton.mp ha, hw] at wa; cases wa
/-! ### one less -/
theorem bk_filter (k : Nat) : ∀ es : List Ent, bk (es.filter fun e => e.id != k) = (bk es).filter fun x => x.id != k
  | [] => rfl
  | e :: es => by
    have ih := bk_filter k es
    by_cases h : e.id = k
    · rw [List.filter_cons_of_neg (by simp [h]), bk_cons, ih]
      split
      · rfl
      · rw [List.filter_cons_of_neg (by simp [Ent.item, h])]
    · rw [List.filter_cons_of_pos (by simp [h]), bk_cons, bk_cons]
      split
      · exact ih
      · rw [List.filter_cons_of_pos (by simp [Ent.item, h]), ih]
theorem wt_filter (k : Nat) : ∀ es : List Ent, wt (es.filter fun e => e.id != k) = (wt es).filter fun x => x.id != k
  | [] => rfl
  | e :: es => by
    have ih := wt_filter k es
    by_cases h : e.id = k
    · rw [List.filter_cons_of_neg (by simp [h]), wt_cons, ih]
      split
      · rw [List.filter_cons_of_neg (by simp [Ent.item, h])]
      · rfl
    · rw [List.filter_cons_of_pos (by simp [h]), wt_cons, wt_cons]
      split
      · rw [List.filter_cons_of_pos (by simp [Ent.item, h]), ih]
      · exact ih
theorem Rel.less (R : Rel s rooms es c) (k : Nat) : Rel { s with booked := s.booked.filter (fun x => x.id != k), waiting := s.waiting.filter (fun x => x.id != k) } rooms (es.filter fun e => e.id != k) c := by
  have sub : ∀ x ∈ es.filter (fun e => e.id != k), x ∈ es := fun x hx => (List.mem_filter.mp hx).1
  refine ⟨R.rooms, R.next, ?_, ?_, ?_, fun x hx => R.lt x (sub x hx), fun x hx => R.ok x (sub x hx), fun x hx => R.five x (sub x hx), fun a ha b hb => R.apart a (sub a ha) b (sub b hb)⟩
  · show s.waiting.filter _ = _
    rw [wt_filter, R.wait]
  · rw [bk_filter]
    exact R.book.filter _
  · exact R.ids.sublist (List.filter_sublist.map _)
theorem filter_none {l : List Item} {k : Nat} (h : ∀ x ∈ l, x.id ≠ k) : l.filter (fun x => x.id != k) = l := by
  rw [List.filter_eq_self]
  intro x hx
  simpa using h x hx
/-- what waits no more -/
theorem Rel.lessW (R : Rel s rooms es c) {e : Ent} (h : e ∈ es) (hw : e.waits = true) : Rel { s with waiting := s.waiting.filter (fun x => x.id != e.id) } rooms (es.filter fun x => x.id != e.id) c := by
  have := R.less e.id
  rw [filter_none (l := s.booked)] at this
  · exact this
  · intro x hx z
    obtain ⟨y, hy, hyw, rfl⟩ := mem_bk.mp (R.book.mem_iff.mp hx)
    rw [id_inj R.nd hy h z, hw] at hyw
    cases hyw
/-- what is booked no more -/
theorem Rel.lessB (R : Rel s rooms es c) {e : Ent} (h : e ∈ es) (hw : e.waits = false) : Rel { s with booked := s.booked.filter (fun x => x.id != e.id) } rooms (es.filter fun x => x.id != e.id) c := by
  have := R.less e.id
  rw [filter_none (l := s.waiting)] at this
  · exact this
  · intro x hx z
    rw [R.wait] at hx
    obtain ⟨y, hy, hyw, rfl⟩ := mem_wt'.mp hx
    rw [id_inj R.nd hy h z, hw] at hyw
    cases hyw
/-! ### another plan, with fewer times -/
def Ent.with (e : Ent) (k : Nat) (p : Plan) : Ent := if e.id = k then { e with plan := p } else e
theorem with_id (e : Ent) (k : Nat) (p : Plan) : (e.with k p).id = e.id := by unfold Ent.with; split <;> rfl
theorem with_waits (e : Ent) (k : Nat) (p : Plan) : (e.with k p).waits = e.waits := by unfold Ent.with; split <;> rfl
theorem with_room (e : Ent) (k : Nat) (p : Plan) : (e.with k p).room = e.room := by unfold Ent.with; split <;> rfl
theorem with_item (e : Ent) (k : Nat) (p : Plan) : (e.with k p).item = if e.item.id = k then { e.item with plan := p } else e.item := by
  unfold Ent.with Ent.item
  split <;> rfl
theorem bk_with (k : Nat) (p : Plan) : ∀ es : List Ent, bk (es.map (·.with k p)) = (bk es).map fun x => if x.id = k then { x with plan := p } else x
  | [] => rfl
  | e :: es => by
    rw [List.map_cons, bk_cons, bk_cons, with_waits, bk_with k p es]
    split
    · rfl
    · rw [List.map_cons, with_item]
theorem wt_with {k : Nat} (p : Plan) : ∀ {es : List Ent}, (∀ e ∈ es, e.id = k → e.waits = false) → wt (es.map (·.with k p)) = wt es
  | [], _ => rfl
  | e :: es, h => by
    rw [List.map_cons, wt_cons, wt_cons, with_waits, wt_with p (fun x hx => h x (List.mem_cons_of_mem _ hx))]
    split
    · rename_i hw
      have : e.id ≠ k := fun z => by rw [h e List.mem_cons_self z] at hw; cases hw
      rw [show e.with k p = e from if_neg this]
    · rfl
structure Fewer (p q : Plan) : Prop where
  has : ∀ k, hasTime p k = true → hasTime q k = true
  time : ∀ k, timeOf p k = timeOf q k
  long : p.long = q.long
theorem Fewer.ovl {p q r : Plan} (h : Fewer p q) {k j : Nat} (o : RM.Ovl p r k j) : RM.Ovl q r k j :=
  ⟨h.has k o.hp, o.hq, by rw [← h.time]; exact o.a, by rw [← h.time, ← h.long]; exact o.b⟩
theorem Rel.change (R : Rel s rooms es c) {e : Ent} (h : e ∈ es) (hw : e.waits = false) {p : Plan} (ok : RM.OkP p) (five : p.skipped.length ≤ 5) (fw : Fewer p e.plan) :
    Rel { s with booked := s.booked.map fun x => if x.id = e.id then { x with plan := p } else x } rooms (es.map (·.with e.id p)) c := by
  have one : ∀ x ∈ es, x.id = e.id → x = e := fun x hx z => id_inj R.nd hx h z
  have each : ∀ y ∈ es.map (·.with e.id p), ∃ x ∈ es, y = x.with e.id p := fun y hy => by
    obtain ⟨x, hx, rfl⟩ := List.mem_map.mp hy
    exact ⟨x, hx, rfl⟩
  have fewer : ∀ x ∈ es, Fewer (x.with e.id p).plan x.plan := fun x hx => by
    unfold Ent.with
    split
    · rename_i z
      rw [one x hx z]
      exact fw
    · exact ⟨fun _ z => z, fun _ => rfl, rfl⟩
  refine ⟨R.rooms, R.next, ?_, ?_, ?_, ?_, ?_, ?_, ?_⟩
  · rw [wt_with p fun x hx z => by rw [one x hx z]; exact hw]
    exact R.wait
  · rw [bk_with]
    exact R.book.map _
  · rw [List.map_map]
    have : (fun x : Ent => x.id) ∘ (fun x : Ent => x.with e.id p) = fun x : Ent => x.id := by funext x; exact with_id x _ _
    rw [this]
    exact R.ids
  · intro y hy
    obtain ⟨x, hx, rfl⟩ := each y hy
    rw [with_id]
    exact R.lt x hx
  · intro y hy
    obtain ⟨x, hx, rfl⟩ := each y hy
    unfold Ent.with
    split
    · exact ok
    · exact R.ok x hx
  · intro y hy
    obtain ⟨x, hx, rfl⟩ := each y hy
    unfold Ent.with
    split
    · exact five
    · exact R.five x hx
  · intro a ha b hb wa wb hne hr k j o
    obtain ⟨x, hx, rfl⟩ := each a ha
    obtain ⟨y, hy, rfl⟩ := each b hb
    rw [with_waits] at wa wb
    rw [with_id, with_id] at hne
    rw [with_room, with_room] at hr
    have o1 := (fewer x hx).ovl o
    have o2 := (fewer y hy).ovl (ovl_symm o1)
    exact R.apart x hx y hy wa wb hne hr k j (ovl_symm o2)
theorem fewer_skip (p : Plan) (i : Nat) : Fewer { p with skipped := p.skipped ++ [i] } p := by
  refine ⟨fun k h => ?_, fun k => rfl, rfl⟩
  obtain ⟨h1, h2⟩ := RM.hasTime_iff.mp h
  exact RM.hasTime_iff.mpr ⟨h1, fun z => h2 (List.mem_append_left _ z)⟩
theorem fewer_cut (p : Plan) {i : Nat} (hd : p.days ≠ 0) (h0 : i ≠ 0) (h : p.times ≠ 0 → i < p.times) : Fewer { p with times := i } p := by
  refine ⟨fun k hk => ?_, fun k => rfl, rfl⟩
  obtain ⟨h1, h2⟩ := RM.hasTime_iff.mp hk
  refine RM.hasTime_iff.mpr ⟨⟨fun z => absurd z hd, fun _ => ?_⟩, h2⟩
  have h3 : i = 0 ∨ k < i := h1.2 hd
  by_cases z : p.times = 0
  · exact .inl z
  · have := h z
    exact .inr (by omega)
end
end R
end

section

namespace R
open Cl05
section
variable {s : State} {rooms : List Nat} {es : List Ent} {c r u : Nat}
/-- booked in a room -/
def InRoom (es : List Ent) (r : Nat) (e : Ent) : Prop := e ∈ es ∧ e.waits = false ∧ e.room = r
theorem Rel.mem_room (R : Rel s rooms es c) {x : Item} (hx : x ∈ s.booked) (hr : x.room = r) : ∃ e, InRoom es r e ∧ e.item = x := by
  obtain ⟨e, he, hw, rfl⟩ := mem_bk.mp (R.book.mem_iff.mp hx)
  exact ⟨e, ⟨he, hw, hr⟩, rfl⟩
theorem Rel.in_booked (R : Rel s rooms es c) {e : Ent} (h : InRoom es r e) : e.item ∈ s.booked := R.book.mem_iff.mpr (mem_bk.mpr ⟨e, h.1, h.2.1, rfl⟩)
/-- no moment is had by two -/
theorem Rel.one_has (R : Rel s rooms es c) {e e' : Ent} (h : InRoom es r e) (h' : InRoom es r e') (a : RM.Has e.plan u) (b : RM.Has e'.plan u) : e = e' := by
  refine id_inj R.nd h.1 h'.1 (Decidable.byContradiction fun n => ?_)
  obtain ⟨k, h1, h2, h3⟩ := a
  obtain ⟨j, g1, g2, g3⟩ := b
  exact R.apart e h.1 e' h'.1 h.2.1 h'.2.1 n (h.2.2.trans h'.2.2.symm) k j ⟨h1, g1, by omega, by omega⟩
/-! ### at -/
theorem find_only {p : Item → Bool} : ∀ {l : List Item} {x : Item}, x ∈ l → p x = true → (∀ y ∈ l, p y = true → y = x) → l.find? p = some x
  | [], _, h, _, _ => by cases h
  | z :: l, x, h, e, w => by
    by_cases hz : p z = true
    · rw [List.find?_cons_of_pos hz, w z List.mem_cons_self hz]
    · rw [List.find?_cons_of_neg hz]
      refine find_only ?_ e fun y hy => w y (List.mem_cons_of_mem _ hy)
      rcases List.mem_cons.mp h with rfl | h
      · exact absurd e hz
      · exact h
theorem Rel.holder_some (R : Rel s rooms es c) {e : Ent} (h : InRoom es r e) (a : RM.Has e.plan u) : holder s r u = some e.item := by
  unfold holder
  refine find_only (R.in_booked h) ?_ fun y hy hp => ?_
  · rw [Bool.and_eq_true]
    exact ⟨by simpa [Ent.item] using h.2.2, (RM.takes_iff (R.ok e h.1).len).mpr a⟩
  · rw [Bool.and_eq_true] at hp
    obtain ⟨e', h', rfl⟩ := R.mem_room hy (by simpa using hp.1)
    rw [R.one_has h' h ((RM.takes_iff (R.ok e' h'.1).len).mp hp.2) a]
theorem Rel.holder_none (R : Rel s rooms es c) (h : ∀ e, InRoom es r e → ¬ RM.Has e.plan u) : holder s r u = none := by
  unfold holder
  rw [List.find?_eq_none]
  intro y hy hp
  rw [Bool.and_eq_true] at hp
  obtain ⟨e', h', rfl⟩ := R.mem_room hy (by simpa using hp.1)
  exact h e' h' ((RM.takes_iff (R.ok e' h'.1).len).mp hp.2)
/-! ### next -/
def pickN (m : Option (Nat × Nat)) (x : Nat × Nat) : Option (Nat × Nat) := match m with
  | none => some x
  | some y => if x.1 < y.1 then some x else some y
theorem pickN_some : ∀ (l : List (Nat × Nat)) (y : Nat × Nat), ∃ m, l.foldl pickN (some y) = some m ∧ (m = y ∨ m ∈ l) ∧ m.1 ≤ y.1 ∧ ∀ x ∈ l, m.1 ≤ x.1
  | [], y => ⟨y, rfl, .inl rfl, Nat.le_refl _, fun x hx => by cases hx⟩
  | x :: l, y => by
    show ∃ m, l.foldl pickN (if x.1 < y.1 then some x else some y) = some m ∧ _
    by_cases cc : x.1 < y.1
    · rw [if_pos cc]
      obtain ⟨m, e, h1, h2, h3⟩ := pickN_some l x
      refine ⟨m, e, ?_, by omega, fun z hz => ?_⟩
      · rcases h1 with rfl | h1
        · exact .inr List.mem_cons_self
        · exact .inr (List.mem_cons_of_mem _ h1)
      · rcases List.mem_cons.mp hz with rfl | hz
        · exact h2
        · exact h3 z hz
    · rw [if_neg cc]
      obtain ⟨m, e, h1, h2, h3⟩ := pickN_some l y
      refine ⟨m, e, ?_, h2, fun z hz => ?_⟩
      · rcases h1 with rfl | h1
        · exact .inl rfl
        · exact .inr (List.mem_cons_of_mem _ h1)
      · rcases List.mem_cons.mp hz with rfl | hz
        · omega
        · exact h3 z hz
def nexts (s : State) (r u : Nat) : List (Nat × Nat) := (s.booked.filter fun (x : Item) => x.room == r).filterMap fun (x : Item) => (nextOf x.plan u).map fun (t : Nat) => (t, x.id)
theorem Rel.mem_nexts (R : Rel s rooms es c) {m : Nat × Nat} : m ∈ nexts s r u ↔ ∃ e, InRoom es r e ∧ nextOf e.plan u = some m.1 ∧ e.id = m.2 := by
  unfold nexts
  rw [List.mem_filterMap]
  constructor
  · rintro ⟨x, hx, hm⟩
    obtain ⟨h1, h2⟩ := List.mem_filter.mp hx
    obtain ⟨e, he, rfl⟩ := R.mem_room h1 (by simpa using h2)
    obtain ⟨t, ht, rfl⟩ := Option.map_eq_some_iff.mp hm
    exact ⟨e, he, ht, rfl⟩
  · rintro ⟨e, he, ht, hid⟩
    refine ⟨e.item, List.mem_filter.mpr ⟨R.in_booked he, by simpa [Ent.item] using he.2.2⟩, ?_⟩
    show (nextOf e.plan u).map _ = _
    rw [ht]
    show some (m.1, e.id) = some m
    rw [hid]
theorem Rel.nextIn_none (R : Rel s rooms es c) (h : ∀ e, InRoom es r e → nextOf e.plan u = none) : nextIn s r u = none := by
  have e0 : nextIn s r u = (nexts s r u).foldl pickN none := rfl
  have : nexts s r u = [] := by
    rw [List.eq_nil_iff_forall_not_mem]
    intro m hm
    obtain ⟨e, he, ht, _⟩ := R.mem_nexts.mp hm
    rw [h e he] at ht
    cases ht
  rw [e0, this]
  rfl
theorem Rel.nextIn_some (R : Rel s rooms es c) {e : Ent} {t : Nat} (h : InRoom es r e) (ht : nextOf e.plan u = some t) (hl : ∀ e' t', InRoom es r e' → nextOf e'.plan u = some t' → t ≤ t') : nextIn s r u = some (t, e.id) := by
  have e0 : nextIn s r u = (nexts s r u).foldl pickN none := rfl
  have hm : (t, e.id) ∈ nexts s r u := R.mem_nexts.mpr ⟨e, h, ht, rfl⟩
  rw [e0]
  cases q : nexts s r u with
  | nil => rw [q] at hm; cases hm
  | cons y l =>
    obtain ⟨m, em, h1, h2, h3⟩ := pickN_some l y
    show l.foldl pickN (some y) = _
    rw [em]
    have hmm : m ∈ nexts s r u := by
      rw [q]
      rcases h1 with rfl | h1
      · exact List.mem_cons_self
      · exact List.mem_cons_of_mem _ h1
    obtain ⟨e', h', ht', hid⟩ := R.mem_nexts.mp hmm
    have a1 := hl e' _ h' ht'
    have a2 : m.1 ≤ t := by
      rw [q] at hm
      rcases List.mem_cons.mp hm with hm | hm
      · rw [← hm] at h2; exact h2
      · exact h3 _ hm
    have et : m.1 = t := by omega
    -- both begin there: one and the same
    have n1 := RM.nextOf_next (p := e.plan) u
    have n2 := RM.nextOf_next (p := e'.plan) u
    rw [ht] at n1
    rw [ht', et] at n2
    obtain ⟨⟨k, k1, k2⟩, _, _⟩ := n1
    obtain ⟨⟨j, j1, j2⟩, _, _⟩ := n2
    have l1 := (R.ok e h.1).len.lo
    have l2 := (R.ok e' h'.1).len.lo
    have ee : e' = e := R.one_has (u := t) h' h ⟨j, j1, by omega, by omega⟩ ⟨k, k1, by omega, by omega⟩
    rw [ee] at hid
    rw [← et, hid]
/-! ### used -/
def usedE (es : List Ent) (r a b : Nat) : Nat := (es.map fun e => if e.room = r ∧ e.waits = false then usedBy e.plan a b else 0).foldl (fun (x y : Nat) => x + y) 0
theorem fold_perm {l l' : List Nat} (h : l.Perm l') : ∀ z, l.foldl (fun (x y : Nat) => x + y) z = l'.foldl (fun (x y : Nat) => x + y) z := by
  induction h with
  | nil => intro z; rfl
  | cons x _ ih => intro z; exact ih _
  | swap x y l => intro z; show l.foldl _ (z + y + x) = l.foldl _ (z + x + y); rw [Nat.add_right_comm]
  | trans _ _ h1 h2 => intro z; rw [h1, h2]
theorem used_bk (r a b : Nat) : ∀ (es : List Ent) (z : Nat), (((bk es).filter fun (x : Item) => x.room == r).map fun (x : Item) => usedBy x.plan a b).foldl (fun (x y : Nat) => x + y) z = (es.map fun e => if e.room = r ∧ e.waits = false then usedBy e.plan a b else 0).foldl (fun (x y : Nat) => x + y) z
  | [], _ => rfl
  | e :: es, z => by
    rw [bk_cons, List.map_cons, List.foldl_cons, ← used_bk r a b es]
    cases hw : e.waits with
    | true => rw [if_pos rfl, if_neg (by simp)]; rfl
    | false =>
      rw [if_neg (by simp)]
      by_cases hr : e.room = r
      · rw [List.filter_cons_of_pos (by simpa [Ent.item] using hr), if_pos ⟨hr, rfl⟩]
        rfl
      · rw [List.filter_cons_of_neg (by simpa [Ent.item] using hr), if_neg (fun q => hr q.1)]
        rfl
theorem Rel.used (R : Rel s rooms es c) (r a b : Nat) : ((s.booked.filter fun (x : Item) => x.room == r).map fun (x : Item) => usedBy x.plan a b).foldl (fun (x y : Nat) => x + y) 0 = usedE es r a b := by
  rw [fold_perm ((R.book.filter _).map _) 0, used_bk]
  rfl
/-! ### tell -/
theorem Rel.tell_some (R : Rel s rooms es c) {e : Ent} (h : e ∈ es) : (s.booked ++ s.waiting).find? (fun (x : Item) => x.id == e.id) = some e.item ∧ (item s e.id).isSome = !e.waits := by
  constructor
  · refine find_item ?_ rfl fun y hy hk => ?_
    · rw [List.mem_append, R.wait]
      cases hw : e.waits with
      | true => exact .inr (mem_wt'.mpr ⟨e, h, hw, rfl⟩)
      | false => exact .inl (R.book.mem_iff.mpr (mem_bk.mpr ⟨e, h, hw, rfl⟩))
    · rw [List.mem_append, R.wait] at hy
      rcases hy with hy | hy
      · obtain ⟨e', h', _, rfl⟩ := mem_bk.mp (R.book.mem_iff.mp hy)
        rw [id_inj R.nd h' h hk]
      · obtain ⟨e', h', _, rfl⟩ := mem_wt'.mp hy
        rw [id_inj R.nd h' h hk]
  · cases hw : e.waits with
    | true =>
      rw [R.item_none fun e' h' hk => by rw [id_inj R.nd h' h hk]; exact hw]
      rfl
    | false =>
      rw [R.item_some h hw]
      rfl
theorem Rel.tell_none (R : Rel s rooms es c) {k : Nat} (h : ∀ e ∈ es, e.id ≠ k) : (s.booked ++ s.waiting).find? (fun (x : Item) => x.id == k) = none := by
  rw [List.find?_eq_none]
  intro y hy hk
  rw [List.mem_append, R.wait] at hy
  rcases hy with hy | hy
  · obtain ⟨e', h', _, rfl⟩ := mem_bk.mp (R.book.mem_iff.mp hy)
    exact h e' h' (by simpa [Ent.item] using hk)
  · obtain ⟨e', h', _, rfl⟩ := mem_wt'.mp hy
    exact h e' h' (by simpa [Ent.item] using hk)
theorem Rel.tells (R : Rel s rooms es c) {e : Ent} (h : e ∈ es) : step s (.tell e.id) = (s, nums ([if e.waits = true then 0 else 1, e.who, e.room, e.plan.from_, e.plan.long, e.plan.days, e.plan.times, e.plan.skipped.length] ++ e.plan.skipped)) := by
  obtain ⟨h1, h2⟩ := R.tell_some h
  show (s, match (s.booked ++ s.waiting).find? (fun (x : Item) => x.id == e.id) with
    | none => [-4]
    | some x => nums ([if (item s e.id).isSome = true then 1 else 0, x.who, x.room, x.plan.from_, x.plan.long, x.plan.days, x.plan.times, x.plan.skipped.length] ++ x.plan.skipped)) = _
  rw [h1, h2]
  cases e.waits <;> rfl
theorem Rel.tells_not (R : Rel s rooms es c) {k : Nat} (h : ∀ e ∈ es, e.id ≠ k) : step s (.tell k) = (s, [-4]) := by
  show (s, match (s.booked ++ s.waiting).find? (fun (x : Item) => x.id == k) with
    | none => [-4]
    | some x => nums ([if (item s k).isSome = true then 1 else 0, x.who, x.room, x.plan.from_, x.plan.long, x.plan.days, x.plan.times, x.plan.skipped.length] ++ x.plan.skipped)) = _
  rw [R.tell_none h]
/-! ### queue -/
def waitIds (es : List Ent) : List Nat := (es.filter fun e => e.waits).map (·.id)
theorem Rel.queue (R : Rel s rooms es c) : step s .queue = (s, nums ((waitIds es).length :: waitIds es)) := by
  have e : s.waiting.map (fun (x : Item) => x.id) = waitIds es := by
    rw [R.wait]
    unfold wt waitIds
    rw [List.map_map]
    rfl
  have l : s.waiting.length = (waitIds es).length := by rw [← e, List.length_map]
  show (s, nums (s.waiting.length :: s.waiting.map fun (x : Item) => x.id)) = _
  rw [e, l]
/-! ### cut -/
theorem okP_cut {p : Plan} (h : RM.OkP p) {i : Nat} (hd : p.days ≠ 0) (hi : i ≤ 500) : RM.OkP { p with times := i } := ⟨⟨h.len.lo, h.len.hi⟩, h.first, h.days, hi, fun z => absurd z hd⟩
end
end R
end

section
set_option maxRecDepth 100000
set_option maxHeartbeats 2000000
namespace R
open PySem PySem.Spec PyProof.Rows L2 LamX
/-! ### the house as a whole, between two calls -/
def foot (h sl dl : Addr) (es : List Ent) (x : Addr) : Prop := x = h ∨ x = sl ∨ x = dl ∨ ∃ e ∈ es, x = e.ba ∨ x = e.pa ∨ x = e.ga
structure H9 (TT : List (Addr × Str)) (CH CB CP : Addr) (H : Hp) (h : Addr) (s : Cl05.State) (av : Addr → Prop) (sl dl : Addr) (rooms : List Nat) (es : List Ent) (c : Nat) : Prop where
  at_ : HouseAt CH CB CP id H h sl dl rooms es c
  rel : Rel s rooms es c
  few : rooms.length ≤ 5
  items : es.length ≤ 24
  nga : (sl :: es.map (·.ga)).Nodup
  npa : (es.map (·.pa)).Nodup
  tabs : Tabs TT H
  avoid : ∀ x, av x → ¬ foot h sl dl es x
/-- none that waits fits -/
def Idle (es : List Ent) : Prop := ∀ e ∈ es, e.waits = true → fitsE es e.room e.plan = false
theorem fitsE_iff {es : List Ent} {r : Nat} {p : Cl05.Plan} : fitsE es r p = true ↔ ∀ e ∈ es, e.waits = false → e.room = r → Cl05.meets p e.plan = none := by
  refine ⟨fitsE_all, fun h => ?_⟩
  unfold fitsE
  rw [List.isEmpty_iff]
  unfold clashE
  rw [List.filterMap_eq_nil_iff]
  intro e he
  by_cases c : e.room = r ∧ e.waits = false
  · rw [if_pos c, h e he c.2 c.1]
    rfl
  · rw [if_neg c]
/-- what doesn't fit doesn't fit where more is booked -/
theorem fitsE_mono {es es' : List Ent} {r : Nat} {p : Cl05.Plan} (h : ∀ e ∈ es, e.waits = false → ∃ e' ∈ es', e'.waits = false ∧ e'.room = e.room ∧ e'.plan = e.plan) (hf : fitsE es r p = false) : fitsE es' r p = false := by
  cases q : fitsE es' r p with
  | false => rfl
  | true =>
    have : fitsE es r p = true := fitsE_iff.mpr fun e he hw hr => by
      obtain ⟨e', he', hw', hr', hp'⟩ := h e he hw
      rw [← hp']
      exact fitsE_iff.mp q e' he' hw' (hr'.trans hr)
    rw [hf] at this
    cases this
theorem idle_go : ∀ (rest done : List Ent), (∀ e ∈ done, e.waits = true → fitsE (done ++ rest) e.room e.plan = false) → Idle (serveGo done rest).1
  | [], done, h => by rw [List.append_nil] at h; exact h
  | e :: rest, done, h => by
    rw [serveGo]
    by_cases c : (e.waits && fitsE (done ++ e :: rest) e.room e.plan) = true
    · rw [if_pos c]
      refine idle_go rest (done ++ [e.freed]) fun x hx hw => ?_
      rw [List.append_assoc]
      rcases List.mem_append.mp hx with hx | hx
      · refine fitsE_mono (fun y hy hyw => ?_) (h x hx hw)
        rcases List.mem_append.mp hy with hy | hy
        · exact ⟨y, List.mem_append_left _ hy, hyw, rfl, rfl⟩
        · rcases List.mem_cons.mp hy with rfl | hy
          · rw [(Bool.and_eq_true_iff.mp c).1] at hyw; cases hyw
          · exact ⟨y, List.mem_append_right _ (List.mem_append_right _ hy), hyw, rfl, rfl⟩
      · rw [List.mem_singleton.mp hx] at hw
        cases hw
    · rw [if_neg c]
      refine idle_go rest (done ++ [e]) fun x hx hw => ?_
      rw [List.append_assoc]
      rcases List.mem_append.mp hx with hx | hx
      · exact h x hx hw
      · rw [List.mem_singleton.mp hx] at hw ⊢
        rw [hw, Bool.true_and] at c
        simpa using c
theorem go_idle : ∀ (rest done : List Ent), (∀ e ∈ rest, e.waits = true → fitsE (done ++ rest) e.room e.plan = false) → serveGo done rest = (done ++ rest, [])
  | [], done, _ => by rw [List.append_nil]; rfl
  | e :: rest, done, h => by
    rw [serveGo, if_neg]
    · have := go_idle rest (done ++ [e]) fun x hx hw => by rw [List.append_assoc]; exact h x (List.mem_cons_of_mem _ hx) hw
      rw [this, List.append_assoc]
      rfl
    · intro c
      obtain ⟨c1, c2⟩ := Bool.and_eq_true_iff.mp c
      rw [h e List.mem_cons_self c1] at c2
      cases c2
theorem Idle.snoc {es : List Ent} (h : Idle es) {e : Ent} (he : e.waits = true → fitsE (es ++ [e]) e.room e.plan = false) : Idle (es ++ [e]) := fun x hx hw => by
  rcases List.mem_append.mp hx with hx | hx
  · exact fitsE_mono (fun y hy hyw => ⟨y, List.mem_append_left _ hy, hyw, rfl, rfl⟩) (h x hx hw)
  · rw [List.mem_singleton.mp hx] at hw ⊢
    exact he hw
/-- of what waits one goes -/
theorem Idle.less {es : List Ent} (h : Idle es) {e : Ent} (nd : (es.map (·.id)).Nodup) (he : e ∈ es) (hw : e.waits = true) : Idle (es.filter fun x => x.id != e.id) := fun x hx hxw => by
  refine fitsE_mono (fun y hy hyw => ⟨y, List.mem_filter.mpr ⟨hy, ?_⟩, hyw, rfl, rfl⟩) (h x (List.mem_filter.mp hx).1 hxw)
  simp only [bne_iff_ne, ne_eq]
  intro z
  rw [id_inj nd hy he z, hw] at hyw
  cases hyw
def Good (TT : List (Addr × Str)) (CH CB CP : Addr) (H : Hp) (h : Addr) (s : Cl05.State) (av : Addr → Prop) : Prop := ∃ sl dl rooms es c, H9 TT CH CB CP H h s av sl dl rooms es c ∧ Idle es
/-- what is to be left alone stands, and is no code table -/
def HeldA (H : Hp) (av : Addr → Prop) : Prop := ∀ x, av x → ∃ o, H x = some o ∧ ∀ ps, o ≠ .tbl ps
def KeepA (H H' : Hp) (av : Addr → Prop) : Prop := ∀ x o, av x → H x = some o → H' x = some o
section
variable {TT : List (Addr × Str)} {CH CB CP h sl dl : Addr} {H H' : Hp} {s : Cl05.State} {av : Addr → Prop} {rooms : List Nat} {es : List Ent} {c : Nat}
theorem H9.same (N : H9 TT CH CB CP H h s av sl dl rooms es c) (e : Same H H') : H9 TT CH CB CP H' h s av sl dl rooms es c :=
  ⟨N.at_.same e, N.rel, N.few, N.items, N.nga, N.npa, N.tabs.ext e, N.avoid⟩
theorem HeldA.not (ha : HeldA H av) {l : Addr} (hl : H l = none) : ¬ av l := fun z => by
  obtain ⟨o, e, _⟩ := ha l z
  rw [hl] at e
  cases e
theorem HeldA.keep (ha : HeldA H av) (k : KeepA H H' av) : HeldA H' av := fun x hx => by
  obtain ⟨o, e, n⟩ := ha x hx
  exact ⟨o, k x o hx e, n⟩
theorem KeepA.of_same (e : Same H H') : KeepA H H' av := fun x o _ q => e x o q
theorem KeepA.trans {H'' : Hp} (a : KeepA H H' av) (b : KeepA H' H'' av) : KeepA H H'' av := fun x o hx q => b x o hx (a x o hx q)
theorem KeepA.of_ext (ha : HeldA H av) (e : ExtN H H') : KeepA H H' av := fun x o hx q => by
  obtain ⟨o', e', n⟩ := ha x hx
  rw [e'] at q
  cases q
  exact e x _ e' n
theorem new_same {l : Addr} {o : HO} (hl : H l = none) : Same H (upd H l o) := fun b u e => by rw [upd_ne (ne_of_none e hl)]; exact e
/-- tables and code objects alone matter to the tables -/
theorem tabs_keep (t : Tabs TT H) (k : ∀ b o, H b = some o → (∀ xs, o ≠ .lst xs) → (∀ kv, o ≠ .dK kv) → (∀ C d fs, o ≠ .ins C d fs) → H' b = some o) : Tabs TT H' := fun p hp => by
  obtain ⟨ps, h1, h2, h3⟩ := t p hp
  refine ⟨ps, k _ _ h1 (fun _ z => by cases z) (fun _ z => by cases z) (fun _ _ _ z => by cases z), h2, fun pos cv hc => ?_⟩
  obtain ⟨c, e1, e2⟩ := h3 pos cv hc
  exact ⟨c, e1, k _ _ e2 (fun _ z => by unfold CodeO at z; cases z) (fun _ z => by unfold CodeO at z; cases z) (fun _ _ _ z => by unfold CodeO at z; cases z)⟩
/-- what is booked anew, or waits: the answer of hold -/
theorem H9.hold {H0 : Hp} {s' : Cl05.State} (N : H9 TT CH CB CP H h s av sl dl rooms es c) (e0 : Same H0 H) (hav : HeldA H0 av) (N0 : HouseAt CH CB CP id H0 h sl dl rooms es c) {e : Ent} (hba : H e.ba = none) (hpa : H0 e.pa = none) (hga : H0 e.ga = none)
    (A : HouseAt CH CB CP id H' h sl dl rooms (es ++ [e]) (c + 1)) (kp : ∀ x o, H x = some o → x ≠ h → x ≠ dl → H' x = some o) (R' : Rel s' rooms (es ++ [e]) (c + 1)) (hl : es.length < 24) : H9 TT CH CB CP H' h s' av sl dl rooms (es ++ [e]) (c + 1) := by
  obtain ⟨⟨dx, h1⟩, h2, h3, h4⟩ := id N.at_
  obtain ⟨⟨dx0, g1⟩, g2, g3, g4⟩ := N0
  refine ⟨A, R', N.few, by rw [List.length_append]; show es.length + 1 ≤ 24; omega, ?_, ?_, ?_, fun x hx z => ?_⟩
  · rw [List.map_append, ← List.cons_append, List.nodup_append]
    refine ⟨N.nga, by simp, fun a ha b hb => ?_⟩
    simp at hb
    subst hb
    rcases List.mem_cons.mp ha with rfl | ha
    · exact ne_of_none g2 hga
    · obtain ⟨y, hy, rfl⟩ := List.mem_map.mp ha
      exact ne_of_none (g4 y hy).pl.gu hga
  · rw [List.map_append, List.nodup_append]
    refine ⟨N.npa, by simp, fun a ha b hb => ?_⟩
    simp at hb
    subst hb
    obtain ⟨y, hy, rfl⟩ := List.mem_map.mp ha
    obtain ⟨d, q⟩ := (g4 y hy).pl.ob
    exact ne_of_none q hpa
  · refine tabs_keep N.tabs fun b o q n1 n2 n3 => kp b o q (fun z => ?_) fun z => ?_
    · rw [z, h1] at q
      cases q
      exact n3 _ _ _ rfl
    · rw [z] at q
      rw [show H dl = some (.dK (kvs es)) from h3] at q
      cases q
      exact n2 _ rfl
  · rcases z with z | z | z | ⟨y, hy, z⟩
    · exact N.avoid x hx (.inl z)
    · exact N.avoid x hx (.inr (.inl z))
    · exact N.avoid x hx (.inr (.inr (.inl z)))
    · rcases List.mem_append.mp hy with hy | hy
      · exact N.avoid x hx (.inr (.inr (.inr ⟨y, hy, z⟩)))
      · rw [List.mem_singleton] at hy
        subst hy
        obtain ⟨o, q, _⟩ := hav x hx
        rcases z with z | z | z
        · rw [z] at q
          have := e0 _ _ q
          rw [hba] at this
          cases this
        · rw [z, hpa] at q
          cases q
        · rw [z, hga] at q
          cases q
theorem H9.hold' {H0 : Hp} {s' : Cl05.State} (N : H9 TT CH CB CP H h s av sl dl rooms es c) (e0 : KeepA H0 H av) (hav : HeldA H0 av) (N0 : HouseAt CH CB CP id H0 h sl dl rooms es c) {e : Ent} (hba : H e.ba = none) (hpa : H0 e.pa = none) (hga : H0 e.ga = none)
    (A : HouseAt CH CB CP id H' h sl dl rooms (es ++ [e]) (c + 1)) (kp : ∀ x o, H x = some o → x ≠ h → x ≠ dl → H' x = some o) (R' : Rel s' rooms (es ++ [e]) (c + 1)) (hl : es.length < 24) : H9 TT CH CB CP H' h s' av sl dl rooms (es ++ [e]) (c + 1) := by
  obtain ⟨⟨dx, h1⟩, h2, h3, h4⟩ := id N.at_
  obtain ⟨⟨dx0, g1⟩, g2, g3, g4⟩ := N0
  refine ⟨A, R', N.few, by rw [List.length_append]; show es.length + 1 ≤ 24; omega, ?_, ?_, ?_, fun x hx z => ?_⟩
  · rw [List.map_append, ← List.cons_append, List.nodup_append]
    refine ⟨N.nga, by simp, fun a ha b hb => ?_⟩
    simp at hb
    subst hb
    rcases List.mem_cons.mp ha with rfl | ha
    · exact ne_of_none g2 hga
    · obtain ⟨y, hy, rfl⟩ := List.mem_map.mp ha
      exact ne_of_none (g4 y hy).pl.gu hga
  · rw [List.map_append, List.nodup_append]
    refine ⟨N.npa, by simp, fun a ha b hb => ?_⟩
    simp at hb
    subst hb
    obtain ⟨y, hy, rfl⟩ := List.mem_map.mp ha
    obtain ⟨d, q⟩ := (g4 y hy).pl.ob
    exact ne_of_none q hpa
  · refine tabs_keep N.tabs fun b o q n1 n2 n3 => kp b o q (fun z => ?_) fun z => ?_
    · rw [z, h1] at q
      cases q
      exact n3 _ _ _ rfl
    · rw [z] at q
      rw [show H dl = some (.dK (kvs es)) from h3] at q
      cases q
      exact n2 _ rfl
  · rcases z with z | z | z | ⟨y, hy, z⟩
    · exact N.avoid x hx (.inl z)
    · exact N.avoid x hx (.inr (.inl z))
    · exact N.avoid x hx (.inr (.inr (.inl z)))
    · rcases List.mem_append.mp hy with hy | hy
      · exact N.avoid x hx (.inr (.inr (.inr ⟨y, hy, z⟩)))
      · rw [List.mem_singleton] at hy
        subst hy
        obtain ⟨o, q, _⟩ := hav x hx
        rcases z with z | z | z
        · rw [z] at q
          have := e0 _ _ (z ▸ hx) q
          rw [hba] at this
          cases this
        · rw [z, hpa] at q
          cases q
        · rw [z, hga] at q
          cases q
theorem H9.hold_keep (N : H9 TT CH CB CP H h s av sl dl rooms es c) (kp : ∀ x o, H x = some o → x ≠ h → x ≠ dl → H' x = some o) : KeepA H H' av := fun x o hx q =>
  kp x o q (fun z => N.avoid x hx (.inl z)) fun z => N.avoid x hx (.inr (.inr (.inl z)))
/-- who waits has been served -/
theorem H9.serve (N : H9 TT CH CB CP H h s av sl dl rooms es c) (A : HouseAt CH CB CP id H' h sl dl rooms (serveGo [] es).1 c) (kp : ∀ x o, H x = some o → (∀ e ∈ es, x ≠ e.ba) → H' x = some o) :
    H9 TT CH CB CP H' h (Cl05.served s).1 av sl dl rooms (serveGo [] es).1 c := by
  obtain ⟨_, e⟩ := go_keeps es [] N.rel.apart N.rel.ok
  have e : (serveGo [] es).1.map (fun e => (e.id, e.who, e.room, e.plan, e.ba, e.pa, e.ga)) = es.map (fun e => (e.id, e.who, e.room, e.plan, e.ba, e.pa, e.ga)) := e
  obtain ⟨_, _, _, h4⟩ := id N.at_
  refine ⟨A, N.rel.served.2, N.few, ?_, ?_, ?_, ?_, fun x hx z => ?_⟩
  · have := congrArg List.length e
    rw [List.length_map, List.length_map] at this
    rw [this]
    exact N.items
  · have := map_of_map e (fun x => x.2.2.2.2.2.2)
    show (sl :: (serveGo [] es).1.map (·.ga)).Nodup
    rw [show (serveGo [] es).1.map (·.ga) = es.map (·.ga) from this]
    exact N.nga
  · have := map_of_map e (fun x => x.2.2.2.2.2.1)
    show ((serveGo [] es).1.map (·.pa)).Nodup
    rw [show (serveGo [] es).1.map (·.pa) = es.map (·.pa) from this]
    exact N.npa
  · refine tabs_keep N.tabs fun b o q n1 n2 n3 => kp b o q fun x hx z => ?_
    obtain ⟨d, w⟩ := (h4 x hx).ob
    rw [z, w] at q
    cases q
    exact n3 _ _ _ rfl
  · refine N.avoid x hx ?_
    rcases z with z | z | z | ⟨y, hy, z⟩
    · exact .inl z
    · exact .inr (.inl z)
    · exact .inr (.inr (.inl z))
    · refine .inr (.inr (.inr ?_))
      have hm : (y.id, y.who, y.room, y.plan, y.ba, y.pa, y.ga) ∈ es.map (fun e => (e.id, e.who, e.room, e.plan, e.ba, e.pa, e.ga)) := by rw [← e]; exact List.mem_map.mpr ⟨y, hy, rfl⟩
      obtain ⟨w, hw, ew⟩ := List.mem_map.mp hm
      simp only [Prod.mk.injEq] at ew
      exact ⟨w, hw, by rw [ew.2.2.2.2.1, ew.2.2.2.2.2.1, ew.2.2.2.2.2.2]; exact z⟩
theorem H9.serve_keep (N : H9 TT CH CB CP H h s av sl dl rooms es c) (kp : ∀ x o, H x = some o → (∀ e ∈ es, x ≠ e.ba) → H' x = some o) : KeepA H H' av := fun x o hx q =>
  kp x o q fun e he z => N.avoid x hx (.inr (.inr (.inr ⟨e, he, .inl z⟩)))
/-- one more room -/
theorem H9.room (N : H9 TT CH CB CP H h s av sl dl rooms es c) (hl : rooms.length < 5) (n : Nat) : H9 TT CH CB CP (upd H sl (.lst (gV (rooms ++ [n])))) h { s with rooms := s.rooms ++ [n] } av sl dl (rooms ++ [n]) es c := by
  obtain ⟨⟨dx, h1⟩, h2, h3, h4⟩ := id N.at_
  have nd := N.nga
  rw [List.nodup_cons] at nd
  refine ⟨⟨⟨dx, ?_⟩, upd_same, ?_, fun e he => ?_⟩, N.rel.room n, by rw [List.length_append]; show rooms.length + 1 ≤ 5; omega, N.items, N.nga, N.npa, ?_, N.avoid⟩
  · rw [upd_ne (ne_of h1 h2 (by intro z; cases z))]; exact h1
  · rw [upd_ne (ne_of (show H dl = some (.dK (kvs es)) from h3) h2 (by intro z; cases z))]; exact h3
  · obtain ⟨⟨d1, q1⟩, ⟨d2, q2⟩, q3⟩ := h4 e he
    refine ⟨⟨d1, ?_⟩, ⟨d2, ?_⟩, ?_⟩
    · rw [upd_ne (ne_of q1 h2 (by intro z; cases z))]; exact q1
    · rw [upd_ne (ne_of q2 h2 (by intro z; cases z))]; exact q2
    · rw [upd_ne (fun z => nd.1 (List.mem_map.mpr ⟨e, he, z⟩))]; exact q3
  · refine tabs_keep N.tabs fun b o q n1 n2 n3 => ?_
    rw [upd_ne (fun z => by rw [z, h2] at q; cases q; exact n1 _ rfl)]
    exact q
theorem H9.room_keep (N : H9 TT CH CB CP H h s av sl dl rooms es c) {o : HO} : KeepA H (upd H sl o) av := fun x u hx q => by
  rw [upd_ne (fun z => N.avoid x hx (.inr (.inl z)))]
  exact q
/-- one less -/
theorem H9.less {s' : Cl05.State} {k : Nat} (N : H9 TT CH CB CP H h s av sl dl rooms es c) (R' : Rel s' rooms (es.filter fun e => e.id != k) c) : H9 TT CH CB CP (upd H dl (.dK (kvs (es.filter fun e => e.id != k)))) h s' av sl dl rooms (es.filter fun e => e.id != k) c := by
  obtain ⟨⟨dx, h1⟩, h2, h3, h4⟩ := id N.at_
  replace h3 : H dl = some (.dK (kvs es)) := h3
  have sub : ∀ x ∈ es.filter (fun e => e.id != k), x ∈ es := fun x hx => (List.mem_filter.mp hx).1
  refine ⟨⟨⟨dx, ?_⟩, ?_, upd_same, fun e he => ?_⟩, R', N.few, Nat.le_trans (List.length_filter_le _ _) N.items, ?_, ?_, ?_, fun x hx z => N.avoid x hx ?_⟩
  · rw [upd_ne (ne_of h1 h3 (by intro z; cases z))]; exact h1
  · rw [upd_ne (ne_of h2 h3 (by intro z; cases z))]; exact h2
  · obtain ⟨⟨d1, q1⟩, ⟨d2, q2⟩, q3⟩ := h4 e (sub e he)
    refine ⟨⟨d1, ?_⟩, ⟨d2, ?_⟩, ?_⟩
    · rw [upd_ne (ne_of q1 h3 (by intro z; cases z))]; exact q1
    · rw [upd_ne (ne_of q2 h3 (by intro z; cases z))]; exact q2
    · rw [upd_ne (ne_of q3 h3 (by intro z; cases z))]; exact q3
  · exact N.nga.sublist ((List.filter_sublist.map _).cons_cons _)
  · exact N.npa.sublist (List.filter_sublist.map _)
  · refine tabs_keep N.tabs fun b o q n1 n2 n3 => ?_
    rw [upd_ne (fun z => by rw [z, h3] at q; cases q; exact n2 _ rfl)]
    exact q
  · rcases z with z | z | z | ⟨y, hy, z⟩
    · exact .inl z
    · exact .inr (.inl z)
    · exact .inr (.inr (.inl z))
    · exact .inr (.inr (.inr ⟨y, sub y hy, z⟩))
theorem H9.less_keep (N : H9 TT CH CB CP H h s av sl dl rooms es c) {o : HO} : KeepA H (upd H dl o) av := fun x u hx q => by
  rw [upd_ne (fun z => N.avoid x hx (.inr (.inr (.inl z))))]
  exact q
/-- one's plan is another one -/
theorem with_eq (e : Ent) (p : Cl05.Plan) : e.with e.id p = { e with plan := p } := if_pos rfl
theorem with_ne {e y : Ent} {p : Cl05.Plan} (nd : (es.map (·.id)).Nodup) (he : e ∈ es) (hy : y ∈ es) (h : y ≠ e) : y.with e.id p = y := if_neg fun z => h (id_inj nd hy he z)
theorem with_adr (y : Ent) (k : Nat) (p : Cl05.Plan) : (y.with k p).ba = y.ba ∧ (y.with k p).pa = y.pa ∧ (y.with k p).ga = y.ga ∧ bF (y.with k p) = bF y := by
  unfold Ent.with
  split <;> exact ⟨rfl, rfl, rfl, rfl⟩
theorem H9.other {s' : Cl05.State} {e : Ent} {p : Cl05.Plan} (N : H9 TT CH CB CP H h s av sl dl rooms es c) (he : e ∈ es) (R' : Rel s' rooms (es.map (·.with e.id p)) c) (P' : PlanAt CP H' e.pa e.ga p)
    (kp : ∀ x o, H x = some o → x ≠ e.pa → x ≠ e.ga → H' x = some o) : H9 TT CH CB CP H' h s' av sl dl rooms (es.map (·.with e.id p)) c := by
  obtain ⟨⟨dx, h1⟩, h2, h3, h4⟩ := id N.at_
  replace h3 : H dl = some (.dK (kvs es)) := h3
  obtain ⟨_, ⟨⟨dp, p1⟩, p2⟩⟩ := h4 e he
  have nd := N.nga
  rw [List.nodup_cons] at nd
  have nd2 : ∀ y ∈ es, y ≠ e → y.ga ≠ e.ga := fun y hy hne z => by
    obtain ⟨i, hi, rfl⟩ := List.mem_iff_getElem.mp hy
    obtain ⟨j, hj, rfl⟩ := List.mem_iff_getElem.mp he
    have a1 : (es.map (·.ga))[i]? = some (es[i]).ga := by rw [List.getElem?_map, List.getElem?_eq_getElem hi]; rfl
    have a2 : (es.map (·.ga))[j]? = some (es[i]).ga := by rw [List.getElem?_map, List.getElem?_eq_getElem hj, z]; rfl
    have := nd_ix nd.2 a1 a2
    subst this
    exact hne rfl
  have nd3 : ∀ y ∈ es, y ≠ e → y.pa ≠ e.pa := fun y hy hne z => by
    obtain ⟨i, hi, rfl⟩ := List.mem_iff_getElem.mp hy
    obtain ⟨j, hj, rfl⟩ := List.mem_iff_getElem.mp he
    have a1 : (es.map (·.pa))[i]? = some (es[i]).pa := by rw [List.getElem?_map, List.getElem?_eq_getElem hi]; rfl
    have a2 : (es.map (·.pa))[j]? = some (es[i]).pa := by rw [List.getElem?_map, List.getElem?_eq_getElem hj, z]; rfl
    have := nd_ix N.npa a1 a2
    subst this
    exact hne rfl
  refine ⟨⟨⟨dx, ?_⟩, ?_, ?_, fun z hz => ?_⟩, R', N.few, by rw [List.length_map]; exact N.items, ?_, ?_, ?_, fun x hx z => N.avoid x hx ?_⟩
  · exact kp _ _ h1 (ne_of h1 p1 fun z => pF_hF e.plan e.ga sl dl c (by injection z with _ _ z; exact z.symm)) (ne_of h1 p2 (by intro z; cases z))
  · exact kp _ _ h2 (ne_of h2 p1 (by intro z; cases z)) fun z => nd.1 (by rw [z]; exact List.mem_map.mpr ⟨e, he, rfl⟩)
  · have : kvs (es.map (·.with e.id p)) = kvs es := by
      unfold kvs
      rw [List.map_map]
      refine List.map_congr_left fun y _ => ?_
      show (Sum.inl ((y.with e.id p).id : Int), V.ref (y.with e.id p).ba) = _
      rw [with_id, (with_adr y _ _).1]
    rw [this]
    exact kp _ _ h3 (ne_of h3 p1 (by intro z; cases z)) (ne_of h3 p2 (by intro z; cases z))
  · obtain ⟨y, hy, rfl⟩ := List.mem_map.mp hz
    obtain ⟨a1, a2, a3, a4⟩ := with_adr y e.id p
    obtain ⟨⟨d1, q1⟩, ⟨d2, q2⟩, q3⟩ := h4 y hy
    refine ⟨⟨d1, ?_⟩, ?_⟩
    · rw [a1, a4]
      exact kp _ _ q1 (ne_of q1 p1 fun z => bF_pF y e.plan e.ga (by injection z with _ _ z; exact z.symm)) (ne_of q1 p2 (by intro z; cases z))
    · rw [a2, a3]
      by_cases w : y = e
      · rw [w, with_eq]
        exact P'
      · rw [with_ne N.rel.nd he hy w]
        exact ⟨⟨d2, kp _ _ q2 (nd3 y hy w) (ne_of q2 p2 (by intro z; cases z))⟩, kp _ _ q3 (ne_of q3 p1 (by intro z; cases z)) (nd2 y hy w)⟩
  · rw [List.map_map]
    have : (fun x : Ent => x.ga) ∘ (fun x : Ent => x.with e.id p) = fun x : Ent => x.ga := by funext x; exact (with_adr x _ _).2.2.1
    rw [this]
    exact N.nga
  · rw [List.map_map]
    have : (fun x : Ent => x.pa) ∘ (fun x : Ent => x.with e.id p) = fun x : Ent => x.pa := by funext x; exact (with_adr x _ _).2.1
    rw [this]
    exact N.npa
  · refine tabs_keep N.tabs fun b o q n1 n2 n3 => kp b o q (fun z => ?_) fun z => ?_
    · rw [z, p1] at q
      cases q
      exact n3 _ _ _ rfl
    · rw [z, p2] at q
      cases q
      exact n1 _ rfl
  · rcases z with z | z | z | ⟨w, hw, z⟩
    · exact .inl z
    · exact .inr (.inl z)
    · exact .inr (.inr (.inl z))
    · obtain ⟨y, hy, rfl⟩ := List.mem_map.mp hw
      obtain ⟨a1, a2, a3, _⟩ := with_adr y e.id p
      rw [a1, a2, a3] at z
      exact .inr (.inr (.inr ⟨y, hy, z⟩))
theorem H9.other_keep {e : Ent} (N : H9 TT CH CB CP H h s av sl dl rooms es c) (he : e ∈ es) (kp : ∀ x o, H x = some o → x ≠ e.pa → x ≠ e.ga → H' x = some o) : KeepA H H' av := fun x o hx q =>
  kp x o q (fun z => N.avoid x hx (.inr (.inr (.inr ⟨e, he, .inr (.inl z)⟩)))) fun z => N.avoid x hx (.inr (.inr (.inr ⟨e, he, .inr (.inr z)⟩)))
end
/-! ### the promise of a call's def -/
def spAns (TT : List (Addr × Str)) (CH CB CP : Addr) (call : List Nat → Cl05.Call) (n : Nat) : Sp := fun vs H Q _ => ∃ (h a : Addr) (s : Cl05.State) (av : Addr → Prop) (ns : List Nat), vs = [.ref h, .ref a] ∧ Good TT CH CB CP H h s av ∧ av a ∧ HeldA H av ∧ H a = some (.lst (gV ns)) ∧ ns.length = n ∧
  ∀ (H' : Hp) (l : Addr), Good TT CH CB CP H' h (Cl05.step s (call ns)).1 av → KeepA H H' av → H' l = some (.lst ((Cl05.step s (call ns)).2.map V.int)) → ¬ av l → Q (.ref l) H'
/-- a refusal, or whatever else changes nothing: a new list is given back -/
theorem give {TT : List (Addr × Str)} {CH CB CP h l : Addr} {H H1 : Hp} {s s' : Cl05.State} {av : Addr → Prop} {ans ans' : List Int} {vs : List V} {Q : VK} (hav : HeldA H av) (kp : KeepA H H1 av) (G : Good TT CH CB CP H1 h s' av) (es : s' = s) (ea : ans' = ans) (hl : H1 l = none) (ev : vs = ans.map V.int)
    (k : ∀ (H' : Hp) (l : Addr), Good TT CH CB CP H' h s av → KeepA H H' av → H' l = some (.lst (ans'.map V.int)) → ¬ av l → Q (.ref l) H') : Q (.ref l) (upd H1 l (.lst vs)) := by
  subst es ea ev
  obtain ⟨sl, dl, rooms, es, c, N, ID⟩ := G
  exact k _ l ⟨sl, dl, rooms, es, c, N.same (new_same hl), ID⟩ (kp.trans (KeepA.of_same (new_same hl))) upd_same ((hav.keep kp).not hl)
end R
namespace R
theorem served_idle {st : Cl05.State} {rooms : List Nat} {es : List Ent} {c : Nat} (R : Rel st rooms es c) (ID : Idle es) : Cl05.served st = (st, []) := by
  have none : st.waiting.find? (fun x => Cl05.fits st x.room x.plan) = none := by
    rw [List.find?_eq_none]
    intro x hx
    rw [R.wait] at hx
    obtain ⟨e, he, hw, rfl⟩ := mem_wt'.mp hx
    show ¬ Cl05.fits st e.room e.plan = true
    rw [fits_iff R.book, ID e he hw]
    simp
  unfold Cl05.served
  cases st.waiting.length with
  | zero => rfl
  | succ n => rw [Cl05.serve, none]
end R
end

section
set_option maxRecDepth 100000
set_option maxHeartbeats 4000000
namespace R
open PySem PySem.Spec PyProof.Rows L2 LamX
structure TxA (mg : Str → Option Value) : Prop where
  g_MOST_SEATS : GI mg "MOST_SEATS" (.int 500)
  g_MOST_WHOM : GI mg "MOST_WHOM" (.int 99)
  g_MOST_WHICH : GI mg "MOST_WHICH" (.int 9999)
  g_MOST_GIVEN_UP : GI mg "MOST_GIVEN_UP" (.int 5)
  g_NOT_AS_TOLD : GI mg "NOT_AS_TOLD" (.int (-1))
  g_NO_SUCH_TIME : GI mg "NO_SUCH_TIME" (.int (-2))
  g_NO_ROOM : GI mg "NO_ROOM" (.int (-3))
  g_NOT_HELD : GI mg "NOT_HELD" (.int (-4))
  g_TOO_MANY : GI mg "TOO_MANY" (.int (-5))
  g_NO_FIT : GI mg "NO_FIT" (.int (-7))
  g_MOST_STRETCH : GI mg "MOST_STRETCH" (.int 200000)
  g_MOST_TIMES : GI mg "MOST_TIMES" (.int 500)
  g_NONE_TO_COME : GI mg "NONE_TO_COME" (.int (-6))
  b_len : mg "len" = none
  b_min : mg "min" = none
def c0 (ns : List Nat) : Cl05.Call := .room (ns.getD 0 0)
def c1 (ns : List Nat) : Cl05.Call := .book (ns.getD 0 0) (ns.getD 1 0) (ns.getD 2 0) (ns.getD 3 0) (ns.getD 4 0) (ns.getD 5 0)
def c2 (ns : List Nat) : Cl05.Call := .would (ns.getD 0 0) (ns.getD 1 0) (ns.getD 2 0) (ns.getD 3 0) (ns.getD 4 0)
def c3 (ns : List Nat) : Cl05.Call := .any (ns.getD 0 0) (ns.getD 1 0) (ns.getD 2 0) (ns.getD 3 0) (ns.getD 4 0) (ns.getD 5 0)
def c4 (ns : List Nat) : Cl05.Call := .wait (ns.getD 0 0) (ns.getD 1 0) (ns.getD 2 0) (ns.getD 3 0) (ns.getD 4 0) (ns.getD 5 0)
def c5 (ns : List Nat) : Cl05.Call := .end_ (ns.getD 0 0)
def c6 (ns : List Nat) : Cl05.Call := .skip (ns.getD 0 0) (ns.getD 1 0)
theorem len1 {ns : List Nat} (h : ns.length = 1) : ∃ a, ns = [a] := by
  match ns, h with
  | [a], _ => exact ⟨a, rfl⟩
theorem len2 {ns : List Nat} (h : ns.length = 2) : ∃ a b, ns = [a, b] := by
  match ns, h with
  | [a, b], _ => exact ⟨a, b, rfl⟩
theorem len5 {ns : List Nat} (h : ns.length = 5) : ∃ a b c d e, ns = [a, b, c, d, e] := by
  match ns, h with
  | [a, b, c, d, e], _ => exact ⟨a, b, c, d, e, rfl⟩
theorem len6 {ns : List Nat} (h : ns.length = 6) : ∃ a b c d e f, ns = [a, b, c, d, e, f] := by
  match ns, h with
  | [a, b, c, d, e, f], _ => exact ⟨a, b, c, d, e, f, rfl⟩
section
variable {P : Program} {w : World} {K : PySem.W.Frag} {mg : Str → Option Value} {base : Heap} {CH CB CP f : Addr} {fd : FuncData} {TT : List (Addr × Str)}
abbrev s_answer_room : Stmt := top 32
theorem sc_answer_room : FnScope ["house", "numbers", "seats"] ["house", "numbers"] (defScope s_answer_room) := ⟨rfl, rfl, rfl, by decide +kernel, rfl, by decide +kernel, by decide +kernel⟩
theorem ok_answer_room (F : Fun K "answer_room" "answer_room" s_answer_room f fd) (T : TxA mg) (d_House_has_all_rooms : DM P w K mg base CH "has_all_rooms" 1 ["self"] (spAllRooms CH CB CP))
    (d_House_add_room : DM P w K mg base CH "add_room" 1 ["self", "seats"] (spAddRoom CH CB CP)) : FnOk P w K mg base CX0 2 f fd ["house", "numbers"] (spAns TT CH CB CP c0 1) := by
  refine F.ok sc_answer_room (fun vs H Q E h => ?_) (fun cdv A outer s H vs Q E hr h => ?_)
  · obtain ⟨_, _, _, _, _, rfl, _⟩ := h
    rfl
  · obtain ⟨h, a, st, av, ns, rfl, G, ava, hav, ha, hn, k⟩ := h
    obtain ⟨n, rfl⟩ := len1 hn
    obtain ⟨sl, dl, rooms, es, c, N, ID⟩ := id G
    have HA := N.at_
    obtain ⟨dx, h1⟩ := HA.ob
    have e0 : Cl05.step st (c0 [n]) = (if n = 0 ∨ 500 < n then (st, [-1]) else if 5 ≤ st.rooms.length then (st, [-5]) else ({ st with rooms := st.rooms ++ [n] }, [(st.rooms.length : Int)])) := rfl
    refine ⟨_, (pss_cons (ps_set (i := 2) sc_answer_room.nd rfl (Or.inl rfl) (pe_ix ix_list (pv 1) pe_int (fun _ _ => rfl)))
      (pss_cons (ps_if (PW.pt (pw_or (pt_cmpR op_lt (pv 2) pe_int (nomark _)) (pw_or1 (pt_cmpR op_gt (pv 2) (pe_gi T.g_MOST_SEATS) (nomark _)))))
        (pss_one (ps_ret (pe_lst (pa_cons (pe_gi T.g_NOT_AS_TOLD) pa_nil))))
        pss_nil)
      (pss_cons (ps_if (pt_val (md_of (pe_meth0 (pv 0) d_House_has_all_rooms.cl d_House_has_all_rooms.h d_House_has_all_rooms.F (hr.mono (by decide)) d_House_has_all_rooms.b .nil pass0)))
        (pss_one (ps_ret (pe_lst (pa_cons (pe_gi T.g_TOO_MANY) pa_nil))))
        pss_nil)
      (pss_one (ps_ret (pe_lst (pa_cons (md_of (pe_meth (pv 0) d_House_add_room.cl d_House_add_room.h d_House_add_room.F (hr.mono (by decide)) d_House_add_room.b .nil pass0 (pa_cons (pv 2) pa_nil))) pa_nil))))))), ?_⟩
    refine ⟨_, rfl, a, _, _, _, rfl, rfl, SqL.of ha, rfl, ?_⟩
    have bad : (n = 0 ∨ 500 < n) → ∀ l, H l = none → Q (.ref l) (upd H l (.lst [.int (-1)])) := fun z l hl => by
      rw [if_pos z] at e0
      exact give hav (KeepA.of_same (Same.refl H)) G (by rw [e0]) (by rw [e0]) hl rfl k
    refine ⟨_, rfl, _, _, rfl, rfl, _, rfl, if_b (fun z => iteT ?_) fun z1 => ?_⟩
    · exact ⟨(by show 1 ≤ sizeLine; decide), fun l hl => bad (by have := of_decide_eq_true z; omega) l hl⟩
    refine ⟨_, rfl, _, _, rfl, rfl, _, rfl, if_b (fun z => ?_) fun z2 => ?_⟩
    · exact ⟨(by show 1 ≤ sizeLine; decide), fun l hl => bad (by have := of_decide_eq_true z; omega) l hl⟩
    have ok : ¬ (n = 0 ∨ 500 < n) := by
      have := of_decide_eq_false z1
      have := of_decide_eq_false z2
      omega
    rw [if_neg ok] at e0
    refine ⟨_, rfl, h, dx, _, rfl, h1, hF_no _ _ _ (by decide +kernel), h, sl, dl, rooms, es, c, rfl, HA, _, rfl, if_b (fun z => ?_) fun z => ?_⟩
    · have z' : 5 ≤ st.rooms.length := by rw [N.rel.rooms]; exact of_decide_eq_true z
      rw [if_pos z'] at e0
      exact ⟨(by show 1 ≤ sizeLine; decide), fun l hl => give hav (KeepA.of_same (Same.refl H)) G (by rw [e0]) (by rw [e0]) hl rfl k⟩
    · have z' : ¬ 5 ≤ st.rooms.length := by rw [N.rel.rooms]; exact of_decide_eq_false z
      rw [if_neg z'] at e0
      have hl5 : rooms.length < 5 := by rw [← N.rel.rooms]; omega
      refine ⟨_, rfl, h, dx, _, rfl, h1, hF_no _ _ _ (by decide +kernel), _, rfl, h, sl, dl, rooms, es, c, n, rfl, HA, by omega, (by show 1 ≤ sizeLine; decide), fun l hl => ?_⟩
      exact give hav N.room_keep ⟨sl, dl, _, es, c, N.room hl5 n, ID⟩ (by rw [e0]) (by rw [e0]) hl (by rw [N.rel.rooms]; rfl) k
end
end R
end

section
set_option maxRecDepth 100000
set_option maxHeartbeats 4000000
namespace R
open PySem PySem.Spec PyProof.Rows L2 LamX
section
variable {P : Program} {w : World} {K : PySem.W.Frag} {mg : Str → Option Value} {base : Heap} {CH CB CP f : Addr} {fd : FuncData} {TT : List (Addr × Str)}
/-- what the house's methods promise -/
structure DHouse (P : Program) (w : World) (K : PySem.W.Frag) (mg : Str → Option Value) (base : Heap) (CH CB CP : Addr) : Prop where
  has_room : DM P w K mg base CH "has_room" 1 ["self", "room"] (spHasRoom CH CB CP)
  is_full : DM P w K mg base CH "is_full" 1 ["self"] (spIsFull CH CB CP)
  fits : DM P w K mg base CH "fits" 5 ["self", "room", "plan"] (spFits FzU CH CB CP)
  meetings : DM P w K mg base CH "meetings" 4 ["self", "room", "plan"] (spMeet FzU CH CB CP)
  hold : DM P w K mg base CH "hold" 3 ["self", "whom", "room", "plan", "waits"] (spHold CH CB CP)
  find_booked : DM P w K mg base CH "find_booked" 1 ["self", "number"] (spFind CH CB CP)
  let_go : DM P w K mg base CH "let_go" 1 ["self", "number"] (spLetGo CH CB CP)
  serve : DM P w K mg base CH "serve" 6 ["self"] (spServe CH CB CP)
theorem okP_of {f n d t : Nat} (h : Cl05.isPlan f n d t = true) : RM.OkP (Cl05.plan f n d t) := by
  obtain ⟨h1, h2, h3, h4, h5, h6⟩ := isPlan_iff.mp h
  exact ⟨⟨h2, h3⟩, h1, h4, h5, h6⟩
abbrev s_answer_book : Stmt := top 33
theorem sc_answer_book : FnScope ["house", "numbers", "whom", "room", "plan"] ["house", "numbers"] (defScope s_answer_book) := ⟨rfl, rfl, rfl, by decide +kernel, rfl, by decide +kernel, by decide +kernel⟩
theorem ok_answer_book (F : Fun K "answer_book" "answer_book" s_answer_book f fd) (T : TxA mg) (D : DHouse P w K mg base CH CB CP) (d_plan_of : DF P w K mg base "plan_of" 3 ["when"] (spPlanOf K CP)) :
    FnOk P w K mg base CX0 6 f fd ["house", "numbers"] (spAns TT CH CB CP c1 6) := by
  have d_House_has_room := D.has_room
  have d_House_is_full := D.is_full
  have d_House_fits := D.fits
  have d_House_hold := D.hold
  refine F.ok sc_answer_book (fun vs H Q E h => ?_) (fun cdv A outer s H vs Q E hr h => ?_)
  · obtain ⟨_, _, _, _, _, rfl, _⟩ := h
    rfl
  · obtain ⟨h, a, st, av, ns, rfl, G, ava, hav, ha, hn, k⟩ := h
    obtain ⟨wh, r, fi, le, da, ti, rfl⟩ := len6 hn
    obtain ⟨sl, dl, rooms, es, c, N, ID⟩ := id G
    have HA := N.at_
    obtain ⟨dx, h1⟩ := HA.ob
    have R := N.rel
    have e0 : Cl05.step st (c1 [wh, r, fi, le, da, ti]) = (if st.rooms.length ≤ r then (st, [-3]) else if 99 < wh ∨ Cl05.isPlan fi le da ti = false then (st, [-1]) else
        if Cl05.full st = true then (st, [-5]) else if Cl05.fits st r (Cl05.plan fi le da ti) = false then (st, [-7]) else (Cl05.put st ⟨st.next, wh, r, Cl05.plan fi le da ti⟩, [(st.next : Int)])) := rfl
    rw [R.rooms] at e0
    refine ⟨_, (pss_cons (ps_set (i := 2) sc_answer_book.nd rfl (Or.inl rfl) (pe_ix ix_list (pv 1) pe_int (fun _ _ => rfl)))
      (pss_cons (ps_set (i := 3) sc_answer_book.nd rfl (Or.inl rfl) (pe_ix ix_list (pv 1) pe_int (fun _ _ => rfl)))
      (pss_cons (ps_set (i := 4) sc_answer_book.nd rfl (Or.inl rfl) (cd_of (pe_call d_plan_of.F (hr.mono (by decide)) (by rfl) d_plan_of.g d_plan_of.kp d_plan_of.b .nil pass0 (pa_cons (pe_slice sl_list (pv 1) (po_some pe_int) po_none) pa_nil))))
      (pss_cons (ps_if (pt_not (pt_val (md_of (pe_meth (pv 0) d_House_has_room.cl d_House_has_room.h d_House_has_room.F (hr.mono (by decide)) d_House_has_room.b .nil pass0 (pa_cons (pv 3) pa_nil)))))
        (pss_one (ps_ret (pe_lst (pa_cons (pe_gi T.g_NO_ROOM) pa_nil))))
        pss_nil)
      (pss_cons (ps_if (PW.pt (pw_or (pt_cmpR op_gt (pv 2) (pe_gi T.g_MOST_WHOM) (nomark _)) (pw_or1 (pt_cmpR op_isN (pv 4) pe_non (nomark _)))))
        (pss_one (ps_ret (pe_lst (pa_cons (pe_gi T.g_NOT_AS_TOLD) pa_nil))))
        pss_nil)
      (pss_cons (ps_if (pt_val (md_of (pe_meth0 (pv 0) d_House_is_full.cl d_House_is_full.h d_House_is_full.F (hr.mono (by decide)) d_House_is_full.b .nil pass0)))
        (pss_one (ps_ret (pe_lst (pa_cons (pe_gi T.g_TOO_MANY) pa_nil))))
        pss_nil)
      (pss_cons (ps_if (pt_not (pt_val (md_of (pe_meth (pv 0) d_House_fits.cl d_House_fits.h d_House_fits.F (hr.mono (by decide)) d_House_fits.b .nil pass0 (pa_cons (pv 3) (pa_cons (pv 4) pa_nil))))))
        (pss_one (ps_ret (pe_lst (pa_cons (pe_gi T.g_NO_FIT) pa_nil))))
        pss_nil)
      (pss_one (ps_ret (pe_lst (pa_cons (md_of (pe_meth (pv 0) d_House_hold.cl d_House_hold.h d_House_hold.F (hr.mono (by decide)) d_House_hold.b .nil pass0 (pa_cons (pv 2) (pa_cons (pv 3) (pa_cons (pv 4) (pa_cons pe_bl pa_nil)))))) pa_nil))))))))))), ?_⟩
    refine ⟨_, rfl, a, _, _, _, rfl, rfl, SqL.of ha, rfl, ?_⟩
    refine ⟨_, rfl, a, _, _, _, rfl, rfl, SqL.of ha, rfl, ?_⟩
    refine ⟨_, rfl, _, rfl, a, _, rfl, SqL.of ha, fun p hp => ?_⟩
    have s1 : Same H (upd H p (.lst (cutV (gV [wh, r, fi, le, da, ti]) (some 2) none))) := new_same hp
    have ep : cutV (gV [wh, r, fi, le, da, ti]) (some 2) none = [.int fi, .int le, .int da, .int ti] := rfl
    have N1 := N.same s1
    obtain ⟨dx1, h1'⟩ := N1.at_.ob
    refine ⟨p, fi, le, da, ti, rfl, (by rw [ep] at *; exact SqL.of upd_same), fun hno => ?_, fun hyes b g H2 hb hg PA s2 => ?_⟩
    · -- no such plan
      refine ⟨_, rfl, h, dx1, _, rfl, h1', hF_no _ _ _ (by decide +kernel), _, rfl, h, sl, dl, rooms, es, c, r, rfl, N1.at_, _, rfl, if_b (fun z => ?_) fun z => ?_⟩
      · have z' : rooms.length ≤ r := by simpa using z
        rw [if_pos z'] at e0
        exact ⟨(by show 1 ≤ sizeLine; decide), fun l hl => give hav (KeepA.of_same s1) ⟨sl, dl, rooms, es, c, N1, ID⟩ (by rw [e0]) (by rw [e0]) hl rfl k⟩
      · have z' : ¬ rooms.length ≤ r := by simpa using z
        rw [if_neg z', if_pos (.inr hno)] at e0
        refine ⟨_, rfl, _, _, rfl, rfl, _, rfl, if_b (fun _ => iteT ?_) fun _ => ⟨_, rfl, rfl, _, rfl, if_t rfl ?_⟩⟩
        · exact ⟨(by show 1 ≤ sizeLine; decide), fun l hl => give hav (KeepA.of_same s1) ⟨sl, dl, rooms, es, c, N1, ID⟩ (by rw [e0]) (by rw [e0]) hl rfl k⟩
        · exact ⟨(by show 1 ≤ sizeLine; decide), fun l hl => give hav (KeepA.of_same s1) ⟨sl, dl, rooms, es, c, N1, ID⟩ (by rw [e0]) (by rw [e0]) hl rfl k⟩
    · -- a plan, at b
      have s12 : Same H H2 := s1.trans s2
      have N2 := N.same s12
      have G2 : Good TT CH CB CP H2 h st av := ⟨sl, dl, rooms, es, c, N2, ID⟩
      have hb0 : H b = none := s1.free hb
      have hg0 : H g = none := s1.free hg
      have op := okP_of hyes
      obtain ⟨dx2, h2'⟩ := N2.at_.ob
      refine ⟨_, rfl, h, dx2, _, rfl, h2', hF_no _ _ _ (by decide +kernel), _, rfl, h, sl, dl, rooms, es, c, r, rfl, N2.at_, _, rfl, if_b (fun z => ?_) fun z => ?_⟩
      · have z' : rooms.length ≤ r := by simpa using z
        rw [if_pos z'] at e0
        exact ⟨(by show 1 ≤ sizeLine; decide), fun l hl => give hav (KeepA.of_same s12) G2 (by rw [e0]) (by rw [e0]) hl rfl k⟩
      have z' : ¬ rooms.length ≤ r := by simpa using z
      rw [if_neg z'] at e0
      refine ⟨_, rfl, _, _, rfl, rfl, _, rfl, if_b (fun z => iteT ?_) fun zw => ⟨_, rfl, rfl, _, rfl, if_f rfl ?_⟩⟩
      · rw [if_pos (.inl (by have := of_decide_eq_true z; omega))] at e0
        exact ⟨(by show 1 ≤ sizeLine; decide), fun l hl => give hav (KeepA.of_same s12) G2 (by rw [e0]) (by rw [e0]) hl rfl k⟩
      rw [if_neg (fun q => q.elim (fun q => by have := of_decide_eq_false zw; omega) (fun q => by rw [hyes] at q; cases q))] at e0
      refine ⟨_, rfl, h, dx2, _, rfl, h2', hF_no _ _ _ (by decide +kernel), h, sl, dl, rooms, es, c, rfl, N2.at_, _, rfl, if_b (fun z => ?_) fun zf => ?_⟩
      · rw [if_pos (by rw [R.full]; exact z)] at e0
        exact ⟨(by show 1 ≤ sizeLine; decide), fun l hl => give hav (KeepA.of_same s12) G2 (by rw [e0]) (by rw [e0]) hl rfl k⟩
      rw [if_neg (by rw [R.full, zf]; simp)] at e0
      have hl24 : es.length < 24 := by have := of_decide_eq_false zf; omega
      refine ⟨_, rfl, h, dx2, _, rfl, h2', hF_no _ _ _ (by decide +kernel), _, rfl, _, rfl, id, h, sl, dl, b, g, rooms, es, c, r, _, rfl, rfl, N2.at_, PA, op, R.ok, by omega, fun H3 s3 => ?_⟩
      have N3 := N2.same s3
      obtain ⟨dx3, h3'⟩ := N3.at_.ob
      have s13 : Same H H3 := s12.trans s3
      refine ⟨_, rfl, if_b (fun z => ?_) fun zq => ?_⟩
      · rw [if_pos (by rw [fits_iff R.book]; simpa using z)] at e0
        exact ⟨(by show 1 ≤ sizeLine; decide), fun l hl => give hav (KeepA.of_same s13) ⟨sl, dl, rooms, es, c, N3, ID⟩ (by rw [e0]) (by rw [e0]) hl rfl k⟩
      have hfit : fitsE es r (Cl05.plan fi le da ti) = true := by simpa using zq
      rw [if_neg (by rw [fits_iff R.book, hfit]; simp)] at e0
      refine ⟨_, rfl, h, dx3, _, rfl, h3', hF_no _ _ _ (by decide +kernel), _, rfl, _, rfl, _, rfl, h, sl, dl, b, g, rooms, es, c, wh, r, _, false, rfl, N3.at_, PA.same s3, R.lt, by omega, fun H4 ba hba A4 kp4 => ?_⟩
      have R4 : Rel (Cl05.put st ⟨st.next, wh, r, Cl05.plan fi le da ti⟩) rooms (es ++ [⟨c, wh, r, Cl05.plan fi le da ti, false, ba, b, g⟩]) (c + 1) := by
        have := R.put (e := ⟨c, wh, r, Cl05.plan fi le da ti, false, ba, b, g⟩) rfl rfl op (Nat.zero_le _) hfit
        rw [R.next]
        exact this
      have N4 := N3.hold (e := ⟨c, wh, r, Cl05.plan fi le da ti, false, ba, b, g⟩) s13 hav N.at_ hba hb0 hg0 A4 kp4 R4 hl24
      refine ⟨(by show 1 ≤ sizeLine; decide), fun l hl => give hav ((KeepA.of_same s13).trans (N3.hold_keep kp4)) ⟨sl, dl, rooms, _, _, N4, ID.snoc (fun z => by cases z)⟩ (by rw [e0]) (by rw [e0]) hl (by rw [R.next]; rfl) k⟩
end
end R
end

section
set_option maxRecDepth 100000
set_option maxHeartbeats 4000000
namespace R
open PySem PySem.Spec PyProof.Rows L2 LamX
section
variable {P : Program} {w : World} {K : PySem.W.Frag} {mg : Str → Option Value} {base : Heap} {CH CB CP f : Addr} {fd : FuncData} {TT : List (Addr × Str)}
/-! ### would -/
theorem first_clash {st : Cl05.State} {rooms : List Nat} {es : List Ent} {c : Nat} (R : Rel st rooms es c) {r : Nat} {p : Cl05.Plan} {t : Int × Int} (ht : t ∈ asI (clashE es r p)) (hl : ∀ q, q ∈ asI (clashE es r p) → t.1 < q.1 ∨ (t.1 = q.1 ∧ t.2 ≤ q.2)) :
    ∃ m, Cl05.clash st r p = some m ∧ t = ((m.1 : Int), (m.2 : Int)) := by
  unfold asI at ht hl
  obtain ⟨m, hm, rfl⟩ := List.mem_map.mp ht
  have pm := clashes_perm R.book r p
  refine ⟨m, clash_is.2 m (pm.mem_iff.mpr hm) fun x hx => ?_, rfl⟩
  have := hl _ (List.mem_map.mpr ⟨x, pm.mem_iff.mp hx, rfl⟩)
  unfold lexLe
  dsimp only at this
  omega
abbrev s_answer_would : Stmt := top 34
theorem sc_answer_would : FnScope ["house", "numbers", "room", "plan", "meetings", "earliest"] ["house", "numbers"] (defScope s_answer_would) := ⟨rfl, rfl, rfl, by decide +kernel, rfl, by decide +kernel, by decide +kernel⟩
theorem ok_answer_would (F : Fun K "answer_would" "answer_would" s_answer_would f fd) (T : TxA mg) (D : DHouse P w K mg base CH CB CP) (d_plan_of : DF P w K mg base "plan_of" 3 ["when"] (spPlanOf K CP)) :
    FnOk P w K mg base CX0 5 f fd ["house", "numbers"] (spAns TT CH CB CP c2 5) := by
  have d_House_has_room := D.has_room
  have d_House_meetings := D.meetings
  refine F.ok sc_answer_would (fun vs H Q E h => ?_) (fun cdv A outer s H vs Q E hr h => ?_)
  · obtain ⟨_, _, _, _, _, rfl, _⟩ := h
    rfl
  · obtain ⟨h, a, st, av, ns, rfl, G, ava, hav, ha, hn, k⟩ := h
    obtain ⟨r, fi, le, da, ti, rfl⟩ := len5 hn
    obtain ⟨sl, dl, rooms, es, c, N, ID⟩ := id G
    have HA := N.at_
    have R := N.rel
    have hu := hu_of hr
    have e0 : Cl05.step st (c2 [r, fi, le, da, ti]) = (if st.rooms.length ≤ r then (st, [-3]) else if 99 < 0 ∨ Cl05.isPlan fi le da ti = false then (st, [-1]) else
        (st, match Cl05.clash st r (Cl05.plan fi le da ti) with
          | none => [1]
          | some x => Cl05.nums [0, x.2, x.1])) := rfl
    rw [R.rooms] at e0
    refine ⟨_, (pss_cons (ps_set (i := 2) sc_answer_would.nd rfl (Or.inl rfl) (pe_ix ix_list (pv 1) pe_int (fun _ _ => rfl)))
      (pss_cons (ps_set (i := 3) sc_answer_would.nd rfl (Or.inl rfl) (cd_of (pe_call d_plan_of.F (hr.mono (by decide)) (by rfl) d_plan_of.g d_plan_of.kp d_plan_of.b .nil pass0 (pa_cons (pe_slice sl_list (pv 1) (po_some pe_int) po_none) pa_nil))))
      (pss_cons (ps_if (pt_not (pt_val (md_of (pe_meth (pv 0) d_House_has_room.cl d_House_has_room.h d_House_has_room.F (hr.mono (by decide)) d_House_has_room.b .nil pass0 (pa_cons (pv 2) pa_nil)))))
        (pss_one (ps_ret (pe_lst (pa_cons (pe_gi T.g_NO_ROOM) pa_nil))))
        pss_nil)
      (pss_cons (ps_if (pt_cmpR op_isN (pv 3) pe_non (nomark _))
        (pss_one (ps_ret (pe_lst (pa_cons (pe_gi T.g_NOT_AS_TOLD) pa_nil))))
        pss_nil)
      (pss_cons (ps_set (i := 4) sc_answer_would.nd rfl (Or.inl rfl) (md_of (pe_meth (pv 0) d_House_meetings.cl d_House_meetings.h d_House_meetings.F (hr.mono (by decide)) d_House_meetings.b .nil pass0 (pa_cons (pv 2) (pa_cons (pv 3) pa_nil)))))
      (pss_cons (ps_if (pt_cmpR op_eq (pe_callB call_len_seq (by rfl) T.b_len PySem.boot_len (pa_cons (pv 4) pa_nil)) pe_int (nomark _))
        (pss_one (ps_ret (pe_lst (pa_cons pe_int pa_nil))))
        pss_nil)
      (pss_cons (ps_set (i := 5) sc_answer_would.nd rfl (Or.inl rfl) (pe_callB (cr_minP rfl hu) (by rfl) T.b_min (by decide +kernel) (pa_cons (pv 4) pa_nil)))
      (pss_one (ps_ret (pe_lst (pa_cons pe_int (pa_cons (pe_ix ix_tup (pv 5) pe_int (fun _ _ => rfl)) (pa_cons (pe_ix ix_tup (pv 5) pe_int (fun _ _ => rfl)) pa_nil))))))))))))), ?_⟩
    refine ⟨_, rfl, a, _, _, _, rfl, rfl, SqL.of ha, rfl, ?_⟩
    refine ⟨_, rfl, _, rfl, a, _, rfl, SqL.of ha, fun p hp => ?_⟩
    have s1 : Same H (upd H p (.lst (cutV (gV [r, fi, le, da, ti]) (some 1) none))) := new_same hp
    have ep : cutV (gV [r, fi, le, da, ti]) (some 1) none = [.int fi, .int le, .int da, .int ti] := rfl
    have N1 := N.same s1
    obtain ⟨dx1, h1'⟩ := N1.at_.ob
    refine ⟨p, fi, le, da, ti, rfl, (by rw [ep] at *; exact SqL.of upd_same), fun hno => ?_, fun hyes b g H2 hb hg PA s2 => ?_⟩
    · refine ⟨_, rfl, h, dx1, _, rfl, h1', hF_no _ _ _ (by decide +kernel), _, rfl, h, sl, dl, rooms, es, c, r, rfl, N1.at_, _, rfl, if_b (fun z => ?_) fun z => ?_⟩
      · have z' : rooms.length ≤ r := by simpa using z
        rw [if_pos z'] at e0
        exact ⟨(by show 1 ≤ sizeLine; decide), fun l hl => give hav (KeepA.of_same s1) ⟨sl, dl, rooms, es, c, N1, ID⟩ (by rw [e0]) (by rw [e0]) hl rfl k⟩
      · have z' : ¬ rooms.length ≤ r := by simpa using z
        rw [if_neg z', if_pos (.inr hno)] at e0
        exact ⟨_, rfl, rfl, _, rfl, if_t rfl ⟨(by show 1 ≤ sizeLine; decide), fun l hl => give hav (KeepA.of_same s1) ⟨sl, dl, rooms, es, c, N1, ID⟩ (by rw [e0]) (by rw [e0]) hl rfl k⟩⟩
    · have s12 : Same H H2 := s1.trans s2
      have N2 := N.same s12
      have G2 : Good TT CH CB CP H2 h st av := ⟨sl, dl, rooms, es, c, N2, ID⟩
      have op := okP_of hyes
      obtain ⟨dx2, h2'⟩ := N2.at_.ob
      refine ⟨_, rfl, h, dx2, _, rfl, h2', hF_no _ _ _ (by decide +kernel), _, rfl, h, sl, dl, rooms, es, c, r, rfl, N2.at_, _, rfl, if_b (fun z => ?_) fun z => ?_⟩
      · have z' : rooms.length ≤ r := by simpa using z
        rw [if_pos z'] at e0
        exact ⟨(by show 1 ≤ sizeLine; decide), fun l hl => give hav (KeepA.of_same s12) G2 (by rw [e0]) (by rw [e0]) hl rfl k⟩
      have z' : ¬ rooms.length ≤ r := by simpa using z
      rw [if_neg z', if_neg (fun q => q.elim (fun q => by omega) (fun q => by rw [hyes] at q; cases q))] at e0
      refine ⟨_, rfl, rfl, _, rfl, if_f rfl ?_⟩
      refine ⟨_, rfl, h, dx2, _, rfl, h2', hF_no _ _ _ (by decide +kernel), _, rfl, _, rfl, id, h, sl, dl, b, g, rooms, es, c, r, _, rfl, rfl, N2.at_, PA, op, R.ok, by have := N.items; omega, fun H3 l3 ts s3 PT et => ?_⟩
      have s13 : Same H H3 := s12.trans s3
      have N3 := N.same s13
      have G3 : Good TT CH CB CP H3 h st av := ⟨sl, dl, rooms, es, c, N3, ID⟩
      refine ⟨_, rfl, l3, _, rfl, .inl (SqL.of PT.ls), rfl, _, rfl, ?_⟩
      have e2 := eqInt (a := ((ts.map fun t => V.ref t.1)).length) (b := 0)
      rw [show V.int ((0 : Nat) : Int) = V.int 0 from rfl] at e2
      rw [e2, List.length_map]
      refine if_b (fun z => ?_) fun z => ?_
      · have zl : ts = [] := List.eq_nil_of_length_eq_zero (of_decide_eq_true z)
        have hc : clashE es r (Cl05.plan fi le da ti) = [] := by
          rw [zl] at et
          unfold asI at et
          exact List.map_eq_nil_iff.mp et.symm
        have hc2 : Cl05.clash st r (Cl05.plan fi le da ti) = none := clash_is.1 (by have := clashes_perm R.book r (Cl05.plan fi le da ti); rw [hc] at this; exact this.eq_nil)
        rw [hc2] at e0
        exact ⟨(by show 1 ≤ sizeLine; decide), fun l hl => give hav (KeepA.of_same s13) G3 (by rw [e0]) (by rw [e0]) hl rfl k⟩
      · have zl : ts ≠ [] := fun q => of_decide_eq_false z (by rw [q]; rfl)
        refine ⟨_, rfl, l3, ts, rfl, SqL.of PT.ls, zl, PT.tu, fun t ht hle => ?_⟩
        obtain ⟨m, hm, em⟩ := first_clash R (r := r) (p := Cl05.plan fi le da ti) (t := t.2) (by rw [← et]; exact List.mem_map.mpr ⟨t, ht, rfl⟩) (fun q hq => by
          rw [← et] at hq
          obtain ⟨t', ht', rfl⟩ := List.mem_map.mp hq
          exact hle t' ht')
        rw [hm] at e0
        have tt := PT.tu t ht
        refine ⟨_, rfl, t.1, _, _, _, rfl, rfl, SqT.of tt, rfl, _, rfl, t.1, _, _, _, rfl, rfl, SqT.of tt, rfl, (by show 3 ≤ sizeLine; decide), fun l hl => give hav (KeepA.of_same s13) G3 (by rw [e0]) (by rw [e0]) hl (by rw [em]; rfl) k⟩
/-! ### serving -/
def spServed (TT : List (Addr × Str)) (CH CB CP : Addr) : Sp := fun vs H Q _ => ∃ (h : Addr) (s : Cl05.State) (av : Addr → Prop) (sl dl : Addr) (rooms : List Nat) (es : List Ent) (c : Nat), vs = [.ref h] ∧ H9 TT CH CB CP H h s av sl dl rooms es c ∧ HeldA H av ∧
  ∀ (H' : Hp) (l : Addr), H9 TT CH CB CP H' h (Cl05.served s).1 av sl dl rooms (serveGo [] es).1 c → Idle (serveGo [] es).1 → KeepA H H' av → H' l = some (.lst ((Cl05.nums ((Cl05.served s).2.length :: (Cl05.served s).2)).map V.int)) → ¬ av l → Q (.ref l) H'
abbrev s_answer_served : Stmt := top 37
theorem sc_answer_served : FnScope ["house", "served"] ["house"] (defScope s_answer_served) := ⟨rfl, rfl, rfl, by decide +kernel, rfl, by decide +kernel, by decide +kernel⟩
theorem ok_answer_served (F : Fun K "answer_served" "answer_served" s_answer_served f fd) (T : TxA mg) (D : DHouse P w K mg base CH CB CP) : FnOk P w K mg base CX0 7 f fd ["house"] (spServed TT CH CB CP) := by
  have d_House_serve := D.serve
  refine F.ok sc_answer_served (fun vs H Q E h => ?_) (fun cdv A outer s H vs Q E hr h => ?_)
  · obtain ⟨_, _, _, _, _, _, _, _, rfl, _⟩ := h
    rfl
  · obtain ⟨h, st, av, sl, dl, rooms, es, c, rfl, N, hav, k⟩ := h
    obtain ⟨dx, h1⟩ := N.at_.ob
    have R := N.rel
    refine ⟨_, (pss_cons (ps_set (i := 1) sc_answer_served.nd rfl (Or.inl rfl) (md_of (pe_meth0 (pv 0) d_House_serve.cl d_House_serve.h d_House_serve.F (hr.mono (by decide)) d_House_serve.b .nil pass0)))
      (pss_one (ps_ret (pe_op op_cat (pe_lst (pa_cons (pe_callB call_len_seq (by rfl) T.b_len PySem.boot_len (pa_cons (pv 1) pa_nil)) pa_nil)) (pv 1))))), ?_⟩
    refine ⟨_, rfl, h, dx, _, rfl, h1, hF_no _ _ _ (by decide +kernel), h, sl, dl, rooms, es, c, rfl, N.at_, R.nd, R.ok, by have := N.items; omega, fun H1 l1 hl1 A1 e1 kp1 => ?_⟩
    have N1 := N.serve A1 kp1
    have k1 : KeepA H H1 av := N.serve_keep kp1
    have hav1 := hav.keep k1
    refine ⟨_, rfl, l1, _, rfl, .inl (SqL.of e1), (by show 1 ≤ sizeLine; decide), fun l2 hl2 => ?_⟩
    have n12 : l1 ≠ l2 := ne_of_none e1 hl2
    have hlen : (serveGo [] es).2.length ≤ 24 := by
      have h2 : (serveGo [] es).2.length ≤ es.length := by
        have go : ∀ (rest done : List Ent), (serveGo done rest).2.length ≤ rest.length := by
          intro rest
          induction rest with
          | nil => intro done; exact Nat.le_refl _
          | cons e rest ih =>
            intro done
            rw [serveGo]
            split
            · have := ih (done ++ [e.freed])
              simp only [List.length_cons]
              omega
            · have := ih (done ++ [e])
              simp only [List.length_cons]
              omega
        exact go es []
      exact Nat.le_trans h2 N.items
    refine ⟨_, rfl, l2, l1, _, _, rfl, rfl, upd_same, (by rw [upd_ne n12]; exact e1), ?_, fun l hl => ?_⟩
    · refine Nat.le_of_lt (small1000 ?_)
      show 1 + (gV (serveGo [] es).2).length ≤ 1000
      rw [show (gV (serveGo [] es).2).length = (serveGo [] es).2.length from List.length_map _]
      omega
    · have sm : Same H1 (upd (upd H1 l2 (.lst [.int ((gV (serveGo [] es).2).length : Nat)])) l (.lst ([.int ((gV (serveGo [] es).2).length : Nat)] ++ gV (serveGo [] es).2))) := (new_same hl2).trans (new_same hl)
      refine k _ l (N1.same sm) (idle_go es [] (fun e he => by cases he)) (k1.trans (KeepA.of_same sm)) ?_ (((hav1.keep (KeepA.of_same (new_same hl2)))).not hl)
      rw [upd_same, R.served.1]
      have e5 : (gV (serveGo [] es).2).length = (serveGo [] es).2.length := List.length_map _
      rw [e5]
      show some (HO.lst (V.int ((serveGo [] es).2.length : Int) :: gV (serveGo [] es).2)) = some (HO.lst ((Cl05.nums ((serveGo [] es).2.length :: (serveGo [] es).2)).map V.int))
      unfold Cl05.nums
      rw [List.map_cons, List.map_cons, ← gV_eq]
end
end R
end

section
set_option maxRecDepth 100000
set_option maxHeartbeats 4000000
namespace R
open PySem PySem.Spec PyProof.Rows L2 LamX
section
variable {P : Program} {w : World} {K : PySem.W.Frag} {mg : Str → Option Value} {base : Heap} {CH CB CP f : Addr} {fd : FuncData} {TT : List (Addr × Str)}
/-! ### end -/
abbrev s_answer_end : Stmt := top 38
theorem sc_answer_end : FnScope ["house", "numbers", "number"] ["house", "numbers"] (defScope s_answer_end) := ⟨rfl, rfl, rfl, by decide +kernel, rfl, by decide +kernel, by decide +kernel⟩
theorem ok_answer_end (F : Fun K "answer_end" "answer_end" s_answer_end f fd) (T : TxA mg) (TH : TxH K mg CH CB) (D : DHouse P w K mg base CH CB CP) (d_answer_served : DF P w K mg base "answer_served" 7 ["house"] (spServed TT CH CB CP)) :
    FnOk P w K mg base CX0 8 f fd ["house", "numbers"] (spAns TT CH CB CP c5 1) := by
  have d_House_let_go := D.let_go
  refine F.ok sc_answer_end (fun vs H Q E h => ?_) (fun cdv A outer s H vs Q E hr h => ?_)
  · obtain ⟨_, _, _, _, _, rfl, _⟩ := h
    rfl
  · obtain ⟨h, a, st, av, ns, rfl, G, ava, hav, ha, hn, k⟩ := h
    obtain ⟨n, rfl⟩ := len1 hn
    obtain ⟨sl, dl, rooms, es, c, N, ID⟩ := id G
    have HA := N.at_
    have R := N.rel
    have hu := hu_of hr
    obtain ⟨⟨dx, h1⟩, h2, h3, h4⟩ := id HA
    replace h3 : H dl = some (.dK (kvs es)) := h3
    have e0 : Cl05.step st (c5 [n]) = (if st.waiting.any (fun x => x.id == n) = true then ({ st with waiting := st.waiting.filter fun x => x.id != n }, [0]) else match Cl05.item st n with
        | none => (st, [-4])
        | some _ => ((Cl05.served { st with booked := st.booked.filter fun x => x.id != n }).1, Cl05.nums ((Cl05.served { st with booked := st.booked.filter fun x => x.id != n }).2.length :: (Cl05.served { st with booked := st.booked.filter fun x => x.id != n }).2))) := rfl
    refine ⟨_, (pss_cons (ps_set (i := 2) sc_answer_end.nd rfl (Or.inl rfl) (pe_ix ix_list (pv 1) pe_int (fun _ _ => rfl)))
      (pss_cons (ps_if (pt_cmp (pc_dnotin hu (pv 2) (pe_fld (pv 0) rfl)))
        (pss_one (ps_ret (pe_lst (pa_cons (pe_gi T.g_NOT_HELD) pa_nil))))
        pss_nil)
      (pss_cons (ps_expr (md_of (pe_meth (pv 0) d_House_let_go.cl d_House_let_go.h d_House_let_go.F (hr.mono (by decide)) d_House_let_go.b .nil pass0 (pa_cons (pv 2) pa_nil))))
      (pss_one (ps_ret (cd_of (pe_call d_answer_served.F (hr.mono (by decide)) (by rfl) d_answer_served.g d_answer_served.kp d_answer_served.b .nil pass0 (pa_cons (pv 0) pa_nil)))))))), ?_⟩
    refine ⟨_, rfl, a, _, _, _, rfl, rfl, SqL.of ha, rfl, ?_⟩
    refine ⟨_, rfl, _, rfl, h, CH, dx, _, _, rfl, h1, TH.clH, TH.nH, hF_held _ _ _, dl, _, rfl, DGet.k (k := Sum.inl (n : Int)) h3, _, rfl, ?_⟩
    rw [valV_kvs]
    cases q : es.find? (fun e => e.id == n) with
    | none =>
      have none : ∀ e ∈ es, e.id ≠ n := fun e he z => by simpa [z] using List.find?_eq_none.mp q e he
      rw [R.waits_none fun e he z => absurd z (none e he), if_neg (by simp), R.item_none fun e he z => absurd z (none e he)] at e0
      exact if_t rfl ⟨(by show 1 ≤ sizeLine; decide), fun l hl => give hav (KeepA.of_same (Same.refl H)) G (by rw [e0]) (by rw [e0]) hl rfl k⟩
    | some e =>
      have he := List.mem_of_find?_eq_some q
      have hid : e.id = n := by simpa using List.find?_some q
      subst hid
      refine if_f rfl ?_
      refine ⟨_, rfl, h, dx, _, rfl, h1, hF_no _ _ _ (by decide +kernel), _, rfl, h, sl, dl, rooms, es, c, e.id, rfl, HA, ⟨e, he, rfl⟩, ?_⟩
      cases hw : e.waits with
      | true =>
        have N1 := N.less (k := e.id) (R.lessW he hw)
        have k1 : KeepA H (upd H dl (.dK (kvs (es.filter fun x => x.id != e.id)))) av := N.less_keep
        have ID1 : Idle (es.filter fun x => x.id != e.id) := ID.less R.nd he hw
        have go : serveGo [] (es.filter fun x => x.id != e.id) = (es.filter fun x => x.id != e.id, []) := go_idle _ [] (fun x hx hxw => ID1 x hx hxw)
        rw [R.waits_any he hw, if_pos rfl] at e0
        refine ⟨_, rfl, h, _, av, sl, dl, rooms, _, c, rfl, N1, hav.keep k1, fun H2 l N2 ID2 k2 e2 nl => ?_⟩
        obtain ⟨sv, R2⟩ := (R.lessW he hw).served
        rw [go] at N2 sv
        rw [sv] at e2
        -- none is served: what stands is what stood
        have es' : Cl05.served { st with waiting := st.waiting.filter fun x => x.id != e.id } = ({ st with waiting := st.waiting.filter fun x => x.id != e.id }, []) := served_idle (R.lessW he hw) ID1
        rw [es'] at N2
        refine k H2 l ⟨sl, dl, rooms, _, c, ?_, ID1⟩ (k1.trans k2) ?_ nl
        · rw [e0]; exact N2
        · rw [e0]; exact e2
      | false =>
        have N1 := N.less (k := e.id) (R.lessB he hw)
        have k1 : KeepA H (upd H dl (.dK (kvs (es.filter fun x => x.id != e.id)))) av := N.less_keep
        rw [R.waits_none (fun x hx z => by rw [id_inj R.nd hx he z]; exact hw), if_neg (by simp), R.item_some he hw] at e0
        refine ⟨_, rfl, h, _, av, sl, dl, rooms, _, c, rfl, N1, hav.keep k1, fun H2 l N2 ID2 k2 e2 nl => ?_⟩
        refine k H2 l ⟨sl, dl, rooms, _, c, ?_, ID2⟩ (k1.trans k2) ?_ nl
        · rw [e0]; exact N2
        · rw [e0]; exact e2
/-! ### skip -/
abbrev s_answer_skip : Stmt := top 39
theorem sc_answer_skip : FnScope ["house", "numbers", "which", "booking", "plan"] ["house", "numbers"] (defScope s_answer_skip) := ⟨rfl, rfl, rfl, by decide +kernel, rfl, by decide +kernel, by decide +kernel⟩
theorem ok_answer_skip (F : Fun K "answer_skip" "answer_skip" s_answer_skip f fd) (T : TxA mg) (TH : TxH K mg CH CB) (TP : TxP K mg CP) (D : DHouse P w K mg base CH CB CP) (DP : DPlan P w K mg base CP) (d_answer_served : DF P w K mg base "answer_served" 7 ["house"] (spServed TT CH CB CP)) :
    FnOk P w K mg base CX0 8 f fd ["house", "numbers"] (spAns TT CH CB CP c6 2) := by
  have d_House_find_booked := D.find_booked
  have d_Plan_has_time := DP.has_time
  have d_Plan_has_given_up := DP.has_given_up
  refine F.ok sc_answer_skip (fun vs H Q E h => ?_) (fun cdv A outer s H vs Q E hr h => ?_)
  · obtain ⟨_, _, _, _, _, rfl, _⟩ := h
    rfl
  · obtain ⟨h, a, st, av, ns, rfl, G, ava, hav, ha, hn, k⟩ := h
    obtain ⟨n, i, rfl⟩ := len2 hn
    obtain ⟨sl, dl, rooms, es, c, N, ID⟩ := id G
    have HA := N.at_
    have R := N.rel
    obtain ⟨⟨dx, h1⟩, h2, h3, h4⟩ := id HA
    have e0 : Cl05.step st (c6 [n, i]) = (match Cl05.item st n with
        | none => (st, [-4])
        | some x => if Cl05.hasTime x.plan i = false ∨ 9999 < i then (st, [-2]) else if 5 ≤ x.plan.skipped.length then (st, [-5]) else Cl05.change st n { x.plan with skipped := x.plan.skipped ++ [i] }) := rfl
    refine ⟨_, (pss_cons (ps_set (i := 2) sc_answer_skip.nd rfl (Or.inl rfl) (pe_ix ix_list (pv 1) pe_int (fun _ _ => rfl)))
      (pss_cons (ps_set (i := 3) sc_answer_skip.nd rfl (Or.inl rfl) (md_of (pe_meth (pv 0) d_House_find_booked.cl d_House_find_booked.h d_House_find_booked.F (hr.mono (by decide)) d_House_find_booked.b .nil pass0 (pa_cons (pe_ix ix_list (pv 1) pe_int (fun _ _ => rfl)) pa_nil))))
      (pss_cons (ps_if (pt_cmpR op_isN (pv 3) pe_non (nomark _))
        (pss_one (ps_ret (pe_lst (pa_cons (pe_gi T.g_NOT_HELD) pa_nil))))
        pss_nil)
      (pss_cons (ps_set (i := 4) sc_answer_skip.nd rfl (Or.inl rfl) (pe_fld (pv 3) rfl))
      (pss_cons (ps_if (PW.pt (pw_or (pt_cmpR op_gt (pv 2) (pe_gi T.g_MOST_WHICH) (nomark _)) (pw_or (pt_not (pt_val (md_of (pe_meth (pv 4) d_Plan_has_time.cl d_Plan_has_time.h d_Plan_has_time.F (hr.mono (by decide)) d_Plan_has_time.b .nil pass0 (pa_cons (pv 2) pa_nil))))) (pw_or1 (pt_val (md_of (pe_meth (pv 4) d_Plan_has_given_up.cl d_Plan_has_given_up.h d_Plan_has_given_up.F (hr.mono (by decide)) d_Plan_has_given_up.b .nil pass0 (pa_cons (pv 2) pa_nil))))))))
        (pss_one (ps_ret (pe_lst (pa_cons (pe_gi T.g_NO_SUCH_TIME) pa_nil))))
        pss_nil)
      (pss_cons (ps_if (pt_cmpR op_ge (pe_callB call_len_seq (by rfl) T.b_len PySem.boot_len (pa_cons (pe_fld (pv 4) rfl) pa_nil)) (pe_gi T.g_MOST_GIVEN_UP) (nomark _))
        (pss_one (ps_ret (pe_lst (pa_cons (pe_gi T.g_TOO_MANY) pa_nil))))
        pss_nil)
      (pss_cons (ps_expr (pe_bm PySem.F.plainAttrs_list PySem.F.slot_list_append PySem.F.type_list_append mt_append (pe_fld (pv 4) rfl) (pa_cons (pv 2) pa_nil)))
      (pss_one (ps_ret (cd_of (pe_call d_answer_served.F (hr.mono (by decide)) (by rfl) d_answer_served.g d_answer_served.kp d_answer_served.b .nil pass0 (pa_cons (pv 0) pa_nil)))))))))))), ?_⟩
    refine ⟨_, rfl, a, _, _, _, rfl, rfl, SqL.of ha, rfl, ?_⟩
    refine ⟨_, rfl, h, dx, _, rfl, h1, hF_no _ _ _ (by decide +kernel), _, rfl, a, _, _, _, rfl, rfl, SqL.of ha, rfl, h, sl, dl, rooms, es, c, n, rfl, HA, fun hno => ?_, fun e hfe hw => ?_⟩
    · have none : ∀ e ∈ es, e.id = n → e.waits = true := fun e he z => hno e (by rw [← z]; exact find_of R.nd he)
      rw [R.item_none none] at e0
      exact ⟨_, rfl, rfl, _, rfl, if_t rfl ⟨(by show 1 ≤ sizeLine; decide), fun l hl => give hav (KeepA.of_same (Same.refl H)) G (by rw [e0]) (by rw [e0]) hl rfl k⟩⟩
    · have he := List.mem_of_find?_eq_some hfe
      have hid : e.id = n := by simpa using List.find?_some hfe
      subst hid
      rw [R.item_some he hw] at e0
      replace e0 : Cl05.step st (c6 [e.id, i]) = (if Cl05.hasTime e.plan i = false ∨ 9999 < i then (st, [-2]) else if 5 ≤ e.plan.skipped.length then (st, [-5]) else Cl05.change st e.id { e.plan with skipped := e.plan.skipped ++ [i] }) := e0
      obtain ⟨⟨dy, b1⟩, PE⟩ := h4 e he
      obtain ⟨⟨dp, p1⟩, p2⟩ := id PE
      have ok := R.ok e he
      refine ⟨_, rfl, rfl, _, rfl, if_f rfl ?_⟩
      refine ⟨_, rfl, e.ba, CB, dy, _, _, rfl, b1, TH.clB, TH.nBp, bF_plan e, ?_⟩
      have bad : (Cl05.hasTime e.plan i = false ∨ 9999 < i) → ∀ l, H l = none → Q (.ref l) (upd H l (.lst [.int (-2)])) := fun z l hl => by
        rw [if_pos z] at e0
        exact give hav (KeepA.of_same (Same.refl H)) G (by rw [e0]) (by rw [e0]) hl rfl k
      refine ⟨_, rfl, _, _, rfl, rfl, _, rfl, if_b (fun z => iteT ⟨(by show 1 ≤ sizeLine; decide), fun l hl => bad (.inr (by have := of_decide_eq_true z; omega)) l hl⟩) fun z1 => ?_⟩
      refine ⟨_, rfl, e.pa, dp, _, rfl, p1, pF_no _ _ (by decide +kernel), _, rfl, e.pa, e.ga, e.plan, i, rfl, PE, _, rfl, if_b (fun z => iteT ⟨(by show 1 ≤ sizeLine; decide), fun l hl => bad (.inl ?_) l hl⟩) fun z2 => ?_⟩
      · cases q : Cl05.hasTime e.plan i with
        | false => rfl
        | true =>
          have := (RM.hasT_iff ok).mpr (RM.hasTime_iff.mp q).1
          rw [this] at z
          cases z
      refine ⟨_, rfl, e.pa, dp, _, rfl, p1, pF_no _ _ (by decide +kernel), _, rfl, e.pa, e.ga, e.plan, i, rfl, PE, _, rfl, if_b (fun z => ⟨(by show 1 ≤ sizeLine; decide), fun l hl => bad (.inl ?_) l hl⟩) fun z3 => ?_⟩
      · cases q : Cl05.hasTime e.plan i with
        | false => rfl
        | true =>
          have := (RM.hasTime_iff.mp q).2
          exact absurd (by simpa using z) this
      have has : Cl05.hasTime e.plan i = true := RM.hasTime_iff.mpr ⟨(RM.hasT_iff ok).mp (by simpa using z2), by simpa using z3⟩
      rw [if_neg (fun q => q.elim (fun q => by rw [has] at q; cases q) (fun q => by have := of_decide_eq_false z1; omega))] at e0
      have eg : (gV e.plan.skipped).length = e.plan.skipped.length := List.length_map _
      refine ⟨_, rfl, e.pa, CP, dp, _, _, rfl, p1, TP.cl, TP.nG, pF_gu _ _, e.ga, _, rfl, .inl (SqL.of p2), _, _, rfl, rfl, _, rfl, ?_⟩
      rw [eg]
      refine if_b (fun z => ?_) fun z4 => ?_
      · rw [if_pos (by have := of_decide_eq_true z; omega)] at e0
        exact ⟨(by show 1 ≤ sizeLine; decide), fun l hl => give hav (KeepA.of_same (Same.refl H)) G (by rw [e0]) (by rw [e0]) hl rfl k⟩
      have h5 : e.plan.skipped.length < 5 := by have := of_decide_eq_false z4; omega
      rw [if_neg (by omega)] at e0
      refine ⟨_, rfl, e.pa, CP, dp, _, _, rfl, p1, TP.cl, TP.nG, pF_gu _ _, .inl ⟨rfl, _, SqL.of p2⟩, _, rfl, e.ga, _, _, rfl, rfl, p2, small1000 (by rw [eg]; omega), ?_⟩
      rw [gV_snoc]
      have ok' : RM.OkP { e.plan with skipped := e.plan.skipped ++ [i] } := ⟨⟨ok.len.lo, ok.len.hi⟩, ok.first, ok.days, ok.times, ok.once⟩
      have R1 := R.change he hw (p := { e.plan with skipped := e.plan.skipped ++ [i] }) ok' (by show (e.plan.skipped ++ [i]).length ≤ 5; rw [List.length_append]; show e.plan.skipped.length + 1 ≤ 5; omega) (fewer_skip e.plan i)
      have kp : ∀ x o, H x = some o → x ≠ e.pa → x ≠ e.ga → (upd H e.ga (.lst (gV (e.plan.skipped ++ [i])))) x = some o := fun x o q _ hne => by rw [upd_ne hne]; exact q
      have npg : e.pa ≠ e.ga := ne_of p1 p2 (by intro z; cases z)
      have N1 := N.other he R1 ⟨⟨dp, by rw [upd_ne npg]; exact p1⟩, upd_same⟩ kp
      have k1 := N.other_keep he kp
      refine ⟨_, rfl, h, _, av, sl, dl, rooms, _, c, rfl, N1, hav.keep k1, fun H2 l N2 ID2 k2 e2 nl => ?_⟩
      refine k H2 l ⟨sl, dl, rooms, _, c, ?_, ID2⟩ (k1.trans k2) ?_ nl
      · rw [e0]; exact N2
      · rw [e0]; exact e2
end
end R
end

section
set_option maxRecDepth 100000
set_option maxHeartbeats 4000000
namespace R
open PySem PySem.Spec PyProof.Rows L2 LamX
def c7 (ns : List Nat) : Cl05.Call := .cut (ns.getD 0 0) (ns.getD 1 0)
def c8 (ns : List Nat) : Cl05.Call := .at_ (ns.getD 0 0) (ns.getD 1 0)
def c9 (ns : List Nat) : Cl05.Call := .next (ns.getD 0 0) (ns.getD 1 0)
def c10 (ns : List Nat) : Cl05.Call := .free (ns.getD 0 0) (ns.getD 1 0)
def c11 (ns : List Nat) : Cl05.Call := .used (ns.getD 0 0) (ns.getD 1 0) (ns.getD 2 0)
def c12 (ns : List Nat) : Cl05.Call := .tell (ns.getD 0 0)
def c13 (_ : List Nat) : Cl05.Call := .queue
theorem len3 {ns : List Nat} (h : ns.length = 3) : ∃ a b c, ns = [a, b, c] := by
  match ns, h with
  | [a, b, c], _ => exact ⟨a, b, c, rfl⟩
section
variable {P : Program} {w : World} {K : PySem.W.Frag} {mg : Str → Option Value} {base : Heap} {CH CB CP f : Addr} {fd : FuncData} {TT : List (Addr × Str)}
/-! ### cut -/
theorem pF_put (p : Cl05.Plan) (g : Addr) (i : Nat) : putF "times" (.int i) (pF p g) = pF { p with times := i } g := by
  unfold pF
  rw [put_past (by decide +kernel), put_past (by decide +kernel), put_past (by decide +kernel), put_here]
abbrev s_answer_cut : Stmt := top 40
theorem sc_answer_cut : FnScope ["house", "numbers", "many", "booking", "plan"] ["house", "numbers"] (defScope s_answer_cut) := ⟨rfl, rfl, rfl, by decide +kernel, rfl, by decide +kernel, by decide +kernel⟩
theorem ok_answer_cut (F : Fun K "answer_cut" "answer_cut" s_answer_cut f fd) (T : TxA mg) (TH : TxH K mg CH CB) (TP : TxP K mg CP) (D : DHouse P w K mg base CH CB CP) (DP : DPlan P w K mg base CP) (d_answer_served : DF P w K mg base "answer_served" 7 ["house"] (spServed TT CH CB CP)) :
    FnOk P w K mg base CX0 8 f fd ["house", "numbers"] (spAns TT CH CB CP c7 2) := by
  have d_House_find_booked := D.find_booked
  have d_Plan_has_time := DP.has_time
  refine F.ok sc_answer_cut (fun vs H Q E h => ?_) (fun cdv A outer s H vs Q E hr h => ?_)
  · obtain ⟨_, _, _, _, _, rfl, _⟩ := h
    rfl
  · obtain ⟨h, a, st, av, ns, rfl, G, ava, hav, ha, hn, k⟩ := h
    obtain ⟨n, i, rfl⟩ := len2 hn
    obtain ⟨sl, dl, rooms, es, c, N, ID⟩ := id G
    have HA := N.at_
    have R := N.rel
    obtain ⟨⟨dx, h1⟩, h2, h3, h4⟩ := id HA
    have e0 : Cl05.step st (c7 [n, i]) = (match Cl05.item st n with
        | none => (st, [-4])
        | some x => if x.plan.days = 0 ∨ (i = 0 ∨ (500 < i ∨ (x.plan.times ≠ 0 ∧ x.plan.times ≤ i))) then (st, [-2]) else Cl05.change st n { x.plan with times := i }) := rfl
    refine ⟨_, (pss_cons (ps_set (i := 2) sc_answer_cut.nd rfl (Or.inl rfl) (pe_ix ix_list (pv 1) pe_int (fun _ _ => rfl)))
      (pss_cons (ps_set (i := 3) sc_answer_cut.nd rfl (Or.inl rfl) (md_of (pe_meth (pv 0) d_House_find_booked.cl d_House_find_booked.h d_House_find_booked.F (hr.mono (by decide)) d_House_find_booked.b .nil pass0 (pa_cons (pe_ix ix_list (pv 1) pe_int (fun _ _ => rfl)) pa_nil))))
      (pss_cons (ps_if (pt_cmpR op_isN (pv 3) pe_non (nomark _))
        (pss_one (ps_ret (pe_lst (pa_cons (pe_gi T.g_NOT_HELD) pa_nil))))
        pss_nil)
      (pss_cons (ps_set (i := 4) sc_answer_cut.nd rfl (Or.inl rfl) (pe_fld (pv 3) rfl))
      (pss_cons (ps_if (PW.pt (pw_or (pt_cmpR op_eq (pe_fld (pv 4) rfl) pe_int (nomark _)) (pw_or (pt_cmpR op_lt (pv 2) pe_int (nomark _)) (pw_or1 (pt_cmpR op_gt (pv 2) (pe_gi T.g_MOST_TIMES) (nomark _))))))
        (pss_one (ps_ret (pe_lst (pa_cons (pe_gi T.g_NO_SUCH_TIME) pa_nil))))
        pss_nil)
      (pss_cons (ps_if (pt_not (pt_val (md_of (pe_meth (pv 4) d_Plan_has_time.cl d_Plan_has_time.h d_Plan_has_time.F (hr.mono (by decide)) d_Plan_has_time.b .nil pass0 (pa_cons (pv 2) pa_nil)))))
        (pss_one (ps_ret (pe_lst (pa_cons (pe_gi T.g_NO_SUCH_TIME) pa_nil))))
        pss_nil)
      (pss_cons (ps_fld (pv 4) (pv 2) rfl)
      (pss_one (ps_ret (cd_of (pe_call d_answer_served.F (hr.mono (by decide)) (by rfl) d_answer_served.g d_answer_served.kp d_answer_served.b .nil pass0 (pa_cons (pv 0) pa_nil)))))))))))), ?_⟩
    refine ⟨_, rfl, a, _, _, _, rfl, rfl, SqL.of ha, rfl, ?_⟩
    refine ⟨_, rfl, h, dx, _, rfl, h1, hF_no _ _ _ (by decide +kernel), _, rfl, a, _, _, _, rfl, rfl, SqL.of ha, rfl, h, sl, dl, rooms, es, c, n, rfl, HA, fun hno => ?_, fun e hfe hw => ?_⟩
    · have none : ∀ e ∈ es, e.id = n → e.waits = true := fun e he z => hno e (by rw [← z]; exact find_of R.nd he)
      rw [R.item_none none] at e0
      exact ⟨_, rfl, rfl, _, rfl, if_t rfl ⟨(by show 1 ≤ sizeLine; decide), fun l hl => give hav (KeepA.of_same (Same.refl H)) G (by rw [e0]) (by rw [e0]) hl rfl k⟩⟩
    · have he := List.mem_of_find?_eq_some hfe
      have hid : e.id = n := by simpa using List.find?_some hfe
      subst hid
      rw [R.item_some he hw] at e0
      replace e0 : Cl05.step st (c7 [e.id, i]) = (if e.plan.days = 0 ∨ (i = 0 ∨ (500 < i ∨ (e.plan.times ≠ 0 ∧ e.plan.times ≤ i))) then (st, [-2]) else Cl05.change st e.id { e.plan with times := i }) := e0
      obtain ⟨⟨dy, b1⟩, PE⟩ := h4 e he
      obtain ⟨⟨dp, p1⟩, p2⟩ := id PE
      have ok := R.ok e he
      refine ⟨_, rfl, rfl, _, rfl, if_f rfl ?_⟩
      refine ⟨_, rfl, e.ba, CB, dy, _, _, rfl, b1, TH.clB, TH.nBp, bF_plan e, ?_⟩
      have bad : (e.plan.days = 0 ∨ (i = 0 ∨ (500 < i ∨ (e.plan.times ≠ 0 ∧ e.plan.times ≤ i)))) → ∀ l, H l = none → Q (.ref l) (upd H l (.lst [.int (-2)])) := fun z l hl => by
        rw [if_pos z] at e0
        exact give hav (KeepA.of_same (Same.refl H)) G (by rw [e0]) (by rw [e0]) hl rfl k
      -- plan.days == 0 or many < 1 or many > MOST_TIMES
      refine ⟨_, rfl, e.pa, CP, dp, _, _, rfl, p1, TP.cl, TP.nD, pF_days _ _, rfl, _, rfl, ?_⟩
      have e2 := eqInt (a := e.plan.days) (b := 0)
      rw [show V.int ((0 : Nat) : Int) = V.int 0 from rfl] at e2
      rw [e2]
      refine if_b (fun z => iteT ⟨(by show 1 ≤ sizeLine; decide), fun l hl => bad (.inl (of_decide_eq_true z)) l hl⟩) fun z1 => ?_
      have hd : e.plan.days ≠ 0 := of_decide_eq_false z1
      refine ⟨_, rfl, _, _, rfl, rfl, _, rfl, if_b (fun z => iteT ⟨(by show 1 ≤ sizeLine; decide), fun l hl => bad (.inr (.inl (by have := of_decide_eq_true z; omega))) l hl⟩) fun z2 => ?_⟩
      refine ⟨_, rfl, _, _, rfl, rfl, _, rfl, if_b (fun z => ⟨(by show 1 ≤ sizeLine; decide), fun l hl => bad (.inr (.inr (.inl (by have := of_decide_eq_true z; omega)))) l hl⟩) fun z3 => ?_⟩
      have hi0 : i ≠ 0 := by have := of_decide_eq_false z2; omega
      have hi5 : i ≤ 500 := by have := of_decide_eq_false z3; omega
      -- not plan.has_time(many)
      have eT : RM.hasT e.plan i = true ↔ (e.plan.times = 0 ∨ i < e.plan.times) := by unfold RM.hasT; simp
      refine ⟨_, rfl, e.pa, dp, _, rfl, p1, pF_no _ _ no_has_time, _, rfl, e.pa, e.ga, e.plan, i, rfl, PE, _, rfl, if_b (fun z => ⟨(by show 1 ≤ sizeLine; decide), fun l hl => bad (.inr (.inr (.inr ?_))) l hl⟩) fun z4 => ?_⟩
      · have nT : ¬ (e.plan.times = 0 ∨ i < e.plan.times) := fun q => by rw [eT.mpr q] at z; cases z
        omega
      have hT : e.plan.times = 0 ∨ i < e.plan.times := eT.mp (by simpa using z4)
      rw [if_neg (by omega)] at e0
      -- plan.times = many
      refine ⟨_, rfl, _, rfl, e.pa, CP, dp, _, rfl, p1, TP.cl, TP.nT, (by show 5 < 1000; decide), ?_⟩
      rw [pF_put]
      have R1 := R.change he hw (p := { e.plan with times := i }) (okP_cut ok hd hi5) (R.five e he) (fewer_cut e.plan hd hi0 fun z => hT.resolve_left z)
      have kp : ∀ x o, H x = some o → x ≠ e.pa → x ≠ e.ga → (upd H e.pa (.ins CP dp (pF { e.plan with times := i } e.ga))) x = some o := fun x o q hne _ => by rw [upd_ne hne]; exact q
      have npg : e.ga ≠ e.pa := ne_of p2 p1 (by intro z; cases z)
      have N1 := N.other he R1 ⟨⟨dp, upd_same⟩, by rw [upd_ne npg]; exact p2⟩ kp
      have k1 := N.other_keep he kp
      refine ⟨_, rfl, h, _, av, sl, dl, rooms, _, c, rfl, N1, hav.keep k1, fun H2 l N2 ID2 k2 e2 nl => ?_⟩
      refine k H2 l ⟨sl, dl, rooms, _, c, ?_, ID2⟩ (k1.trans k2) ?_ nl
      · rw [e0]; exact N2
      · rw [e0]; exact e2
/-! ### at -/
abbrev s_answer_at : Stmt := top 41
theorem sc_answer_at : FnScope ["house", "numbers", "room", "booking"] ["house", "numbers"] (defScope s_answer_at) := ⟨rfl, rfl, rfl, by decide +kernel, rfl, by decide +kernel, by decide +kernel⟩
theorem ok_answer_at (F : Fun K "answer_at" "answer_at" s_answer_at f fd) (T : TxA mg) (TH : TxH K mg CH CB) (D : DHouse P w K mg base CH CB CP) (D2 : DHouse2 P w K mg base CH CB CP) :
    FnOk P w K mg base CX0 5 f fd ["house", "numbers"] (spAns TT CH CB CP c8 2) := by
  have d_House_has_room := D.has_room
  have d_House_who_has := D2.who_has
  refine F.ok sc_answer_at (fun vs H Q E h => ?_) (fun cdv A outer s H vs Q E hr h => ?_)
  · obtain ⟨_, _, _, _, _, rfl, _⟩ := h
    rfl
  · obtain ⟨h, a, st, av, ns, rfl, G, ava, hav, ha, hn, k⟩ := h
    obtain ⟨r, u, rfl⟩ := len2 hn
    obtain ⟨sl, dl, rooms, es, c, N, ID⟩ := id G
    have HA := N.at_
    have R := N.rel
    obtain ⟨dx, h1⟩ := HA.ob
    have e0 : Cl05.step st (c8 [r, u]) = (if st.rooms.length ≤ r then (st, [-3]) else (st, match Cl05.holder st r u with
        | none => [0]
        | some x => Cl05.nums [1, x.id, x.who])) := rfl
    rw [R.rooms] at e0
    refine ⟨_, (pss_cons (ps_set (i := 2) sc_answer_at.nd rfl (Or.inl rfl) (pe_ix ix_list (pv 1) pe_int (fun _ _ => rfl)))
      (pss_cons (ps_if (pt_not (pt_val (md_of (pe_meth (pv 0) d_House_has_room.cl d_House_has_room.h d_House_has_room.F (hr.mono (by decide)) d_House_has_room.b .nil pass0 (pa_cons (pv 2) pa_nil)))))
        (pss_one (ps_ret (pe_lst (pa_cons (pe_gi T.g_NO_ROOM) pa_nil))))
        pss_nil)
      (pss_cons (ps_set (i := 3) sc_answer_at.nd rfl (Or.inl rfl) (md_of (pe_meth (pv 0) d_House_who_has.cl d_House_who_has.h d_House_who_has.F (hr.mono (by decide)) d_House_who_has.b .nil pass0 (pa_cons (pv 2) (pa_cons (pe_ix ix_list (pv 1) pe_int (fun _ _ => rfl)) pa_nil)))))
      (pss_cons (ps_if (pt_cmpR op_isN (pv 3) pe_non (nomark _))
        (pss_one (ps_ret (pe_lst (pa_cons pe_int pa_nil))))
        pss_nil)
      (pss_one (ps_ret (pe_lst (pa_cons pe_int (pa_cons (pe_fld (pv 3) rfl) (pa_cons (pe_fld (pv 3) rfl) pa_nil)))))))))), ?_⟩
    refine ⟨_, rfl, a, _, _, _, rfl, rfl, SqL.of ha, rfl, ?_⟩
    refine ⟨_, rfl, h, dx, _, rfl, h1, hF_no _ _ _ (by decide +kernel), _, rfl, h, sl, dl, rooms, es, c, r, rfl, HA, _, rfl, if_b (fun z => ?_) fun z => ?_⟩
    · have z' : rooms.length ≤ r := by simpa using z
      rw [if_pos z'] at e0
      exact ⟨(by show 1 ≤ sizeLine; decide), fun l hl => give hav (KeepA.of_same (Same.refl H)) G (by rw [e0]) (by rw [e0]) hl rfl k⟩
    have z' : ¬ rooms.length ≤ r := by simpa using z
    rw [if_neg z'] at e0
    refine ⟨_, rfl, h, dx, _, rfl, h1, hF_no _ _ _ (by decide +kernel), _, rfl, _, rfl, a, _, _, _, rfl, rfl, SqL.of ha, rfl, h, sl, dl, rooms, es, c, r, u, rfl, HA, R.ok, by have := N.items; omega, fun hno H1 s1 => ?_, fun e he ht H1 s1 => ?_⟩
    · rw [R.holder_none (fun e he z => by have := (RM.takes_iff (R.ok e he.1).len).mpr z; rw [hno e (mem_inR.mpr he)] at this; cases this)] at e0
      exact ⟨_, rfl, rfl, _, rfl, if_t rfl ⟨(by show 1 ≤ sizeLine; decide), fun l hl => give hav (KeepA.of_same s1) ⟨sl, dl, rooms, es, c, N.same s1, ID⟩ (by rw [e0]) (by rw [e0]) hl rfl k⟩⟩
    · have hi := mem_inR.mp he
      rw [R.holder_some (e := e) hi ((RM.takes_iff (R.ok e hi.1).len).mp ht)] at e0
      obtain ⟨⟨dy, b1⟩, _⟩ := (HA.ents e hi.1).same s1
      refine ⟨_, rfl, rfl, _, rfl, if_f rfl ?_⟩
      exact ⟨_, rfl, e.ba, CB, dy, _, _, rfl, b1, TH.clB, TH.nBn, bF_number e, _, rfl, e.ba, CB, dy, _, _, rfl, b1, TH.clB, TH.nBw, bF_whom e, (by show 3 ≤ sizeLine; decide), fun l hl => give hav (KeepA.of_same s1) ⟨sl, dl, rooms, es, c, N.same s1, ID⟩ (by rw [e0]) (by rw [e0]) hl rfl k⟩
/-! ### next -/
abbrev s_answer_next : Stmt := top 42
theorem sc_answer_next : FnScope ["house", "numbers", "room", "coming"] ["house", "numbers"] (defScope s_answer_next) := ⟨rfl, rfl, rfl, by decide +kernel, rfl, by decide +kernel, by decide +kernel⟩
theorem ok_answer_next (F : Fun K "answer_next" "answer_next" s_answer_next f fd) (T : TxA mg) (D : DHouse P w K mg base CH CB CP) (D2 : DHouse2 P w K mg base CH CB CP) :
    FnOk P w K mg base CX0 5 f fd ["house", "numbers"] (spAns TT CH CB CP c9 2) := by
  have d_House_has_room := D.has_room
  have d_House_next_time := D2.next_time
  refine F.ok sc_answer_next (fun vs H Q E h => ?_) (fun cdv A outer s H vs Q E hr h => ?_)
  · obtain ⟨_, _, _, _, _, rfl, _⟩ := h
    rfl
  · obtain ⟨h, a, st, av, ns, rfl, G, ava, hav, ha, hn, k⟩ := h
    obtain ⟨r, u, rfl⟩ := len2 hn
    obtain ⟨sl, dl, rooms, es, c, N, ID⟩ := id G
    have HA := N.at_
    have R := N.rel
    obtain ⟨dx, h1⟩ := HA.ob
    have e0 : Cl05.step st (c9 [r, u]) = (if st.rooms.length ≤ r then (st, [-3]) else (st, match Cl05.nextIn st r u with
        | none => [-6]
        | some x => Cl05.nums [x.1, x.2])) := rfl
    rw [R.rooms] at e0
    refine ⟨_, (pss_cons (ps_set (i := 2) sc_answer_next.nd rfl (Or.inl rfl) (pe_ix ix_list (pv 1) pe_int (fun _ _ => rfl)))
      (pss_cons (ps_if (pt_not (pt_val (md_of (pe_meth (pv 0) d_House_has_room.cl d_House_has_room.h d_House_has_room.F (hr.mono (by decide)) d_House_has_room.b .nil pass0 (pa_cons (pv 2) pa_nil)))))
        (pss_one (ps_ret (pe_lst (pa_cons (pe_gi T.g_NO_ROOM) pa_nil))))
        pss_nil)
      (pss_cons (ps_set (i := 3) sc_answer_next.nd rfl (Or.inl rfl) (md_of (pe_meth (pv 0) d_House_next_time.cl d_House_next_time.h d_House_next_time.F (hr.mono (by decide)) d_House_next_time.b .nil pass0 (pa_cons (pv 2) (pa_cons (pe_ix ix_list (pv 1) pe_int (fun _ _ => rfl)) pa_nil)))))
      (pss_cons (ps_if (pt_cmpR op_isN (pv 3) pe_non (nomark _))
        (pss_one (ps_ret (pe_lst (pa_cons (pe_gi T.g_NONE_TO_COME) pa_nil))))
        pss_nil)
      (pss_one (ps_ret (pe_lst (pa_cons (pe_ix ix_tup (pv 3) pe_int (fun _ _ => rfl)) (pa_cons (pe_ix ix_tup (pv 3) pe_int (fun _ _ => rfl)) pa_nil))))))))), ?_⟩
    refine ⟨_, rfl, a, _, _, _, rfl, rfl, SqL.of ha, rfl, ?_⟩
    refine ⟨_, rfl, h, dx, _, rfl, h1, hF_no _ _ _ (by decide +kernel), _, rfl, h, sl, dl, rooms, es, c, r, rfl, HA, _, rfl, if_b (fun z => ?_) fun z => ?_⟩
    · have z' : rooms.length ≤ r := by simpa using z
      rw [if_pos z'] at e0
      exact ⟨(by show 1 ≤ sizeLine; decide), fun l hl => give hav (KeepA.of_same (Same.refl H)) G (by rw [e0]) (by rw [e0]) hl rfl k⟩
    have z' : ¬ rooms.length ≤ r := by simpa using z
    rw [if_neg z'] at e0
    refine ⟨_, rfl, h, dx, _, rfl, h1, hF_no _ _ _ (by decide +kernel), _, rfl, _, rfl, a, _, _, _, rfl, rfl, SqL.of ha, rfl, h, sl, dl, rooms, es, c, r, u, rfl, HA, R.ok, by have := N.items; omega, fun hno H1 s1 => ?_, fun e t he ht hle H1 x s1 hx => ?_⟩
    · rw [R.nextIn_none fun e he => hno e (mem_inR.mpr he)] at e0
      exact ⟨_, rfl, rfl, _, rfl, if_t rfl ⟨(by show 1 ≤ sizeLine; decide), fun l hl => give hav (KeepA.of_same s1) ⟨sl, dl, rooms, es, c, N.same s1, ID⟩ (by rw [e0]) (by rw [e0]) hl rfl k⟩⟩
    · rw [R.nextIn_some (e := e) (mem_inR.mp he) ht fun e' t' h' ht' => hle e' (mem_inR.mpr h') t' ht'] at e0
      refine ⟨_, rfl, rfl, _, rfl, if_f rfl ?_⟩
      exact ⟨_, rfl, x, _, _, _, rfl, rfl, SqT.of hx, rfl, _, rfl, x, _, _, _, rfl, rfl, SqT.of hx, rfl, (by show 2 ≤ sizeLine; decide), fun l hl => give hav (KeepA.of_same s1) ⟨sl, dl, rooms, es, c, N.same s1, ID⟩ (by rw [e0]) (by rw [e0]) hl rfl k⟩
/-! ### free -/
abbrev s_answer_free : Stmt := top 43
theorem sc_answer_free : FnScope ["house", "numbers", "room", "moment", "coming"] ["house", "numbers"] (defScope s_answer_free) := ⟨rfl, rfl, rfl, by decide +kernel, rfl, by decide +kernel, by decide +kernel⟩
theorem ok_answer_free (F : Fun K "answer_free" "answer_free" s_answer_free f fd) (T : TxA mg) (D : DHouse P w K mg base CH CB CP) (D2 : DHouse2 P w K mg base CH CB CP) :
    FnOk P w K mg base CX0 5 f fd ["house", "numbers"] (spAns TT CH CB CP c10 2) := by
  have d_House_has_room := D.has_room
  have d_House_who_has := D2.who_has
  have d_House_next_time := D2.next_time
  refine F.ok sc_answer_free (fun vs H Q E h => ?_) (fun cdv A outer s H vs Q E hr h => ?_)
  · obtain ⟨_, _, _, _, _, rfl, _⟩ := h
    rfl
  · obtain ⟨h, a, st, av, ns, rfl, G, ava, hav, ha, hn, k⟩ := h
    obtain ⟨r, u, rfl⟩ := len2 hn
    obtain ⟨sl, dl, rooms, es, c, N, ID⟩ := id G
    have HA := N.at_
    have R := N.rel
    obtain ⟨dx, h1⟩ := HA.ob
    have e0 : Cl05.step st (c10 [r, u]) = (if st.rooms.length ≤ r then (st, [-3]) else (st, if (Cl05.holder st r u).isSome = true then [0] else match Cl05.nextIn st r u with
        | none => [-6]
        | some x => Cl05.nums [x.1 - u])) := rfl
    rw [R.rooms] at e0
    refine ⟨_, (pss_cons (ps_set (i := 2) sc_answer_free.nd rfl (Or.inl rfl) (pe_ix ix_list (pv 1) pe_int (fun _ _ => rfl)))
      (pss_cons (ps_set (i := 3) sc_answer_free.nd rfl (Or.inl rfl) (pe_ix ix_list (pv 1) pe_int (fun _ _ => rfl)))
      (pss_cons (ps_if (pt_not (pt_val (md_of (pe_meth (pv 0) d_House_has_room.cl d_House_has_room.h d_House_has_room.F (hr.mono (by decide)) d_House_has_room.b .nil pass0 (pa_cons (pv 2) pa_nil)))))
        (pss_one (ps_ret (pe_lst (pa_cons (pe_gi T.g_NO_ROOM) pa_nil))))
        pss_nil)
      (pss_cons (ps_if (pt_cmpR op_notN (md_of (pe_meth (pv 0) d_House_who_has.cl d_House_who_has.h d_House_who_has.F (hr.mono (by decide)) d_House_who_has.b .nil pass0 (pa_cons (pv 2) (pa_cons (pv 3) pa_nil)))) pe_non (nomark _))
        (pss_one (ps_ret (pe_lst (pa_cons pe_int pa_nil))))
        pss_nil)
      (pss_cons (ps_set (i := 4) sc_answer_free.nd rfl (Or.inl rfl) (md_of (pe_meth (pv 0) d_House_next_time.cl d_House_next_time.h d_House_next_time.F (hr.mono (by decide)) d_House_next_time.b .nil pass0 (pa_cons (pv 2) (pa_cons (pv 3) pa_nil)))))
      (pss_cons (ps_if (pt_cmpR op_isN (pv 4) pe_non (nomark _))
        (pss_one (ps_ret (pe_lst (pa_cons (pe_gi T.g_NONE_TO_COME) pa_nil))))
        pss_nil)
      (pss_one (ps_ret (pe_lst (pa_cons (pe_op op_sub (pe_ix ix_tup (pv 4) pe_int (fun _ _ => rfl)) (pv 3)) pa_nil)))))))))), ?_⟩
    refine ⟨_, rfl, a, _, _, _, rfl, rfl, SqL.of ha, rfl, ?_⟩
    refine ⟨_, rfl, a, _, _, _, rfl, rfl, SqL.of ha, rfl, ?_⟩
    refine ⟨_, rfl, h, dx, _, rfl, h1, hF_no _ _ _ (by decide +kernel), _, rfl, h, sl, dl, rooms, es, c, r, rfl, HA, _, rfl, if_b (fun z => ?_) fun z => ?_⟩
    · have z' : rooms.length ≤ r := by simpa using z
      rw [if_pos z'] at e0
      exact ⟨(by show 1 ≤ sizeLine; decide), fun l hl => give hav (KeepA.of_same (Same.refl H)) G (by rw [e0]) (by rw [e0]) hl rfl k⟩
    have z' : ¬ rooms.length ≤ r := by simpa using z
    rw [if_neg z'] at e0
    have h24 : es.length ≤ 100 := by have := N.items; omega
    refine ⟨_, rfl, h, dx, _, rfl, h1, hF_no _ _ _ (by decide +kernel), _, rfl, _, rfl, h, sl, dl, rooms, es, c, r, u, rfl, HA, R.ok, h24, fun hno H1 s1 => ?_, fun e he ht H1 s1 => ?_⟩
    · rw [R.holder_none (fun e he z => by have := (RM.takes_iff (R.ok e he.1).len).mpr z; rw [hno e (mem_inR.mpr he)] at this; cases this), if_neg (by simp)] at e0
      refine ⟨rfl, _, rfl, if_f rfl ?_⟩
      have N1 := N.same s1
      obtain ⟨dx1, h1'⟩ := N1.at_.ob
      refine ⟨_, rfl, h, dx1, _, rfl, h1', hF_no _ _ _ (by decide +kernel), _, rfl, _, rfl, h, sl, dl, rooms, es, c, r, u, rfl, N1.at_, R.ok, h24, fun hno2 H2 s2 => ?_, fun e t he ht hle H2 x s2 hx => ?_⟩
      · rw [R.nextIn_none fun e he => hno2 e (mem_inR.mpr he)] at e0
        exact ⟨_, rfl, rfl, _, rfl, if_t rfl ⟨(by show 1 ≤ sizeLine; decide), fun l hl => give hav (KeepA.of_same (s1.trans s2)) ⟨sl, dl, rooms, es, c, N1.same s2, ID⟩ (by rw [e0]) (by rw [e0]) hl rfl k⟩⟩
      · rw [R.nextIn_some (e := e) (mem_inR.mp he) ht fun e' t' h' ht' => hle e' (mem_inR.mpr h') t' ht'] at e0
        have lu : u ≤ t := by
          have := RM.nextOf_next (p := e.plan) u
          rw [ht] at this
          exact this.2.1
        refine ⟨_, rfl, rfl, _, rfl, if_f rfl ?_⟩
        exact ⟨_, rfl, x, _, _, _, rfl, rfl, SqT.of hx, rfl, _, rfl, _, _, rfl, rfl, (by show 1 ≤ sizeLine; decide), fun l hl => give hav (KeepA.of_same (s1.trans s2)) ⟨sl, dl, rooms, es, c, N1.same s2, ID⟩ (by rw [e0]) (by rw [e0]) hl (by show [V.int ((t : Int) - (u : Int))] = [V.int ((t - u : Nat) : Int)]; rw [Int.ofNat_sub lu]) k⟩
    · have hi := mem_inR.mp he
      rw [R.holder_some (e := e) hi ((RM.takes_iff (R.ok e hi.1).len).mp ht), if_pos (show (some e.item).isSome = true from rfl)] at e0
      exact ⟨rfl, _, rfl, if_t rfl ⟨(by show 1 ≤ sizeLine; decide), fun l hl => give hav (KeepA.of_same s1) ⟨sl, dl, rooms, es, c, N.same s1, ID⟩ (by rw [e0]) (by rw [e0]) hl rfl k⟩⟩
/-! ### used -/
theorem usedE_sum (r a b : Nat) : ∀ es : List Ent, ((inR es r).map fun e => (Cl05.usedBy e.plan a b : Int)).sum = (usedE es r a b : Int)
  | [] => rfl
  | e :: es => by
    have ih := usedE_sum r a b es
    unfold usedE at ih ⊢
    rw [List.map_cons, List.foldl_cons, RM.foldl_add, Int.natCast_add, ← ih]
    unfold inR
    by_cases c : e.room = r ∧ e.waits = false
    · rw [List.filter_cons_of_pos (by rw [c.2]; simp [c.1]), List.map_cons, List.sum_cons, if_pos c, Nat.zero_add]
    · rw [List.filter_cons_of_neg (fun z => by rw [Bool.and_eq_true, decide_eq_true_eq, Bool.not_eq_true'] at z; exact c z), if_neg c]
      simp
abbrev s_answer_used : Stmt := top 44
theorem sc_answer_used : FnScope ["house", "numbers", "room", "moment", "until"] ["house", "numbers"] (defScope s_answer_used) := ⟨rfl, rfl, rfl, by decide +kernel, rfl, by decide +kernel, by decide +kernel⟩
theorem ok_answer_used (F : Fun K "answer_used" "answer_used" s_answer_used f fd) (T : TxA mg) (D : DHouse P w K mg base CH CB CP) (D2 : DHouse2 P w K mg base CH CB CP) :
    FnOk P w K mg base CX0 5 f fd ["house", "numbers"] (spAns TT CH CB CP c11 3) := by
  have d_House_has_room := D.has_room
  have d_House_minutes_used := D2.minutes_used
  refine F.ok sc_answer_used (fun vs H Q E h => ?_) (fun cdv A outer s H vs Q E hr h => ?_)
  · obtain ⟨_, _, _, _, _, rfl, _⟩ := h
    rfl
  · obtain ⟨h, a, st, av, ns, rfl, G, ava, hav, ha, hn, k⟩ := h
    obtain ⟨r, u, t, rfl⟩ := len3 hn
    obtain ⟨sl, dl, rooms, es, c, N, ID⟩ := id G
    have HA := N.at_
    have R := N.rel
    obtain ⟨dx, h1⟩ := HA.ob
    have e0 : Cl05.step st (c11 [r, u, t]) = (if st.rooms.length ≤ r then (st, [-3]) else if t < u ∨ u + 200000 < t then (st, [-1]) else (st, [((((st.booked.filter fun (x : Cl05.Item) => x.room == r).map fun (x : Cl05.Item) => Cl05.usedBy x.plan u t).foldl (fun (x y : Nat) => x + y) 0 : Nat) : Int)])) := rfl
    rw [R.rooms, R.used] at e0
    refine ⟨_, (pss_cons (ps_set (i := 2) sc_answer_used.nd rfl (Or.inl rfl) (pe_ix ix_list (pv 1) pe_int (fun _ _ => rfl)))
      (pss_cons (ps_set (i := 3) sc_answer_used.nd rfl (Or.inl rfl) (pe_ix ix_list (pv 1) pe_int (fun _ _ => rfl)))
      (pss_cons (ps_set (i := 4) sc_answer_used.nd rfl (Or.inl rfl) (pe_ix ix_list (pv 1) pe_int (fun _ _ => rfl)))
      (pss_cons (ps_if (pt_not (pt_val (md_of (pe_meth (pv 0) d_House_has_room.cl d_House_has_room.h d_House_has_room.F (hr.mono (by decide)) d_House_has_room.b .nil pass0 (pa_cons (pv 2) pa_nil)))))
        (pss_one (ps_ret (pe_lst (pa_cons (pe_gi T.g_NO_ROOM) pa_nil))))
        pss_nil)
      (pss_cons (ps_if (PW.pt (pw_or (pt_cmpR op_lt (pv 4) (pv 3) (nomark _)) (pw_or1 (pt_cmpR op_gt (pe_op op_sub (pv 4) (pv 3)) (pe_gi T.g_MOST_STRETCH) (nomark _)))))
        (pss_one (ps_ret (pe_lst (pa_cons (pe_gi T.g_NOT_AS_TOLD) pa_nil))))
        pss_nil)
      (pss_one (ps_ret (pe_lst (pa_cons (md_of (pe_meth (pv 0) d_House_minutes_used.cl d_House_minutes_used.h d_House_minutes_used.F (hr.mono (by decide)) d_House_minutes_used.b .nil pass0 (pa_cons (pv 2) (pa_cons (pv 3) (pa_cons (pv 4) pa_nil))))) pa_nil))))))))), ?_⟩
    refine ⟨_, rfl, a, _, _, _, rfl, rfl, SqL.of ha, rfl, ?_⟩
    refine ⟨_, rfl, a, _, _, _, rfl, rfl, SqL.of ha, rfl, ?_⟩
    refine ⟨_, rfl, a, _, _, _, rfl, rfl, SqL.of ha, rfl, ?_⟩
    refine ⟨_, rfl, h, dx, _, rfl, h1, hF_no _ _ _ (by decide +kernel), _, rfl, h, sl, dl, rooms, es, c, r, rfl, HA, _, rfl, if_b (fun z => ?_) fun z => ?_⟩
    · have z' : rooms.length ≤ r := by simpa using z
      rw [if_pos z'] at e0
      exact ⟨(by show 1 ≤ sizeLine; decide), fun l hl => give hav (KeepA.of_same (Same.refl H)) G (by rw [e0]) (by rw [e0]) hl rfl k⟩
    have z' : ¬ rooms.length ≤ r := by simpa using z
    rw [if_neg z'] at e0
    have bad : (t < u ∨ u + 200000 < t) → ∀ l, H l = none → Q (.ref l) (upd H l (.lst [.int (-1)])) := fun z l hl => by
      rw [if_pos z] at e0
      exact give hav (KeepA.of_same (Same.refl H)) G (by rw [e0]) (by rw [e0]) hl rfl k
    refine ⟨_, rfl, _, rfl, _, _, rfl, rfl, _, rfl, if_b (fun z => iteT ⟨(by show 1 ≤ sizeLine; decide), fun l hl => bad (.inl (by have := of_decide_eq_true z; omega)) l hl⟩) fun z1 => ?_⟩
    refine ⟨_, rfl, _, rfl, _, _, rfl, rfl, _, _, rfl, rfl, _, rfl, if_b (fun z => ⟨(by show 1 ≤ sizeLine; decide), fun l hl => bad (.inr (by have := of_decide_eq_true z; omega)) l hl⟩) fun z2 => ?_⟩
    have y1 := of_decide_eq_false z1
    have y2 := of_decide_eq_false z2
    rw [if_neg (by omega)] at e0
    refine ⟨_, rfl, h, dx, _, rfl, h1, hF_no _ _ _ (by decide +kernel), _, rfl, _, rfl, _, rfl, h, sl, dl, rooms, es, c, r, u, t, rfl, HA, R.ok, by have := N.items; omega, fun H1 s1 => ?_⟩
    exact ⟨(by show 1 ≤ sizeLine; decide), fun l hl => give hav (KeepA.of_same s1) ⟨sl, dl, rooms, es, c, N.same s1, ID⟩ (by rw [e0]) (by rw [e0]) hl (by rw [usedE_sum]; rfl) k⟩
/-! ### tell -/
theorem if_ints {b : Bool} {σ : L2.St} {H : Hp} {Q : VK} (h : Q (.int (if b = true then 0 else 1)) H) : if b = true then tC (.int 0) σ H Q else tC (.int 1) σ H Q := by
  cases b <;> exact h
abbrev s_answer_tell : Stmt := top 45
theorem sc_answer_tell : FnScope ["house", "numbers", "booking", "plan", "booked", "when"] ["house", "numbers"] (defScope s_answer_tell) := ⟨rfl, rfl, rfl, by decide +kernel, rfl, by decide +kernel, by decide +kernel⟩
theorem ok_answer_tell (F : Fun K "answer_tell" "answer_tell" s_answer_tell f fd) (T : TxA mg) (TH : TxH K mg CH CB) (TP : TxP K mg CP) : FnOk P w K mg base CX0 1 f fd ["house", "numbers"] (spAns TT CH CB CP c12 1) := by
  refine F.ok sc_answer_tell (fun vs H Q E h => ?_) (fun cdv A outer s H vs Q E hr h => ?_)
  · obtain ⟨_, _, _, _, _, rfl, _⟩ := h
    rfl
  · obtain ⟨h, a, st, av, ns, rfl, G, ava, hav, ha, hn, k⟩ := h
    obtain ⟨n, rfl⟩ := len1 hn
    obtain ⟨sl, dl, rooms, es, c, N, ID⟩ := id G
    have HA := N.at_
    have R := N.rel
    have hu := hu_of hr
    obtain ⟨⟨dx, h1⟩, h2, h3, h4⟩ := id HA
    replace h3 : H dl = some (.dK (kvs es)) := h3
    refine ⟨_, (pss_cons (ps_set (i := 2) sc_answer_tell.nd rfl (Or.inl rfl) (pe_dget1 hu (pe_fld (pv 0) rfl) (pe_ix ix_list (pv 1) pe_int (fun _ _ => rfl)) ⟨rfl, rfl, rfl, rfl⟩))
      (pss_cons (ps_if (pt_cmpR op_isN (pv 2) pe_non (nomark _))
        (pss_one (ps_ret (pe_lst (pa_cons (pe_gi T.g_NOT_HELD) pa_nil))))
        pss_nil)
      (pss_cons (ps_set (i := 3) sc_answer_tell.nd rfl (Or.inl rfl) (pe_fld (pv 2) rfl))
      (pss_cons (ps_set (i := 4) sc_answer_tell.nd rfl (Or.inl rfl) (pe_ifExp (pt_val (pe_fld (pv 2) rfl)) pe_int pe_int))
      (pss_cons (ps_set (i := 5) sc_answer_tell.nd rfl (Or.inl rfl) (pe_lst (pa_cons (pe_fld (pv 3) rfl) (pa_cons (pe_fld (pv 3) rfl) (pa_cons (pe_fld (pv 3) rfl) (pa_cons (pe_fld (pv 3) rfl) pa_nil))))))
      (pss_one (ps_ret (pe_op op_cat (pe_op op_cat (pe_op op_cat (pe_lst (pa_cons (pv 4) (pa_cons (pe_fld (pv 2) rfl) (pa_cons (pe_fld (pv 2) rfl) pa_nil)))) (pv 5)) (pe_lst (pa_cons (pe_callB call_len_seq (by rfl) T.b_len PySem.boot_len (pa_cons (pe_fld (pv 3) rfl) pa_nil)) pa_nil))) (pe_fld (pv 3) rfl))))))))), ?_⟩
    refine ⟨_, rfl, h, CH, dx, _, _, rfl, h1, TH.clH, TH.nH, hF_held _ _ _, dl, rfl, .inl ⟨_, .inl h3⟩, _, rfl, a, _, _, _, rfl, rfl, SqL.of ha, rfl, _, DGet.k (k := Sum.inl (n : Int)) h3, ?_⟩
    rw [valV_kvs]
    cases q : es.find? (fun e => e.id == n) with
    | none =>
      have none : ∀ e ∈ es, e.id ≠ n := fun e he z => by simpa [z] using List.find?_eq_none.mp q e he
      have e0 : Cl05.step st (c12 [n]) = (st, [-4]) := R.tells_not none
      exact ⟨_, rfl, rfl, _, rfl, if_t rfl ⟨(by show 1 ≤ sizeLine; decide), fun l hl => give hav (KeepA.of_same (Same.refl H)) G (by rw [e0]) (by rw [e0]) hl rfl k⟩⟩
    | some e =>
      have he := List.mem_of_find?_eq_some q
      have hid : e.id = n := by simpa using List.find?_some q
      subst hid
      have e0 : Cl05.step st (c12 [e.id]) = _ := R.tells he
      obtain ⟨⟨dy, b1⟩, ⟨⟨dp, p1⟩, p2⟩⟩ := h4 e he
      have h5 := R.five e he
      refine ⟨_, rfl, rfl, _, rfl, if_f rfl ?_⟩
      refine ⟨_, rfl, e.ba, CB, dy, _, _, rfl, b1, TH.clB, TH.nBp, bF_plan e, ?_⟩
      refine ⟨_, rfl, e.ba, CB, dy, _, _, rfl, b1, TH.clB, TH.nBa, bF_waits e, _, rfl, if_ints ?_⟩
      have g0 : ∀ {b o}, H b = some o → H b = some o := fun e => e
      -- when
      refine ⟨_, rfl, e.pa, CP, dp, _, _, rfl, p1, TP.cl, TP.nF, pF_first _ _, _, rfl, e.pa, CP, dp, _, _, rfl, p1, TP.cl, TP.nL, pF_length _ _, _, rfl, e.pa, CP, dp, _, _, rfl, p1, TP.cl, TP.nD, pF_days _ _, _, rfl, e.pa, CP, dp, _, _, rfl, p1, TP.cl, TP.nT, pF_times _ _, (by show 4 ≤ sizeLine; decide), fun l0 n0 => ?_⟩
      have s0 := new_same (o := .lst [.int e.plan.from_, .int e.plan.long, .int e.plan.days, .int e.plan.times]) n0
      refine ⟨_, rfl, _, rfl, e.ba, CB, dy, _, _, rfl, s0 _ _ b1, TH.clB, TH.nBw, bF_whom e, _, rfl, e.ba, CB, dy, _, _, rfl, s0 _ _ b1, TH.clB, TH.nBr, bF_room e, (by show 3 ≤ sizeLine; decide), fun l1 n1 => ?_⟩
      have s1 := s0.trans (new_same (o := .lst [.int (if e.waits = true then 0 else 1), .int e.who, .int e.room]) n1)
      have n01 : l0 ≠ l1 := ne_of_none upd_same n1
      refine ⟨_, rfl, l1, l0, _, _, rfl, rfl, upd_same, (by rw [upd_ne n01]; exact upd_same), (by show 7 ≤ sizeLine; decide), fun l2 n2 => ?_⟩
      have s2 := s1.trans (new_same (o := .lst ([.int (if e.waits = true then 0 else 1), .int e.who, .int e.room] ++ [.int e.plan.from_, .int e.plan.long, .int e.plan.days, .int e.plan.times])) n2)
      refine ⟨_, rfl, e.pa, CP, dp, _, _, rfl, s2 _ _ p1, TP.cl, TP.nG, pF_gu _ _, e.ga, _, rfl, .inl (SqL.of (s2 _ _ p2)), (by show 1 ≤ sizeLine; decide), fun l3 n3 => ?_⟩
      have s3 := s2.trans (new_same (o := .lst [.int ((gV e.plan.skipped).length : Nat)]) n3)
      have n23 : l2 ≠ l3 := ne_of_none upd_same n3
      refine ⟨l2, l3, _, _, rfl, rfl, (by rw [upd_ne n23]; exact upd_same), upd_same, (by show 8 ≤ sizeLine; decide), fun l4 n4 => ?_⟩
      have s4 := s3.trans (new_same (o := .lst ([.int (if e.waits = true then 0 else 1), .int e.who, .int e.room] ++ [.int e.plan.from_, .int e.plan.long, .int e.plan.days, .int e.plan.times] ++ [.int ((gV e.plan.skipped).length : Nat)])) n4)
      have eg : (gV e.plan.skipped).length = e.plan.skipped.length := List.length_map _
      refine ⟨_, rfl, e.pa, CP, dp, _, _, rfl, s4 _ _ p1, TP.cl, TP.nG, pF_gu _ _, l4, e.ga, _, _, rfl, rfl, upd_same, s4 _ _ p2, Nat.le_of_lt (small1000 ?_), fun l hl => ?_⟩
      · show 8 + (gV e.plan.skipped).length ≤ 1000
        rw [eg]
        omega
      · refine give hav (KeepA.of_same s4) ⟨sl, dl, rooms, es, c, N.same s4, ID⟩ (by rw [e0]) (by rw [e0]) hl ?_ k
        rw [eg, gV_eq]
        unfold Cl05.nums
        cases e.waits <;> rfl
/-! ### queue -/
abbrev s_answer_queue : Stmt := top 46
theorem sc_answer_queue : FnScope ["house", "numbers", "waiting"] ["house", "numbers"] (defScope s_answer_queue) := ⟨rfl, rfl, rfl, by decide +kernel, rfl, by decide +kernel, by decide +kernel⟩
theorem ok_answer_queue (F : Fun K "answer_queue" "answer_queue" s_answer_queue f fd) (T : TxA mg) (D2 : DHouse2 P w K mg base CH CB CP) : FnOk P w K mg base CX0 2 f fd ["house", "numbers"] (spAns TT CH CB CP c13 0) := by
  have d_House_waiting := D2.waiting
  refine F.ok sc_answer_queue (fun vs H Q E h => ?_) (fun cdv A outer s H vs Q E hr h => ?_)
  · obtain ⟨_, _, _, _, _, rfl, _⟩ := h
    rfl
  · obtain ⟨h, a, st, av, ns, rfl, G, ava, hav, ha, hn, k⟩ := h
    obtain ⟨sl, dl, rooms, es, c, N, ID⟩ := id G
    have HA := N.at_
    have R := N.rel
    obtain ⟨dx, h1⟩ := HA.ob
    have e0 : Cl05.step st (c13 ns) = (st, Cl05.nums ((waitIds es).length :: waitIds es)) := R.queue
    refine ⟨_, (pss_cons (ps_set (i := 2) sc_answer_queue.nd rfl (Or.inl rfl) (md_of (pe_meth0 (pv 0) d_House_waiting.cl d_House_waiting.h d_House_waiting.F (hr.mono (by decide)) d_House_waiting.b .nil pass0)))
      (pss_one (ps_ret (pe_op op_cat (pe_lst (pa_cons (pe_callB call_len_seq (by rfl) T.b_len PySem.boot_len (pa_cons (pv 2) pa_nil)) pa_nil)) (pv 2))))), ?_⟩
    refine ⟨_, rfl, h, dx, _, rfl, h1, hF_no _ _ _ (by decide +kernel), h, sl, dl, rooms, es, c, rfl, HA, by have := N.items; omega, fun H1 l1 s1 hn1 e1 => ?_⟩
    replace e1 : H1 l1 = some (.lst (gV (waitIds es))) := e1
    have el : (gV (waitIds es)).length = (waitIds es).length := List.length_map _
    have hw : (waitIds es).length ≤ 24 := by
      have := List.length_filter_le (fun e : Ent => e.waits) es
      have := N.items
      unfold waitIds
      rw [List.length_map]
      omega
    refine ⟨_, rfl, l1, _, rfl, .inl (SqL.of e1), (by show 1 ≤ sizeLine; decide), fun l2 hl2 => ?_⟩
    have n12 : l1 ≠ l2 := ne_of_none e1 hl2
    have s2 := s1.trans (new_same (o := .lst [.int ((gV (waitIds es)).length : Nat)]) hl2)
    refine ⟨_, rfl, l2, l1, _, _, rfl, rfl, upd_same, (by rw [upd_ne n12]; exact e1), Nat.le_of_lt (small1000 ?_), fun l hl => ?_⟩
    · show 1 + (gV (waitIds es)).length ≤ 1000
      rw [el]
      omega
    · refine give hav (KeepA.of_same s2) ⟨sl, dl, rooms, es, c, N.same s2, ID⟩ (by rw [e0]) (by rw [e0]) hl ?_ k
      rw [el, gV_eq]
      rfl
end
end R
end

section
set_option maxRecDepth 100000
set_option maxHeartbeats 4000000
namespace R
open PySem PySem.Spec PyProof.Rows L2 LamX
/-! ### the room that any takes -/
def seatLe (rooms : List Nat) (a b : Nat) : Prop := rooms.getD a 0 < rooms.getD b 0 ∨ (rooms.getD a 0 = rooms.getD b 0 ∧ a ≤ b)
def pickR (rooms : List Nat) (m : Option Nat) (r : Nat) : Option Nat := match m with
  | none => some r
  | some q => if rooms.getD r 0 < rooms.getD q 0 then some r else some q
theorem pickR_some (rooms : List Nat) : ∀ (l : List Nat) (y : Nat), (y :: l).Pairwise (· < ·) → ∃ m, l.foldl (pickR rooms) (some y) = some m ∧ m ∈ y :: l ∧ ∀ x ∈ y :: l, seatLe rooms m x
  | [], y, _ => ⟨y, rfl, List.mem_cons_self, fun x hx => by rw [List.mem_singleton.mp hx]; exact .inr ⟨rfl, Nat.le_refl _⟩⟩
  | x :: l, y, h => by
    obtain ⟨h1, h2⟩ := List.pairwise_cons.mp h
    obtain ⟨h3, h4⟩ := List.pairwise_cons.mp h2
    have yx := h1 x List.mem_cons_self
    show ∃ m, l.foldl (pickR rooms) (if rooms.getD x 0 < rooms.getD y 0 then some x else some y) = some m ∧ _
    by_cases c : rooms.getD x 0 < rooms.getD y 0
    · rw [if_pos c]
      obtain ⟨m, e, hm, hl⟩ := pickR_some rooms l x h2
      refine ⟨m, e, List.mem_cons_of_mem _ hm, fun z hz => ?_⟩
      rcases List.mem_cons.mp hz with rfl | hz
      · have := hl x List.mem_cons_self
        unfold seatLe at this ⊢
        omega
      · exact hl z hz
    · rw [if_neg c]
      obtain ⟨m, e, hm, hl⟩ := pickR_some rooms l y (List.pairwise_cons.mpr ⟨fun z hz => h1 z (List.mem_cons_of_mem _ hz), h4⟩)
      have my := hl y List.mem_cons_self
      refine ⟨m, e, ?_, fun z hz => ?_⟩
      · rcases List.mem_cons.mp hm with rfl | hm
        · exact List.mem_cons_self
        · exact List.mem_cons_of_mem _ (List.mem_cons_of_mem _ hm)
      · rcases List.mem_cons.mp hz with rfl | hz
        · exact my
        · rcases List.mem_cons.mp hz with rfl | hz
          · unfold seatLe at my ⊢
            omega
          · exact hl z (List.mem_cons_of_mem _ hz)
section
variable {st : Cl05.State} {rooms : List Nat} {es : List Ent} {c n : Nat} {p : Cl05.Plan} {rs : List Nat}
def anyL (rooms : List Nat) (es : List Ent) (n : Nat) (p : Cl05.Plan) : List Nat := (List.range rooms.length).filter fun r => decide (n ≤ rooms.getD r 0) && fitsE es r p
theorem any_eq (R : Rel st rooms es c) : Cl05.anyRoom st n p = (anyL rooms es n p).foldl (pickR rooms) none := by
  have e1 : Cl05.anyRoom st n p = (((List.range st.rooms.length).filter fun r => decide (n ≤ st.rooms.getD r 0) && Cl05.fits st r p).foldl (pickR st.rooms) none) := rfl
  rw [e1, R.rooms]
  unfold anyL
  congr 1
  apply List.filter_congr
  intro r _
  rw [fits_iff R.book]
theorem mem_anyL {r : Nat} (o : Ordered rooms n rs) : r ∈ anyL rooms es n p ↔ r ∈ rs ∧ fitsE es r p = true := by
  unfold anyL
  rw [o.perm.mem_iff, List.mem_filter, List.mem_filter, Bool.and_eq_true]
  exact ⟨fun ⟨h1, h2, h3⟩ => ⟨⟨h1, h2⟩, h3⟩, fun ⟨⟨h1, h2⟩, h3⟩ => ⟨h1, h2, h3⟩⟩
theorem any_none (R : Rel st rooms es c) (o : Ordered rooms n rs) (h : ∀ r ∈ rs, fitsE es r p = false) : Cl05.anyRoom st n p = none := by
  rw [any_eq R]
  have : anyL rooms es n p = [] := by
    cases q : anyL rooms es n p with
    | nil => rfl
    | cons r l =>
      have hr : r ∈ anyL rooms es n p := by rw [q]; exact List.mem_cons_self
      obtain ⟨h1, h2⟩ := (mem_anyL o).mp hr
      rw [h r h1] at h2
      cases h2
  rw [this]
  rfl
theorem any_some (R : Rel st rooms es c) (o : Ordered rooms n rs) {i r : Nat} (hi : rs[i]? = some r) (hf : fitsE es r p = true) (hn : ∀ j r', j < i → rs[j]? = some r' → fitsE es r' p = false) : Cl05.anyRoom st n p = some r := by
  rw [any_eq R]
  have hr : r ∈ anyL rooms es n p := (mem_anyL o).mpr ⟨List.mem_of_getElem? hi, hf⟩
  have srt : (anyL rooms es n p).Pairwise (· < ·) := List.pairwise_lt_range.filter _
  cases q : anyL rooms es n p with
  | nil => rw [q] at hr; cases hr
  | cons y l =>
    rw [q] at srt hr
    obtain ⟨m, e, hm, hl⟩ := pickR_some rooms l y srt
    show l.foldl (pickR rooms) (some y) = some r
    rw [e]
    have a1 := hl r hr
    have hm2 : m ∈ anyL rooms es n p := by rw [q]; exact hm
    obtain ⟨m1, m2⟩ := (mem_anyL o).mp hm2
    obtain ⟨j, hj, ej⟩ := List.mem_iff_getElem.mp m1
    have hil := (List.getElem?_eq_some_iff.mp hi).1
    have er := (List.getElem?_eq_some_iff.mp hi).2
    have a2 : seatLe rooms r m := by
      rcases Nat.lt_trichotomy j i with z | z | z
      · have := hn j m z (by rw [List.getElem?_eq_getElem hj, ej])
        rw [m2] at this
        cases this
      · subst z
        rw [ej] at er
        subst er
        exact .inr ⟨rfl, Nat.le_refl _⟩
      · have := List.pairwise_iff_getElem.mp o.ord i j hil hj z
        rw [er, ej] at this
        exact this
    congr 1
    unfold seatLe at a1 a2
    omega
end
section
variable {TT : List (Addr × Str)} {CH CB CP h sl dl : Addr} {H H' : Hp} {s : Cl05.State} {av : Addr → Prop} {rooms : List Nat} {es : List Ent} {c : Nat}
theorem PlanAt.extN {C a g : Addr} {p : Cl05.Plan} (P : PlanAt C H a g p) (e : ExtN H H') : PlanAt C H' a g p := by
  obtain ⟨⟨dx, h1⟩, h2⟩ := P
  exact ⟨⟨dx, e _ _ h1 (fun _ z => by cases z)⟩, e _ _ h2 (fun _ z => by cases z)⟩
theorem H9.extN (N : H9 TT CH CB CP H h s av sl dl rooms es c) (e : ExtN H H') (t : Tabs TT H') : H9 TT CH CB CP H' h s av sl dl rooms es c := by
  obtain ⟨⟨dx, h1⟩, h2, h3, h4⟩ := id N.at_
  refine ⟨⟨⟨dx, e _ _ h1 (fun _ z => by cases z)⟩, e _ _ h2 (fun _ z => by cases z), e _ _ h3 (fun _ z => by cases z), fun x hx => ?_⟩, N.rel, N.few, N.items, N.nga, N.npa, t, N.avoid⟩
  obtain ⟨⟨d1, q1⟩, q2⟩ := h4 x hx
  exact ⟨⟨d1, e _ _ q1 (fun _ z => by cases z)⟩, q2.extN e⟩
end
section
variable {P : Program} {w : World} {K : PySem.W.Frag} {mg : Str → Option Value} {base : Heap} {CH CB CP f : Addr} {fd : FuncData} {TT : List (Addr × Str)}
abbrev s_answer_any : Stmt := top 35
theorem sc_answer_any : FnScope ["house", "numbers", "whom", "seats", "plan", "room"] ["house", "numbers"] (defScope s_answer_any) := ⟨rfl, rfl, rfl, by decide +kernel, rfl, by decide +kernel, by decide +kernel⟩
theorem ok_answer_any (F : Fun K "answer_any" "answer_any" s_answer_any f fd) (T : TxA mg) (D : DHouse P w K mg base CH CB CP) (d_House_rooms_with : DM P w K mg base CH "rooms_with" 4 ["self", "seats"] (spRooms TT CH CB CP)) (d_plan_of : DF P w K mg base "plan_of" 3 ["when"] (spPlanOf K CP)) :
    FnOk P w K mg base CX0 6 f fd ["house", "numbers"] (spAns TT CH CB CP c3 6) := by
  have d_House_is_full := D.is_full
  have d_House_fits := D.fits
  have d_House_hold := D.hold
  refine F.ok sc_answer_any (fun vs H Q E h => ?_) (fun cdv A outer s H vs Q E hr h => ?_)
  · obtain ⟨_, _, _, _, _, rfl, _⟩ := h
    rfl
  · obtain ⟨h, a, st, av, ns, rfl, G, ava, hav, ha, hn, k⟩ := h
    obtain ⟨wh, se, fi, le, da, ti, rfl⟩ := len6 hn
    obtain ⟨sl, dl, rooms, es, c, N, ID⟩ := id G
    have HA := N.at_
    have R := N.rel
    have e0 : Cl05.step st (c3 [wh, se, fi, le, da, ti]) = (if 99 < wh ∨ (se = 0 ∨ Cl05.isPlan fi le da ti = false) then (st, [-1]) else if Cl05.full st = true then (st, [-5]) else match Cl05.anyRoom st se (Cl05.plan fi le da ti) with
        | none => (st, [-7])
        | some r => (Cl05.put st ⟨st.next, wh, r, Cl05.plan fi le da ti⟩, Cl05.nums [r, st.next])) := rfl
    refine ⟨_, (pss_cons (ps_set (i := 2) sc_answer_any.nd rfl (Or.inl rfl) (pe_ix ix_list (pv 1) pe_int (fun _ _ => rfl)))
      (pss_cons (ps_set (i := 3) sc_answer_any.nd rfl (Or.inl rfl) (pe_ix ix_list (pv 1) pe_int (fun _ _ => rfl)))
      (pss_cons (ps_set (i := 4) sc_answer_any.nd rfl (Or.inl rfl) (cd_of (pe_call d_plan_of.F (hr.mono (by decide)) (by rfl) d_plan_of.g d_plan_of.kp d_plan_of.b .nil pass0 (pa_cons (pe_slice sl_list (pv 1) (po_some pe_int) po_none) pa_nil))))
      (pss_cons (ps_if (PW.pt (pw_or (pt_cmpR op_gt (pv 2) (pe_gi T.g_MOST_WHOM) (nomark _)) (pw_or (pt_cmpR op_eq (pv 3) pe_int (nomark _)) (pw_or1 (pt_cmpR op_isN (pv 4) pe_non (nomark _))))))
        (pss_one (ps_ret (pe_lst (pa_cons (pe_gi T.g_NOT_AS_TOLD) pa_nil))))
        pss_nil)
      (pss_cons (ps_if (pt_val (md_of (pe_meth0 (pv 0) d_House_is_full.cl d_House_is_full.h d_House_is_full.F (hr.mono (by decide)) d_House_is_full.b .nil pass0)))
        (pss_one (ps_ret (pe_lst (pa_cons (pe_gi T.g_TOO_MANY) pa_nil))))
        pss_nil)
      (pss_cons (ps_for PassesOwn.never rfl (pi_list (md_of (pe_meth (pv 0) d_House_rooms_with.cl d_House_rooms_with.h d_House_rooms_with.F (hr.mono (by decide)) d_House_rooms_with.b .nil pass0 (pa_cons (pv 3) pa_nil)))) (pg_name (i := 5) sc_answer_any.nd rfl (Or.inl rfl))
        (pss_one (ps_if (pt_val (md_of (pe_meth (pv 0) d_House_fits.cl d_House_fits.h d_House_fits.F (hr.mono (by decide)) d_House_fits.b .nil pass0 (pa_cons (pv 5) (pa_cons (pv 4) pa_nil)))))
          (pss_one (ps_ret (pe_lst (pa_cons (pv 5) (pa_cons (md_of (pe_meth (pv 0) d_House_hold.cl d_House_hold.h d_House_hold.F (hr.mono (by decide)) d_House_hold.b .nil pass0 (pa_cons (pv 2) (pa_cons (pv 5) (pa_cons (pv 4) (pa_cons pe_bl pa_nil)))))) pa_nil)))))
          pss_nil)))
      (pss_one (ps_ret (pe_lst (pa_cons (pe_gi T.g_NO_FIT) pa_nil)))))))))), ?_⟩
    refine ⟨_, rfl, a, _, _, _, rfl, rfl, SqL.of ha, rfl, ?_⟩
    refine ⟨_, rfl, a, _, _, _, rfl, rfl, SqL.of ha, rfl, ?_⟩
    refine ⟨_, rfl, _, rfl, a, _, rfl, SqL.of ha, fun p hp => ?_⟩
    have s1 : Same H (upd H p (.lst (cutV (gV [wh, se, fi, le, da, ti]) (some 2) none))) := new_same hp
    have ep : cutV (gV [wh, se, fi, le, da, ti]) (some 2) none = [.int fi, .int le, .int da, .int ti] := rfl
    have N1 := N.same s1
    have seat0 : decide (V.int (se : Int) = V.int 0) = decide (se = 0) := by
      have := eqInt (a := se) (b := 0)
      exact this
    refine ⟨p, fi, le, da, ti, rfl, (by rw [ep] at *; exact SqL.of upd_same), fun hno => ?_, fun hyes b g H2 hb hg PA s2 => ?_⟩
    · rw [if_pos (.inr (.inr hno))] at e0
      have fin : ∀ l, upd H p (.lst (cutV (gV [wh, se, fi, le, da, ti]) (some 2) none)) l = none → Q (.ref l) (upd (upd H p (.lst (cutV (gV [wh, se, fi, le, da, ti]) (some 2) none))) l (.lst [.int (-1)])) := fun l hl =>
        give hav (KeepA.of_same s1) ⟨sl, dl, rooms, es, c, N1, ID⟩ (by rw [e0]) (by rw [e0]) hl rfl k
      refine ⟨_, rfl, _, _, rfl, rfl, _, rfl, if_b (fun _ => iteT ⟨(by show 1 ≤ sizeLine; decide), fin⟩) fun _ => ⟨_, rfl, rfl, _, rfl, if_b (fun _ => iteT ⟨(by show 1 ≤ sizeLine; decide), fin⟩) fun _ => ⟨_, rfl, rfl, _, rfl, if_t rfl ⟨(by show 1 ≤ sizeLine; decide), fin⟩⟩⟩⟩
    · have s12 : Same H H2 := s1.trans s2
      have N2 := N.same s12
      have G2 : Good TT CH CB CP H2 h st av := ⟨sl, dl, rooms, es, c, N2, ID⟩
      have hb0 : H b = none := s1.free hb
      have hg0 : H g = none := s1.free hg
      have op := okP_of hyes
      obtain ⟨dx2, h2'⟩ := N2.at_.ob
      have bad : (99 < wh ∨ (se = 0 ∨ Cl05.isPlan fi le da ti = false)) → ∀ l, H2 l = none → Q (.ref l) (upd H2 l (.lst [.int (-1)])) := fun z l hl => by
        rw [if_pos z] at e0
        exact give hav (KeepA.of_same s12) G2 (by rw [e0]) (by rw [e0]) hl rfl k
      refine ⟨_, rfl, _, _, rfl, rfl, _, rfl, if_b (fun z => iteT ⟨(by show 1 ≤ sizeLine; decide), fun l hl => bad (.inl (by have := of_decide_eq_true z; omega)) l hl⟩) fun z1 => ?_⟩
      refine ⟨_, rfl, rfl, _, rfl, ?_⟩
      rw [seat0]
      refine if_b (fun z => iteT ⟨(by show 1 ≤ sizeLine; decide), fun l hl => bad (.inr (.inl (of_decide_eq_true z))) l hl⟩) fun z2 => ?_
      refine ⟨_, rfl, rfl, _, rfl, if_f rfl ?_⟩
      rw [if_neg (fun q => q.elim (fun q => by have := of_decide_eq_false z1; omega) (fun q => q.elim (fun q => of_decide_eq_false z2 q) (fun q => by rw [hyes] at q; cases q)))] at e0
      refine ⟨_, rfl, h, dx2, _, rfl, h2', hF_no _ _ _ (by decide +kernel), h, sl, dl, rooms, es, c, rfl, N2.at_, _, rfl, if_b (fun z => ?_) fun zf => ?_⟩
      · rw [if_pos (by rw [R.full]; exact z)] at e0
        exact ⟨(by show 1 ≤ sizeLine; decide), fun l hl => give hav (KeepA.of_same s12) G2 (by rw [e0]) (by rw [e0]) hl rfl k⟩
      rw [if_neg (by rw [R.full, zf]; simp)] at e0
      have hl24 : es.length < 24 := by have := of_decide_eq_false zf; omega
      -- for room in house.rooms_with(seats)
      refine ⟨_, rfl, h, dx2, _, rfl, h2', hF_no _ _ _ (by decide +kernel), _, rfl, h, sl, dl, rooms, es, c, se, rfl, N2.at_, by have := N.few; omega, N2.tabs, fun H3 rl rs x3 t3 hrl ord => ?_⟩
      have N3 := N2.extN x3 t3
      have PA3 := PA.extN x3
      have hav2 := hav.keep (KeepA.of_same s12)
      have k3 : KeepA H H3 av := (KeepA.of_same s12).trans (KeepA.of_ext hav2 x3)
      refine ⟨rl, rfl, ⟨_, SqL.of hrl⟩, for_list (K := K) (a := rl) (xs := gV rs) (fun i σ H' => Same H3 H' ∧ ∃ v, σ = [some (.ref h), some (.ref a), some (.int wh), some (.int se), some (.ref b), v] ∧ ∀ j r', j < i → rs[j]? = some r' → fitsE es r' (Cl05.plan fi le da ti) = false)
        ⟨Same.refl H3, none, rfl, fun j _ z => absurd z (Nat.not_lt_zero _)⟩ (fun i σ H' _ q => SqL.of (q.1 _ _ hrl)) ?_ ?_⟩
      · rintro i x σ H' hi ⟨s4, v, rfl, hnf⟩
        obtain ⟨r, hri, rfl⟩ : ∃ r : Nat, rs[i]? = some r ∧ x = V.int r := by
          unfold gV at hi
          rw [List.getElem?_map] at hi
          cases q : rs[i]? with
          | none => rw [q] at hi; cases hi
          | some r => rw [q] at hi; cases hi; exact ⟨r, rfl, rfl⟩
        have N4 := N3.same s4
        obtain ⟨dx4, h4'⟩ := N4.at_.ob
        refine ⟨_, rfl, h, dx4, _, rfl, h4', hF_no _ _ _ (by decide +kernel), _, rfl, _, rfl, id, h, sl, dl, b, g, rooms, es, c, r, _, rfl, rfl, N4.at_, PA3.same s4, op, R.ok, by omega, fun H5 s5 => ?_⟩
        refine ⟨_, rfl, if_b (fun hfit => ?_) fun hfit => ?_⟩
        · have N5 := N4.same s5
          obtain ⟨dx5, h5'⟩ := N5.at_.ob
          rw [any_some R ord hri hfit hnf] at e0
          have k5 : KeepA H H5 av := k3.trans (KeepA.of_same (s4.trans s5))
          have b5 : ∀ z, H z = none → z = b ∨ z = g → True := fun _ _ _ => trivial
          refine ⟨_, rfl, _, rfl, h, dx5, _, rfl, h5', hF_no _ _ _ (by decide +kernel), _, rfl, _, rfl, _, rfl, h, sl, dl, b, g, rooms, es, c, wh, r, _, false, rfl, N5.at_, (PA3.same s4).same s5, R.lt, by omega, fun H6 ba hba A6 kp6 => ?_⟩
          have R6 : Rel (Cl05.put st ⟨st.next, wh, r, Cl05.plan fi le da ti⟩) rooms (es ++ [⟨c, wh, r, Cl05.plan fi le da ti, false, ba, b, g⟩]) (c + 1) := by
            have := R.put (e := ⟨c, wh, r, Cl05.plan fi le da ti, false, ba, b, g⟩) rfl rfl op (Nat.zero_le _) hfit
            rw [R.next]
            exact this
          have N6 := N5.hold' (e := ⟨c, wh, r, Cl05.plan fi le da ti, false, ba, b, g⟩) k5 hav N.at_ hba hb0 hg0 A6 kp6 R6 hl24
          refine ⟨(by show 2 ≤ sizeLine; decide), fun l hl => give hav (k5.trans (N5.hold_keep kp6)) ⟨sl, dl, rooms, _, _, N6, ID.snoc (fun z => by cases z)⟩ (by rw [e0]) (by rw [e0]) hl (by rw [R.next]; rfl) k⟩
        · refine ⟨s4.trans s5, _, rfl, fun j r' hj hr' => ?_⟩
          by_cases z : j = i
          · subst z
            rw [hri] at hr'
            cases hr'
            exact hfit
          · exact hnf j r' (by omega) hr'
      · rintro σ H' ⟨s4, v, rfl, hnf⟩
        have : Cl05.anyRoom st se (Cl05.plan fi le da ti) = none := any_none R ord fun r hr' => by
          obtain ⟨j, hj, ej⟩ := List.mem_iff_getElem.mp hr'
          refine hnf j r ?_ (by rw [List.getElem?_eq_getElem hj, ej])
          show j < (gV rs).length
          unfold gV
          rw [List.length_map]
          exact hj
        rw [this] at e0
        exact ⟨(by show 1 ≤ sizeLine; decide), fun l hl => give hav (k3.trans (KeepA.of_same s4)) ⟨sl, dl, rooms, es, c, N3.same s4, ID⟩ (by rw [e0]) (by rw [e0]) hl rfl k⟩
end
end R
end

section
set_option maxRecDepth 100000
set_option maxHeartbeats 4000000
namespace R
open PySem PySem.Spec PyProof.Rows L2 LamX
section
variable {P : Program} {w : World} {K : PySem.W.Frag} {mg : Str → Option Value} {base : Heap} {CH CB CP f : Addr} {fd : FuncData} {TT : List (Addr × Str)}
abbrev s_answer_wait : Stmt := top 36
theorem sc_answer_wait : FnScope ["house", "numbers", "answer", "plan"] ["house", "numbers"] (defScope s_answer_wait) := ⟨rfl, rfl, rfl, by decide +kernel, rfl, by decide +kernel, by decide +kernel⟩
theorem ok_answer_wait (F : Fun K "answer_wait" "answer_wait" s_answer_wait f fd) (T : TxA mg) (D : DHouse P w K mg base CH CB CP) (d_answer_book : DF P w K mg base "answer_book" 6 ["house", "numbers"] (spAns TT CH CB CP c1 6)) (d_plan_of : DF P w K mg base "plan_of" 3 ["when"] (spPlanOf K CP)) :
    FnOk P w K mg base CX0 7 f fd ["house", "numbers"] (spAns TT CH CB CP c4 6) := by
  have d_House_hold := D.hold
  refine F.ok sc_answer_wait (fun vs H Q E h => ?_) (fun cdv A outer s H vs Q E hr h => ?_)
  · obtain ⟨_, _, _, _, _, rfl, _⟩ := h
    rfl
  · obtain ⟨h, a, st, av, ns, rfl, G, ava, hav, ha, hn, k⟩ := h
    obtain ⟨wh, r, fi, le, da, ti, rfl⟩ := len6 hn
    have eB : Cl05.step st (c1 [wh, r, fi, le, da, ti]) = (if st.rooms.length ≤ r then (st, [-3]) else if 99 < wh ∨ Cl05.isPlan fi le da ti = false then (st, [-1]) else
        if Cl05.full st = true then (st, [-5]) else if Cl05.fits st r (Cl05.plan fi le da ti) = false then (st, [-7]) else (Cl05.put st ⟨st.next, wh, r, Cl05.plan fi le da ti⟩, [(st.next : Int)])) := rfl
    have e0 : Cl05.step st (c4 [wh, r, fi, le, da, ti]) = (if st.rooms.length ≤ r then (st, [-3]) else if 99 < wh ∨ Cl05.isPlan fi le da ti = false then (st, [-1]) else
        if Cl05.full st = true then (st, [-5]) else if Cl05.fits st r (Cl05.plan fi le da ti) = true then (Cl05.put st ⟨st.next, wh, r, Cl05.plan fi le da ti⟩, Cl05.nums [st.next, 1])
          else ({ st with waiting := st.waiting ++ [⟨st.next, wh, r, Cl05.plan fi le da ti⟩], next := st.next + 1 }, Cl05.nums [st.next, 0])) := rfl
    refine ⟨_, (pss_cons (ps_set (i := 2) sc_answer_wait.nd rfl (Or.inl rfl) (cd_of (pe_call d_answer_book.F (hr.mono (by decide)) (by rfl) d_answer_book.g d_answer_book.kp d_answer_book.b .nil pass0 (pa_cons (pv 0) (pa_cons (pv 1) pa_nil)))))
      (pss_cons (ps_if (pt_cmpR (op_eqD hr.units) (pv 2) (pe_lst (pa_cons (pe_gi T.g_NO_FIT) pa_nil)) (nomark _))
        (pss_cons (ps_set (i := 3) sc_answer_wait.nd rfl (Or.inl rfl) (cd_of (pe_call d_plan_of.F (hr.mono (by decide)) (by rfl) d_plan_of.g d_plan_of.kp d_plan_of.b .nil pass0 (pa_cons (pe_slice sl_list (pv 1) (po_some pe_int) po_none) pa_nil))))
        (pss_one (ps_ret (pe_lst (pa_cons (md_of (pe_meth (pv 0) d_House_hold.cl d_House_hold.h d_House_hold.F (hr.mono (by decide)) d_House_hold.b .nil pass0 (pa_cons (pe_ix ix_list (pv 1) pe_int (fun _ _ => rfl)) (pa_cons (pe_ix ix_list (pv 1) pe_int (fun _ _ => rfl)) (pa_cons (pv 3) (pa_cons pe_bl pa_nil)))))) (pa_cons pe_int pa_nil))))))
        pss_nil)
      (pss_cons (ps_if (pt_cmpR op_lt (pe_ix ix_list (pv 2) pe_int (fun _ _ => rfl)) pe_int (nomark _))
        (pss_one (ps_ret (pv 2)))
        pss_nil)
      (pss_one (ps_ret (pe_op op_cat (pv 2) (pe_lst (pa_cons pe_int pa_nil)))))))), ?_⟩
    refine ⟨_, rfl, _, rfl, h, a, st, av, _, rfl, G, ava, hav, ha, hn, fun H1 l1 G1 k1 e1 nl1 => ?_⟩
    -- a refusal of book but -7 is one of wait
    have refuse : ∀ z : Int, z < 0 → z ≠ -7 → Cl05.step st (c1 [wh, r, fi, le, da, ti]) = (st, [z]) → Cl05.step st (c4 [wh, r, fi, le, da, ti]) = (st, [z]) → ∀ (l2 : Addr), H1 l2 = none →
        PyData.eqv (.list [.int z]) (.list [.int (-7)]) = false ∧ Good TT CH CB CP (upd H1 l2 (.lst [.int (-7)])) h (Cl05.step st (c4 [wh, r, fi, le, da, ti])).1 av ∧ (upd H1 l2 (.lst [.int (-7)])) l1 = some (.lst [.int z]) ∧ KeepA H (upd H1 l2 (.lst [.int (-7)])) av := fun z hz h7 b1 b4 l2 hl2 => by
      rw [b1] at G1 e1
      obtain ⟨sl, dl, rooms, es, c, N1, ID⟩ := G1
      refine ⟨?_, ?_, ?_, k1.trans (KeepA.of_same (new_same hl2))⟩
      · show (z == -7 && true) = false
        rw [Bool.and_true]
        simpa using h7
      · rw [b4]
        exact ⟨sl, dl, rooms, es, c, N1.same (new_same hl2), ID⟩
      · rw [upd_ne (ne_of_none e1 hl2)]
        exact e1
    by_cases q1 : st.rooms.length ≤ r
    · rw [if_pos q1] at eB e0
      refine ⟨_, rfl, (by show 1 ≤ sizeLine; decide), fun l2 hl2 => ?_⟩
      obtain ⟨v1, g1, l1', k1'⟩ := refuse (-3) (by decide) (by decide) eB e0 l2 hl2
      refine ⟨_, _, .lst (SqL.of l1') (.cons (.int _) .nil), .lst (SqL.of upd_same) (.cons (.int _) .nil), rfl, rfl, _, rfl, if_f v1 ?_⟩
      exact ⟨_, rfl, l1, _, _, _, rfl, rfl, SqL.of l1', rfl, _, _, rfl, rfl, _, rfl, if_t rfl ⟨_, rfl, k _ l1 g1 k1' (by rw [e0]; exact l1') nl1⟩⟩
    rw [if_neg q1] at eB e0
    by_cases q2 : 99 < wh ∨ Cl05.isPlan fi le da ti = false
    · rw [if_pos q2] at eB e0
      refine ⟨_, rfl, (by show 1 ≤ sizeLine; decide), fun l2 hl2 => ?_⟩
      obtain ⟨v1, g1, l1', k1'⟩ := refuse (-1) (by decide) (by decide) eB e0 l2 hl2
      refine ⟨_, _, .lst (SqL.of l1') (.cons (.int _) .nil), .lst (SqL.of upd_same) (.cons (.int _) .nil), rfl, rfl, _, rfl, if_f v1 ?_⟩
      exact ⟨_, rfl, l1, _, _, _, rfl, rfl, SqL.of l1', rfl, _, _, rfl, rfl, _, rfl, if_t rfl ⟨_, rfl, k _ l1 g1 k1' (by rw [e0]; exact l1') nl1⟩⟩
    rw [if_neg q2] at eB e0
    by_cases q3 : Cl05.full st = true
    · rw [if_pos q3] at eB e0
      refine ⟨_, rfl, (by show 1 ≤ sizeLine; decide), fun l2 hl2 => ?_⟩
      obtain ⟨v1, g1, l1', k1'⟩ := refuse (-5) (by decide) (by decide) eB e0 l2 hl2
      refine ⟨_, _, .lst (SqL.of l1') (.cons (.int _) .nil), .lst (SqL.of upd_same) (.cons (.int _) .nil), rfl, rfl, _, rfl, if_f v1 ?_⟩
      exact ⟨_, rfl, l1, _, _, _, rfl, rfl, SqL.of l1', rfl, _, _, rfl, rfl, _, rfl, if_t rfl ⟨_, rfl, k _ l1 g1 k1' (by rw [e0]; exact l1') nl1⟩⟩
    rw [if_neg q3] at eB e0
    have hav1 := hav.keep k1
    cases q4 : Cl05.fits st r (Cl05.plan fi le da ti) with
    | true =>
      rw [if_neg (by rw [q4]; simp)] at eB
      rw [if_pos q4] at e0
      rw [eB] at G1 e1
      refine ⟨_, rfl, (by show 1 ≤ sizeLine; decide), fun l2 hl2 => ?_⟩
      have n12 : l1 ≠ l2 := ne_of_none e1 hl2
      have e1' : (upd H1 l2 (.lst [.int (-7)])) l1 = some (.lst [.int (st.next : Int)]) := by rw [upd_ne n12]; exact e1
      have v1 : PyData.eqv (.list [.int (st.next : Int)]) (.list [.int (-7)]) = false := by
        show ((st.next : Int) == -7 && true) = false
        rw [Bool.and_true, beq_eq_false_iff_ne]
        omega
      refine ⟨_, _, .lst (SqL.of e1') (.cons (.int _) .nil), .lst (SqL.of upd_same) (.cons (.int _) .nil), rfl, rfl, _, rfl, if_f v1 ?_⟩
      refine ⟨_, rfl, l1, _, _, _, rfl, rfl, SqL.of e1', rfl, _, _, rfl, rfl, _, rfl, if_f (decide_eq_false (by omega)) ?_⟩
      refine ⟨_, rfl, (by show 1 ≤ sizeLine; decide), fun l3 hl3 => ?_⟩
      have n13 : l1 ≠ l3 := ne_of_none e1' hl3
      refine ⟨l1, l3, _, _, rfl, rfl, (by rw [upd_ne n13]; exact e1'), upd_same, (by show 2 ≤ sizeLine; decide), fun l4 hl4 => ?_⟩
      have sm : Same H1 (upd (upd H1 l2 (.lst [.int (-7)])) l3 (.lst [.int 1])) := (new_same hl2).trans (new_same hl3)
      obtain ⟨sl, dl, rooms, es, c, N1, ID⟩ := G1
      exact give hav (k1.trans (KeepA.of_same sm)) ⟨sl, dl, rooms, es, c, N1.same sm, ID⟩ (by rw [e0]) (by rw [e0]) hl4 rfl k
    | false =>
      rw [if_pos q4] at eB
      rw [if_neg (by rw [q4]; simp)] at e0
      rw [eB] at G1 e1
      have hyes : Cl05.isPlan fi le da ti = true := by
        cases z : Cl05.isPlan fi le da ti with
        | true => rfl
        | false => exact absurd (.inr z) q2
      have op := okP_of hyes
      refine ⟨_, rfl, (by show 1 ≤ sizeLine; decide), fun l2 hl2 => ?_⟩
      have n12 : l1 ≠ l2 := ne_of_none e1 hl2
      have e1' : (upd H1 l2 (.lst [.int (-7)])) l1 = some (.lst [.int (-7)]) := by rw [upd_ne n12]; exact e1
      refine ⟨_, _, .lst (SqL.of e1') (.cons (.int _) .nil), .lst (SqL.of upd_same) (.cons (.int _) .nil), rfl, rfl, _, rfl, if_t rfl ?_⟩
      obtain ⟨sl, dl, rooms, es, c, N1, ID⟩ := G1
      have R := N1.rel
      have ha1 : H1 a = some (.lst (gV [wh, r, fi, le, da, ti])) := k1 a _ ava ha
      have s2 : Same H1 (upd H1 l2 (.lst [.int (-7)])) := new_same hl2
      refine ⟨_, rfl, _, rfl, a, _, rfl, SqL.of (s2 _ _ ha1), fun p hp => ?_⟩
      have s3 : Same H1 (upd (upd H1 l2 (.lst [.int (-7)])) p (.lst (cutV (gV [wh, r, fi, le, da, ti]) (some 2) none))) := s2.trans (new_same hp)
      have ep : cutV (gV [wh, r, fi, le, da, ti]) (some 2) none = [.int fi, .int le, .int da, .int ti] := rfl
      refine ⟨p, fi, le, da, ti, rfl, (by rw [ep] at *; exact SqL.of upd_same), fun z => (by rw [hyes] at z; cases z), fun _ b g H3 hb hg PA s4 => ?_⟩
      have s14 : Same H1 H3 := s3.trans s4
      have N3 := N1.same s14
      obtain ⟨dx3, h3'⟩ := N3.at_.ob
      have hb0 : H1 b = none := s3.free hb
      have hg0 : H1 g = none := s3.free hg
      have hfit : fitsE es r (Cl05.plan fi le da ti) = false := by rw [← fits_iff R.book]; exact q4
      have hl24 : es.length < 24 := by
        have := R.full
        rw [this] at q3
        have := of_decide_eq_false (by simpa using q3 : decide (24 ≤ es.length) = false)
        omega
      have ha3 := s14 _ _ ha1
      refine ⟨_, rfl, h, dx3, _, rfl, h3', hF_no _ _ _ (by decide +kernel), _, rfl, a, _, _, _, rfl, rfl, SqL.of ha3, rfl, _, rfl, a, _, _, _, rfl, rfl, SqL.of ha3, rfl, _, rfl, h, sl, dl, b, g, rooms, es, c, wh, r, _, true, rfl, N3.at_, PA, R.lt, by omega, fun H4 ba hba A4 kp4 => ?_⟩
      have R4 : Rel { st with waiting := st.waiting ++ [⟨st.next, wh, r, Cl05.plan fi le da ti⟩], next := st.next + 1 } rooms (es ++ [⟨c, wh, r, Cl05.plan fi le da ti, true, ba, b, g⟩]) (c + 1) := by
        have := R.waiting (e := ⟨c, wh, r, Cl05.plan fi le da ti, true, ba, b, g⟩) rfl rfl op (Nat.zero_le _)
        rw [R.next] at this ⊢
        exact this
      have N4 := N3.hold (e := ⟨c, wh, r, Cl05.plan fi le da ti, true, ba, b, g⟩) s14 hav1 N1.at_ hba hb0 hg0 A4 kp4 R4 hl24
      have ID4 : Idle (es ++ [⟨c, wh, r, Cl05.plan fi le da ti, true, ba, b, g⟩]) := ID.snoc fun _ => fitsE_mono (fun y hy hyw => ⟨y, List.mem_append_left _ hy, hyw, rfl, rfl⟩) hfit
      refine ⟨(by show 2 ≤ sizeLine; decide), fun l hl => give hav ((k1.trans (KeepA.of_same s14)).trans (N3.hold_keep kp4)) ⟨sl, dl, rooms, _, _, N4, ID4⟩ (by rw [e0]) (by rw [e0]) hl (by rw [R.next]; rfl) k⟩
end
end R
end

section

namespace RP
/-! ### how a list of calls is read -/
/-- each call: how many numbers it has, what it is -/
def tab : List (Nat × (List Nat → Cl05.Call)) := [
  (1, fun ns => .room (ns.getD 0 0)),
  (6, fun ns => .book (ns.getD 0 0) (ns.getD 1 0) (ns.getD 2 0) (ns.getD 3 0) (ns.getD 4 0) (ns.getD 5 0)),
  (5, fun ns => .would (ns.getD 0 0) (ns.getD 1 0) (ns.getD 2 0) (ns.getD 3 0) (ns.getD 4 0)),
  (6, fun ns => .any (ns.getD 0 0) (ns.getD 1 0) (ns.getD 2 0) (ns.getD 3 0) (ns.getD 4 0) (ns.getD 5 0)),
  (6, fun ns => .wait (ns.getD 0 0) (ns.getD 1 0) (ns.getD 2 0) (ns.getD 3 0) (ns.getD 4 0) (ns.getD 5 0)),
  (1, fun ns => .end_ (ns.getD 0 0)),
  (2, fun ns => .skip (ns.getD 0 0) (ns.getD 1 0)),
  (2, fun ns => .cut (ns.getD 0 0) (ns.getD 1 0)),
  (2, fun ns => .at_ (ns.getD 0 0) (ns.getD 1 0)),
  (2, fun ns => .next (ns.getD 0 0) (ns.getD 1 0)),
  (2, fun ns => .free (ns.getD 0 0) (ns.getD 1 0)),
  (3, fun ns => .used (ns.getD 0 0) (ns.getD 1 0) (ns.getD 2 0)),
  (1, fun ns => .tell (ns.getD 0 0)),
  (0, fun _ => .queue)]
theorem nn {z lo hi : Int} (h0 : 0 ≤ lo) (h : NeutralIO.within z lo hi = true) : 0 ≤ z := by
  unfold NeutralIO.within at h
  rw [Bool.and_eq_true, decide_eq_true_eq] at h
  omega
/-- a call as it may be asked -/
structure Asked (c : List (List Int)) (i : Nat) (xs : List Nat) (n : Nat) (call : Cl05.Call) : Prop where
  form : c = [(i : Int) :: xs.map fun x : Nat => (x : Int)]
  len : xs.length = n
  is : Cl05Neutral.callOf c = some call
open Cl05Neutral in
theorem asked_tab {c : List (List Int)} (h : asked1 c = true) : ∃ (i : Nat) (xs : List Nat) (e : Nat × (List Nat → Cl05.Call)), tab[i]? = some e ∧ Asked c i xs e.1 (e.2 xs) := by
  unfold asked1 at h
  split at h
  · rename_i n
    have h0 := nn (by decide) h
    exact ⟨0, [n.toNat], _, rfl, by simp; omega, rfl, rfl⟩
  · rename_i w r f n d t
    simp only [who, room, plan, Bool.and_eq_true] at h
    obtain ⟨h1, h2, h3, h4, h5, h6⟩ := h
    have := nn (by decide) h1; have := nn (by decide) h2; have := nn (by decide) h3; have := nn (by decide) h4; have := nn (by decide) h5; have := nn (by decide) h6
    exact ⟨1, [w.toNat, r.toNat, f.toNat, n.toNat, d.toNat, t.toNat], _, rfl, by simp; omega, rfl, rfl⟩
  · rename_i r f n d t
    simp only [room, plan, Bool.and_eq_true] at h
    obtain ⟨h2, h3, h4, h5, h6⟩ := h
    have := nn (by decide) h2; have := nn (by decide) h3; have := nn (by decide) h4; have := nn (by decide) h5; have := nn (by decide) h6
    exact ⟨2, [r.toNat, f.toNat, n.toNat, d.toNat, t.toNat], _, rfl, by simp; omega, rfl, rfl⟩
  · rename_i w k f n d t
    simp only [who, plan, Bool.and_eq_true] at h
    obtain ⟨h1, h2, h3, h4, h5, h6⟩ := h
    have := nn (by decide) h1; have := nn (by decide) h2; have := nn (by decide) h3; have := nn (by decide) h4; have := nn (by decide) h5; have := nn (by decide) h6
    exact ⟨3, [w.toNat, k.toNat, f.toNat, n.toNat, d.toNat, t.toNat], _, rfl, by simp; omega, rfl, rfl⟩
  · rename_i w r f n d t
    simp only [who, room, plan, Bool.and_eq_true] at h
    obtain ⟨h1, h2, h3, h4, h5, h6⟩ := h
    have := nn (by decide) h1; have := nn (by decide) h2; have := nn (by decide) h3; have := nn (by decide) h4; have := nn (by decide) h5; have := nn (by decide) h6
    exact ⟨4, [w.toNat, r.toNat, f.toNat, n.toNat, d.toNat, t.toNat], _, rfl, by simp; omega, rfl, rfl⟩
  · rename_i k
    have h0 := nn (by decide) h
    exact ⟨5, [k.toNat], _, rfl, by simp; omega, rfl, rfl⟩
  · rename_i k i
    simp only [item, time, Bool.and_eq_true] at h
    have := nn (by decide) h.1; have := nn (by decide) h.2
    exact ⟨6, [k.toNat, i.toNat], _, rfl, by simp; omega, rfl, rfl⟩
  · rename_i k i
    simp only [item, time, Bool.and_eq_true] at h
    have := nn (by decide) h.1; have := nn (by decide) h.2
    exact ⟨7, [k.toNat, i.toNat], _, rfl, by simp; omega, rfl, rfl⟩
  · rename_i r u
    simp only [room, moment, Bool.and_eq_true] at h
    have := nn (by decide) h.1; have := nn (by decide) h.2
    exact ⟨8, [r.toNat, u.toNat], _, rfl, by simp; omega, rfl, rfl⟩
  · rename_i r u
    simp only [room, moment, Bool.and_eq_true] at h
    have := nn (by decide) h.1; have := nn (by decide) h.2
    exact ⟨9, [r.toNat, u.toNat], _, rfl, by simp; omega, rfl, rfl⟩
  · rename_i r u
    simp only [room, moment, Bool.and_eq_true] at h
    have := nn (by decide) h.1; have := nn (by decide) h.2
    exact ⟨10, [r.toNat, u.toNat], _, rfl, by simp; omega, rfl, rfl⟩
  · rename_i r a b
    simp only [room, moment, Bool.and_eq_true] at h
    have := nn (by decide) h.1; have := nn (by decide) h.2.1; have := nn (by decide) h.2.2
    exact ⟨11, [r.toNat, a.toNat, b.toNat], _, rfl, by simp; omega, rfl, rfl⟩
  · rename_i k
    have h0 := nn (by decide) h
    exact ⟨12, [k.toNat], _, rfl, by simp; omega, rfl, rfl⟩
  · exact ⟨13, [], _, rfl, rfl, rfl, rfl⟩
  · cases h
theorem whole_id (c : List (List Int)) : PyCl05.whole c = c := by
  unfold PyCl05.whole
  split <;> rfl
theorem ite_some {c : Prop} [Decidable c] {a : Nat × Nat} {b : Option (Nat × Nat)} {x : Nat × Nat} (h : (if c then some a else b) = some x) : a = x ∨ b = some x := by
  split at h
  · exact .inl (Option.some.inj h)
  · exact .inr h
theorem shape_zero {p : Int} {n k : Nat} (h : PyCl05.shape p = some (n, k)) : k = 0 := by
  unfold PyCl05.shape at h
  repeat
    rcases ite_some h with h | h
    · exact ((Prod.mk.inj h).2).symm
  cases h
/-- a list that is read as calls begins with one -/
theorem calls_cons {f : Nat} {p : Int} {r : List Int} {cs : List (List (List Int))} (h : PyFlat.calls PyCl05.shape f (p :: r) = some cs) :
    ∃ f' n c cs', f = f' + 1 ∧ PyCl05.shape p = some (n, 0) ∧ n ≤ r.length ∧ c = [p :: r.take n] ∧ cs = c :: cs' ∧ PyFlat.calls PyCl05.shape f' (r.drop n) = some cs' := by
  cases f with
  | zero => cases h
  | succ f =>
    unfold PyFlat.calls at h
    cases q : PyFlat.call PyCl05.shape (p :: r) with
    | none => rw [q] at h; cases h
    | some x =>
      obtain ⟨c, t⟩ := x
      rw [q] at h
      dsimp only at h
      cases q2 : PyFlat.calls PyCl05.shape f t with
      | none => rw [q2] at h; cases h
      | some cs' =>
        rw [q2] at h
        cases h
        unfold PyFlat.call at q
        dsimp only at q
        cases q3 : PyCl05.shape p with
        | none => rw [q3] at q; cases q
        | some y =>
          obtain ⟨n, k⟩ := y
          have hk : k = 0 := by
            exact shape_zero q3
          subst hk
          rw [q3] at q
          dsimp only at q
          by_cases hl : r.length < n
          · rw [if_pos hl] at q; cases q
          · rw [if_neg hl] at q
            simp only [PyFlat.rows] at q
            cases q
            exact ⟨f, n, _, cs', rfl, rfl, by omega, rfl, rfl, q2⟩
/-- what the calls answer -/
theorem told_cons {s : Cl05.State} {c : List (List Int)} {cs : List (List (List Int))} : PyFlat.told (PyFlat.played Cl05Neutral.step s (c :: cs)) = (((Cl05Neutral.step s c).2.length : Int) :: (Cl05Neutral.step s c).2) ++ PyFlat.told (PyFlat.played Cl05Neutral.step (Cl05Neutral.step s c).1 cs) := by
  unfold PyFlat.told
  rfl
/-- the whole request -/
theorem asked_all {l : List Int} (h : PyCl05.answers_asked l = true) : ∃ cs, PyFlat.calls PyCl05.shape l.length l = some cs ∧ cs.length ≤ 60 ∧ (∀ c ∈ cs, Cl05Neutral.asked1 c = true) ∧ PyCl05.answers l = PyFlat.told (PyFlat.played Cl05Neutral.step Cl05Neutral.start cs) ∧ (PyCl05.answers l).length ≤ 10000000 := by
  have h0 := h
  unfold PyCl05.answers_asked at h
  cases q : PyFlat.calls PyCl05.shape l.length l with
  | none => rw [q] at h; cases h
  | some raw =>
    rw [q] at h
    simp only [Bool.and_eq_true] at h
    obtain ⟨⟨⟨⟨_, h2⟩, _⟩, h4⟩, h5⟩ := h
    have ew : raw.map PyCl05.whole = raw := (List.map_congr_left fun c _ => whole_id c).trans (List.map_id raw)
    rw [ew] at h4
    unfold Cl05Neutral.asked at h4
    simp only [Bool.and_eq_true, decide_eq_true_eq, List.all_eq_true] at h4
    refine ⟨raw, rfl, h4.2.1, h4.2.2, ?_, by unfold PyFlat.short at h5; exact of_decide_eq_true h5⟩
    unfold PyCl05.answers PyCl05.calls
    rw [q]
    show PyFlat.told (PyFlat.played Cl05Neutral.step Cl05Neutral.start (raw.map PyCl05.whole)) = _
    rw [ew]
end RP
end

section
set_option maxRecDepth 100000
set_option maxHeartbeats 0
namespace R
open PySem PySem.Spec PyProof.Rows L2 LamX
/-! ### a tuple of the top whose rows are pairs: how many numbers, which def -/
def tupAt (K : PySem.W.Frag) (a : Addr) : List Value := match K.lookup a with
  | some ⟨.type c, _, .seq its _, _⟩ => if c = "tuple" then its.toList else []
  | _ => []
def isTup (K : PySem.W.Frag) (a : Addr) : Bool := match K.lookup a with
  | some ⟨.type c, _, .seq its _, _⟩ => decide (c = "tuple") && decide (its.size ≤ 1000)
  | _ => false
theorem isTup_ok {K : PySem.W.Frag} {a : Addr} (h : isTup K a = true) {xs : List V} (r : Vals xs (tupAt K a)) (H : Hp) : SqT K H a xs := by
  unfold isTup at h
  unfold tupAt at r
  cases q : K.lookup a with
  | none => rw [q] at h; cases h
  | some o =>
    obtain ⟨oc, od, dt, osl⟩ := o
    rw [q] at h r
    cases oc with
    | type c =>
      cases dt with
      | seq its n =>
        obtain ⟨h1, h2⟩ := He.ba h
        have e1 : c = "tuple" := of_decide_eq_true h1
        subst e1
        exact .inr ⟨_, its, n, q, rfl, rfl, Nat.le_trans (of_decide_eq_true h2) (by decide), by simpa using r⟩
      | _ => cases h
    | _ => cases dt <;> cases h
def rowB (K : PySem.W.Frag) (u : Value) (r : Nat × Str) : Bool := match u with
  | .ref a => isTup K a && He.relAll [.int r.1, .ref (He.ga K r.2)] (tupAt K a)
  | _ => false
def rowsB (K : PySem.W.Frag) : List Value → List (Nat × Str) → Bool
  | [], [] => true
  | u :: us, r :: rs => rowB K u r && rowsB K us rs
  | _, _ => false
def callsB (rs : List (Nat × Str)) (K : PySem.W.Frag) : Bool := isTup K (He.ga K "CALLS") && rowsB K (tupAt K (He.ga K "CALLS")) rs
structure CallsAt (K : PySem.W.Frag) (t : Addr) (rs : List (Nat × Str)) (as : List Addr) : Prop where
  all : ∀ H, SqT K H t (as.map V.ref)
  one : ∀ (i : Nat) (r : Nat × Str), rs[i]? = some r → ∃ a, as[i]? = some a ∧ ∀ H, SqT K H a [.int r.1, .ref (He.ga K r.2)]
theorem rowsB_ok {K : PySem.W.Frag} : ∀ {us : List Value} {rs : List (Nat × Str)}, rowsB K us rs = true → ∃ as : List Addr, Vals (as.map V.ref) us ∧ ∀ (i : Nat) (r : Nat × Str), rs[i]? = some r → ∃ a, as[i]? = some a ∧ ∀ H, SqT K H a [.int r.1, .ref (He.ga K r.2)]
  | [], [], _ => ⟨[], .nil, fun i r h => by simp at h⟩
  | [], _ :: _, h => by cases h
  | _ :: _, [], h => by cases h
  | u :: us, r :: rs, h => by
    obtain ⟨h1, h2⟩ := He.ba (show (rowB K u r && rowsB K us rs) = true from h)
    obtain ⟨as, v, one⟩ := rowsB_ok h2
    cases u with
    | ref a =>
      obtain ⟨h3, h4⟩ := He.ba (show (isTup K a && He.relAll [.int r.1, .ref (He.ga K r.2)] (tupAt K a)) = true from h1)
      refine ⟨a :: as, .cons rfl v, fun i r' hi => ?_⟩
      cases i with
      | zero =>
        have e : r = r' := Option.some.inj hi
        subst e
        exact ⟨a, rfl, fun H => isTup_ok h3 (He.relAll_ok h4) H⟩
      | succ i => exact one i r' hi
    | _ => cases h1
theorem callsB_ok {K : PySem.W.Frag} {rs : List (Nat × Str)} (h : callsB rs K = true) : ∃ as, CallsAt K (He.ga K "CALLS") rs as := by
  obtain ⟨h1, h2⟩ := He.ba h
  obtain ⟨as, v, one⟩ := rowsB_ok h2
  exact ⟨as, fun H => isTup_ok h1 v H, one⟩
/-! ### the head's facts, the run -/
abbrev s_answers : Stmt := top 48
theorem sc_answers : FnScope ["calls", "house", "given", "place", "call", "begin", "answerer", "answer"] ["calls"] (defScope s_answers) := ⟨rfl, rfl, rfl, by decide +kernel, rfl, by decide +kernel, by decide +kernel⟩
def dd_Plan___init__ : He.DefD := ⟨("Plan", some "__init__"), "__init__", "Plan.__init__", defArgs s_Plan___init__, defBody s_Plan___init__, defScope s_Plan___init__, [], []⟩
def dd_Plan_has_time : He.DefD := ⟨("Plan", some "has_time"), "has_time", "Plan.has_time", defArgs s_Plan_has_time, defBody s_Plan_has_time, defScope s_Plan_has_time, [], []⟩
def dd_Plan_has_given_up : He.DefD := ⟨("Plan", some "has_given_up"), "has_given_up", "Plan.has_given_up", defArgs s_Plan_has_given_up, defBody s_Plan_has_given_up, defScope s_Plan_has_given_up, [], []⟩
def dd_Plan_beginning : He.DefD := ⟨("Plan", some "beginning"), "beginning", "Plan.beginning", defArgs s_Plan_beginning, defBody s_Plan_beginning, defScope s_Plan_beginning, [], []⟩
def dd_Plan_step : He.DefD := ⟨("Plan", some "step"), "step", "Plan.step", defArgs s_Plan_step, defBody s_Plan_step, defScope s_Plan_step, [], []⟩
def dd_Plan_latest_time : He.DefD := ⟨("Plan", some "latest_time"), "latest_time", "Plan.latest_time", defArgs s_Plan_latest_time, defBody s_Plan_latest_time, defScope s_Plan_latest_time, [], []⟩
def dd_Plan_has_moment : He.DefD := ⟨("Plan", some "has_moment"), "has_moment", "Plan.has_moment", defArgs s_Plan_has_moment, defBody s_Plan_has_moment, defScope s_Plan_has_moment, [], []⟩
def dd_Plan_next_beginning : He.DefD := ⟨("Plan", some "next_beginning"), "next_beginning", "Plan.next_beginning", defArgs s_Plan_next_beginning, defBody s_Plan_next_beginning, defScope s_Plan_next_beginning, [], []⟩
def dd_Plan_minutes_had : He.DefD := ⟨("Plan", some "minutes_had"), "minutes_had", "Plan.minutes_had", defArgs s_Plan_minutes_had, defBody s_Plan_minutes_had, defScope s_Plan_minutes_had, [], []⟩
def dd_is_plan : He.DefD := ⟨("is_plan", none), "is_plan", "is_plan", defArgs s_is_plan, defBody s_is_plan, defScope s_is_plan, [], []⟩
def dd_plan_of : He.DefD := ⟨("plan_of", none), "plan_of", "plan_of", defArgs s_plan_of, defBody s_plan_of, defScope s_plan_of, [], []⟩
def dd_first_meeting : He.DefD := ⟨("first_meeting", none), "first_meeting", "first_meeting", defArgs s_first_meeting, defBody s_first_meeting, defScope s_first_meeting, [], []⟩
def dd_first_meeting_at_lead : He.DefD := ⟨("first_meeting_at_lead", none), "first_meeting_at_lead", "first_meeting_at_lead", defArgs s_first_meeting_at_lead, defBody s_first_meeting_at_lead, defScope s_first_meeting_at_lead, [], []⟩
def dd_least_match : He.DefD := ⟨("least_match", none), "least_match", "least_match", defArgs s_least_match, defBody s_least_match, defScope s_least_match, [], []⟩
def dd_greatest_divisor : He.DefD := ⟨("greatest_divisor", none), "greatest_divisor", "greatest_divisor", defArgs s_greatest_divisor, defBody s_greatest_divisor, defScope s_greatest_divisor, [], []⟩
def dd_Booking___init__ : He.DefD := ⟨("Booking", some "__init__"), "__init__", "Booking.__init__", defArgs s_Booking___init__, defBody s_Booking___init__, defScope s_Booking___init__, [], []⟩
def dd_House___init__ : He.DefD := ⟨("House", some "__init__"), "__init__", "House.__init__", defArgs s_House___init__, defBody s_House___init__, defScope s_House___init__, [], []⟩
def dd_House_has_room : He.DefD := ⟨("House", some "has_room"), "has_room", "House.has_room", defArgs s_House_has_room, defBody s_House_has_room, defScope s_House_has_room, [], []⟩
def dd_House_has_all_rooms : He.DefD := ⟨("House", some "has_all_rooms"), "has_all_rooms", "House.has_all_rooms", defArgs s_House_has_all_rooms, defBody s_House_has_all_rooms, defScope s_House_has_all_rooms, [], []⟩
def dd_House_add_room : He.DefD := ⟨("House", some "add_room"), "add_room", "House.add_room", defArgs s_House_add_room, defBody s_House_add_room, defScope s_House_add_room, [], []⟩
def dd_House_rooms_with : He.DefD := ⟨("House", some "rooms_with"), "rooms_with", "House.rooms_with", defArgs s_House_rooms_with, defBody s_House_rooms_with, defScope s_House_rooms_with, [], []⟩
def dd_House_is_full : He.DefD := ⟨("House", some "is_full"), "is_full", "House.is_full", defArgs s_House_is_full, defBody s_House_is_full, defScope s_House_is_full, [], []⟩
def dd_House_find_booked : He.DefD := ⟨("House", some "find_booked"), "find_booked", "House.find_booked", defArgs s_House_find_booked, defBody s_House_find_booked, defScope s_House_find_booked, [], []⟩
def dd_House_booked_in : He.DefD := ⟨("House", some "booked_in"), "booked_in", "House.booked_in", defArgs s_House_booked_in, defBody s_House_booked_in, defScope s_House_booked_in, [], []⟩
def dd_House_waiting : He.DefD := ⟨("House", some "waiting"), "waiting", "House.waiting", defArgs s_House_waiting, defBody s_House_waiting, defScope s_House_waiting, [], []⟩
def dd_House_who_has : He.DefD := ⟨("House", some "who_has"), "who_has", "House.who_has", defArgs s_House_who_has, defBody s_House_who_has, defScope s_House_who_has, [], []⟩
def dd_House_next_time : He.DefD := ⟨("House", some "next_time"), "next_time", "House.next_time", defArgs s_House_next_time, defBody s_House_next_time, defScope s_House_next_time, [], []⟩
def dd_House_minutes_used : He.DefD := ⟨("House", some "minutes_used"), "minutes_used", "House.minutes_used", defArgs s_House_minutes_used, defBody s_House_minutes_used, defScope s_House_minutes_used, [], []⟩
def dd_House_meetings : He.DefD := ⟨("House", some "meetings"), "meetings", "House.meetings", defArgs s_House_meetings, defBody s_House_meetings, defScope s_House_meetings, [], []⟩
def dd_House_fits : He.DefD := ⟨("House", some "fits"), "fits", "House.fits", defArgs s_House_fits, defBody s_House_fits, defScope s_House_fits, [], []⟩
def dd_House_hold : He.DefD := ⟨("House", some "hold"), "hold", "House.hold", defArgs s_House_hold, defBody s_House_hold, defScope s_House_hold, [], []⟩
def dd_House_let_go : He.DefD := ⟨("House", some "let_go"), "let_go", "House.let_go", defArgs s_House_let_go, defBody s_House_let_go, defScope s_House_let_go, [], []⟩
def dd_House_serve : He.DefD := ⟨("House", some "serve"), "serve", "House.serve", defArgs s_House_serve, defBody s_House_serve, defScope s_House_serve, [], []⟩
def dd_answer_room : He.DefD := ⟨("answer_room", none), "answer_room", "answer_room", defArgs s_answer_room, defBody s_answer_room, defScope s_answer_room, [], []⟩
def dd_answer_book : He.DefD := ⟨("answer_book", none), "answer_book", "answer_book", defArgs s_answer_book, defBody s_answer_book, defScope s_answer_book, [], []⟩
def dd_answer_would : He.DefD := ⟨("answer_would", none), "answer_would", "answer_would", defArgs s_answer_would, defBody s_answer_would, defScope s_answer_would, [], []⟩
def dd_answer_any : He.DefD := ⟨("answer_any", none), "answer_any", "answer_any", defArgs s_answer_any, defBody s_answer_any, defScope s_answer_any, [], []⟩
def dd_answer_wait : He.DefD := ⟨("answer_wait", none), "answer_wait", "answer_wait", defArgs s_answer_wait, defBody s_answer_wait, defScope s_answer_wait, [], []⟩
def dd_answer_served : He.DefD := ⟨("answer_served", none), "answer_served", "answer_served", defArgs s_answer_served, defBody s_answer_served, defScope s_answer_served, [], []⟩
def dd_answer_end : He.DefD := ⟨("answer_end", none), "answer_end", "answer_end", defArgs s_answer_end, defBody s_answer_end, defScope s_answer_end, [], []⟩
def dd_answer_skip : He.DefD := ⟨("answer_skip", none), "answer_skip", "answer_skip", defArgs s_answer_skip, defBody s_answer_skip, defScope s_answer_skip, [], []⟩
def dd_answer_cut : He.DefD := ⟨("answer_cut", none), "answer_cut", "answer_cut", defArgs s_answer_cut, defBody s_answer_cut, defScope s_answer_cut, [], []⟩
def dd_answer_at : He.DefD := ⟨("answer_at", none), "answer_at", "answer_at", defArgs s_answer_at, defBody s_answer_at, defScope s_answer_at, [], []⟩
def dd_answer_next : He.DefD := ⟨("answer_next", none), "answer_next", "answer_next", defArgs s_answer_next, defBody s_answer_next, defScope s_answer_next, [], []⟩
def dd_answer_free : He.DefD := ⟨("answer_free", none), "answer_free", "answer_free", defArgs s_answer_free, defBody s_answer_free, defScope s_answer_free, [], []⟩
def dd_answer_used : He.DefD := ⟨("answer_used", none), "answer_used", "answer_used", defArgs s_answer_used, defBody s_answer_used, defScope s_answer_used, [], []⟩
def dd_answer_tell : He.DefD := ⟨("answer_tell", none), "answer_tell", "answer_tell", defArgs s_answer_tell, defBody s_answer_tell, defScope s_answer_tell, [], []⟩
def dd_answer_queue : He.DefD := ⟨("answer_queue", none), "answer_queue", "answer_queue", defArgs s_answer_queue, defBody s_answer_queue, defScope s_answer_queue, [], []⟩
def dd_answers : He.DefD := ⟨("answers", none), "answers", "answers", defArgs s_answers, defBody s_answers, defScope s_answers, [], []⟩
def hfn0 : List He.DefD := [dd_Plan___init__, dd_Plan_has_time, dd_Plan_has_given_up, dd_Plan_beginning, dd_Plan_step, dd_Plan_latest_time, dd_Plan_has_moment, dd_Plan_next_beginning, dd_Plan_minutes_had, dd_is_plan]
def hfn1 : List He.DefD := [dd_plan_of, dd_first_meeting, dd_first_meeting_at_lead, dd_least_match, dd_greatest_divisor, dd_Booking___init__, dd_House___init__, dd_House_has_room, dd_House_has_all_rooms, dd_House_add_room]
def hfn2 : List He.DefD := [dd_House_rooms_with, dd_House_is_full, dd_House_find_booked, dd_House_booked_in, dd_House_waiting, dd_House_who_has, dd_House_next_time, dd_House_minutes_used, dd_House_meetings, dd_House_fits]
def hfn3 : List He.DefD := [dd_House_hold, dd_House_let_go, dd_House_serve, dd_answer_room, dd_answer_book, dd_answer_would, dd_answer_any, dd_answer_wait, dd_answer_served, dd_answer_end]
def hfn4 : List He.DefD := [dd_answer_skip, dd_answer_cut, dd_answer_at, dd_answer_next, dd_answer_free, dd_answer_used, dd_answer_tell, dd_answer_queue, dd_answers]
def hfn : List He.DefD := hfn0 ++ hfn1 ++ hfn2 ++ hfn3 ++ hfn4
def hfa0 : List He.Fa := [.int "DAY" (1440), .int "MOST_FIRST" (1000000), .int "MOST_LENGTH" (1440), .int "MOST_DAYS" (60), .int "MOST_TIMES" (500), .int "FOR_EVER" (0), .glo "Plan", .cls "Plan", .mkr "Plan", .noat "Plan" "first", .noat "Plan" "length", .noat "Plan" "days"]
def hfa1 : List He.Fa := [.noat "Plan" "times", .noat "Plan" "given_up", .meth "Plan" "has_time", .meth "Plan" "has_given_up", .meth "Plan" "beginning", .meth "Plan" "step", .meth "Plan" "latest_time", .meth "Plan" "has_moment", .meth "Plan" "next_beginning", .meth "Plan" "minutes_had", .glo "is_plan", .glo "plan_of"]
def hfa2 : List He.Fa := [.glo "first_meeting", .glo "first_meeting_at_lead", .glo "least_match", .glo "greatest_divisor", .int "MOST_ROOMS" (5), .int "MOST_HELD" (24), .glo "Booking", .cls "Booking", .mkr "Booking", .noat "Booking" "number", .noat "Booking" "whom", .noat "Booking" "room"]
def hfa3 : List He.Fa := [.noat "Booking" "plan", .noat "Booking" "waits", .glo "House", .cls "House", .mkr "House", .noat "House" "seats", .noat "House" "held", .noat "House" "came", .meth "House" "has_room", .meth "House" "has_all_rooms", .meth "House" "add_room", .meth "House" "rooms_with"]
def hfa4 : List He.Fa := [.meth "House" "is_full", .meth "House" "find_booked", .meth "House" "booked_in", .meth "House" "waiting", .meth "House" "who_has", .meth "House" "next_time", .meth "House" "minutes_used", .meth "House" "meetings", .meth "House" "fits", .meth "House" "hold", .meth "House" "let_go", .meth "House" "serve"]
def hfa5 : List He.Fa := [.int "MOST_SEATS" (500), .int "MOST_WHOM" (99), .int "MOST_WHICH" (9999), .int "MOST_GIVEN_UP" (5), .int "MOST_STRETCH" (200000), .int "NOT_AS_TOLD" (-1), .int "NO_SUCH_TIME" (-2), .int "NO_ROOM" (-3), .int "NOT_HELD" (-4), .int "TOO_MANY" (-5), .int "NONE_TO_COME" (-6), .int "NO_FIT" (-7)]
def hfa6 : List He.Fa := [.glo "answer_room", .glo "answer_book", .glo "answer_would", .glo "answer_any", .glo "answer_wait", .glo "answer_served", .glo "answer_end", .glo "answer_skip", .glo "answer_cut", .glo "answer_at", .glo "answer_next", .glo "answer_free"]
def hfa7 : List He.Fa := [.glo "answer_used", .glo "answer_tell", .glo "answer_queue", .glo "CALLS", .glo "answers", .free "len", .free "range", .free "sorted", .free "min", .free "max", .free "sum"]
def hfa : List He.Fa := hfa0 ++ hfa1 ++ hfa2 ++ hfa3 ++ hfa4 ++ hfa5 ++ hfa6 ++ hfa7
def hln0 : List PySem.Str := ["DAY", "MOST_FIRST", "MOST_LENGTH", "MOST_DAYS", "MOST_TIMES", "FOR_EVER", "Plan", "is_plan", "plan_of", "first_meeting", "first_meeting_at_lead", "least_match"]
def hln1 : List PySem.Str := ["greatest_divisor", "MOST_ROOMS", "MOST_HELD", "Booking", "House", "MOST_SEATS", "MOST_WHOM", "MOST_WHICH", "MOST_GIVEN_UP", "MOST_STRETCH", "NOT_AS_TOLD", "NO_SUCH_TIME"]
def hln2 : List PySem.Str := ["NO_ROOM", "NOT_HELD", "TOO_MANY", "NONE_TO_COME", "NO_FIT", "answer_room", "answer_book", "answer_would", "answer_any", "answer_wait", "answer_served", "answer_end"]
def hln3 : List PySem.Str := ["answer_skip", "answer_cut", "answer_at", "answer_next", "answer_free", "answer_used", "answer_tell", "answer_queue", "CALLS"]
def hln : List PySem.Str := hln0 ++ hln1 ++ hln2 ++ hln3
/-- where the asked def stands -/
abbrev hAt : Nat := 48
def htf : List He.Defn := [("House", some "rooms_with")]
def hrs : List (Nat × Str) := [(1, "answer_room"), (6, "answer_book"), (5, "answer_would"), (6, "answer_any"), (6, "answer_wait"), (1, "answer_end"), (2, "answer_skip"),
  (2, "answer_cut"), (2, "answer_at"), (2, "answer_next"), (2, "answer_free"), (3, "answer_used"), (1, "answer_tell"), (0, "answer_queue")]
abbrev RO : PySem.W.OpenSpec := PySem.Challenge.rw_roomsforever_s01_answers
abbrev hq : Program := PySem.W.view RO.prog [hAt]
abbrev hk : PySem.W.Hook := He.hookX 5 hfa hfn [] htf (callsB hrs)
def hob (s : PySem.W.SharedT) : He.AlX := He.obsX 5 hfa hfn [] htf (callsB hrs) (HeadRun.getT s)
theorem hob_eq (s : PySem.W.SharedT) : hob s = hk.obs s.abs := He.obsX_eq (HeadRun.getT_eq s)
set_option maxHeartbeats 0 in
theorem hrun (w : World) : HeadRun.RunEqS RO hq hk hob 4000 hln w := by
  intro os
  kernel_rfl
end R
end

section
set_option maxRecDepth 100000
set_option maxHeartbeats 4000000
namespace R
open PySem PySem.Spec PyProof.Rows L2 LamX
/-! ### a call of a local name that holds one of several defs -/
structure HeldR (P : Program) (w : World) (K : PySem.W.Frag) (mg : Str → Option Value) (base : Heap) (k : Nat) (f : Addr) (sp : Sp) : Prop where
  ex : ∃ (j : Nat) (fd : FuncData) (ps : List Str), j ≤ k ∧ FnOk P w K mg base CX0 j f fd ps sp ∧ PySem.W.keepIn K (.ref f) = true ∧ Binds K fd ps []
def tCallR (i : Nat) (S : Addr → Sp → Prop) (t : TA) : TE := fun σ H Q => ∃ f sp, σ[i]? = some (some (.ref f)) ∧ S f sp ∧ t σ H fun vs H1 => sp vs H1 Q E0
theorem pe_callR {X : Cx} {k i : Nat} {x : Str} {p pos : Pos} {e : Expr} {es : List Expr} {t : TA} {S : Addr → Sp → Prop} (A : ∀ f sp, S f sp → HeldR X.prog X.w X.K X.mg X.base k f sp) (hr : Room k X.A) (hN : X.N[i]? = some x) (hv : Vis X.env.scope x) (ha : PA X (e :: es) t)
    (h1 : (x == ("__debug__" : Str)) = false := by decide) (h2 : (x == ("__classdict__" : Str)) = false := by decide) (h3 : starEach (e :: es) X.env = (false, eval e X.env) :: starEach es X.env := by rfl) (h4 : (backTo pos (starEach es X.env)).any (·.1) = false := by rfl) :
    PE X (.Call (.Name x p) (e :: es) [] pos) (tCallR i S t) := by
  refine ⟨fun pins s σ H Q I ⟨f, sp, q1, q2, q3⟩ => ?_⟩
  obtain ⟨j, fd, ps, hj, F, kp, b⟩ := (A f sp q2).ex
  refine (pe_callL F (hr.mono hj) hN hv kp b .nil pass0 ha h1 h2 h3 h4).run pins s σ H Q I ⟨q1, ?_⟩
  have e0 : (fun (vs : List V) (H1 : Hp) => sp (vs ++ []) H1 Q E0) = fun vs H1 => sp vs H1 Q E0 := by funext vs H1; rw [List.append_nil]
  rw [e0]
  exact q3
/-! ### the house at its beginning, what is left alone -/
theorem Good.less_av {TT : List (Addr × Str)} {CH CB CP h : Addr} {H : Hp} {s : Cl05.State} {av av' : Addr → Prop} (G : Good TT CH CB CP H h s av) (h' : ∀ x, av' x → av x) : Good TT CH CB CP H h s av' := by
  obtain ⟨sl, dl, rooms, es, c, N, ID⟩ := G
  exact ⟨sl, dl, rooms, es, c, ⟨N.at_, N.rel, N.few, N.items, N.nga, N.npa, N.tabs, fun x hx => N.avoid x (h' x hx)⟩, ID⟩
theorem foot_some {CH CB CP h sl dl : Addr} {H : Hp} {rooms : List Nat} {es : List Ent} {c : Nat} (A : HouseAt CH CB CP id H h sl dl rooms es c) {x : Addr} (hx : foot h sl dl es x) : H x ≠ none := by
  obtain ⟨⟨dx, h1⟩, h2, h3, h4⟩ := A
  rcases hx with rfl | rfl | rfl | ⟨e, he, rfl | rfl | rfl⟩
  · rw [h1]; simp
  · rw [h2]; simp
  · rw [h3]; simp
  · obtain ⟨d, q⟩ := (h4 e he).ob; rw [q]; simp
  · obtain ⟨d, q⟩ := (h4 e he).pl.ob; rw [q]; simp
  · rw [(h4 e he).pl.gu]; simp
/-- one more thing to be left alone: a new one -/
theorem Good.more {TT : List (Addr × Str)} {CH CB CP h p : Addr} {H : Hp} {s : Cl05.State} {av : Addr → Prop} (G : Good TT CH CB CP H h s av) (hp : H p = none) (o : HO) : Good TT CH CB CP (upd H p o) h s (fun x => x = p ∨ av x) := by
  obtain ⟨sl, dl, rooms, es, c, N, ID⟩ := G
  have N' := N.same (new_same (o := o) hp)
  refine ⟨sl, dl, rooms, es, c, ⟨N'.at_, N'.rel, N'.few, N'.items, N'.nga, N'.npa, N'.tabs, fun x hx z => ?_⟩, ID⟩
  rcases hx with rfl | hx
  · exact foot_some N.at_ z hp
  · exact N.avoid x hx z
theorem HeldA.more {H : Hp} {av : Addr → Prop} (h : HeldA H av) {p : Addr} {o : HO} (hp : H p = none) (no : ∀ ps, o ≠ .tbl ps) : HeldA (upd H p o) (fun x => x = p ∨ av x) := fun x hx => by
  rcases hx with rfl | hx
  · exact ⟨o, upd_same, no⟩
  · obtain ⟨u, e, n⟩ := h x hx
    exact ⟨u, by rw [upd_ne (ne_of_none e hp)]; exact e, n⟩
/-- what is left alone changes by our own hand: the list of what is given -/
theorem Good.own {TT : List (Addr × Str)} {CH CB CP h p : Addr} {H : Hp} {s : Cl05.State} {av : Addr → Prop} (G : Good TT CH CB CP H h s av) (hp : av p) {xs : List V} (e : H p = some (.lst xs)) (ys : List V) : Good TT CH CB CP (upd H p (.lst ys)) h s av := by
  obtain ⟨sl, dl, rooms, es, c, N, ID⟩ := G
  obtain ⟨⟨dx, h1⟩, h2, h3, h4⟩ := id N.at_
  have nf : ∀ {x}, foot h sl dl es x → x ≠ p := fun hx z => N.avoid p hp (z ▸ hx)
  refine ⟨sl, dl, rooms, es, c, ⟨⟨⟨dx, ?_⟩, ?_, ?_, fun y hy => ?_⟩, N.rel, N.few, N.items, N.nga, N.npa, ?_, N.avoid⟩, ID⟩
  · rw [upd_ne (nf (.inl rfl))]; exact h1
  · rw [upd_ne (nf (.inr (.inl rfl)))]; exact h2
  · rw [upd_ne (nf (.inr (.inr (.inl rfl))))]; exact h3
  · obtain ⟨⟨d1, q1⟩, ⟨d2, q2⟩, q3⟩ := h4 y hy
    refine ⟨⟨d1, ?_⟩, ⟨d2, ?_⟩, ?_⟩
    · rw [upd_ne (nf (.inr (.inr (.inr ⟨y, hy, .inl rfl⟩))))]; exact q1
    · rw [upd_ne (nf (.inr (.inr (.inr ⟨y, hy, .inr (.inl rfl)⟩))))]; exact q2
    · rw [upd_ne (nf (.inr (.inr (.inr ⟨y, hy, .inr (.inr rfl)⟩))))]; exact q3
  · refine tabs_keep N.tabs fun b o q n1 n2 n3 => ?_
    rw [upd_ne (fun z => by rw [z, e] at q; cases q; exact n1 _ rfl)]
    exact q
/-- the list that is handed in, whatever holds it -/
structure ArgOk (K : PySem.W.Frag) (H : Hp) (a : Addr) (xs : List V) (ag : Addr → Prop) : Prop where
  held : HeldA H ag
  sq : ∀ H', KeepA H H' ag → SqL K H' a xs
theorem argOk_of {K : PySem.W.Frag} {H : Hp} {a : Addr} {xs : List V} (h : SqL K H a xs) : ∃ ag, ArgOk K H a xs ag := by
  rcases h with (h | ⟨o, h⟩) | h
  · refine ⟨fun x => x = a, fun x hx => ⟨.lst xs, by rw [hx]; exact h, fun _ z => by cases z⟩, fun H' k => .inl (.inl (k a _ rfl h))⟩
  · refine ⟨fun x => x = a, fun x hx => ⟨.frz o (.lst xs), by rw [hx]; exact h, fun _ z => by cases z⟩, fun H' k => .inl (.inr ⟨o, k a _ rfl h⟩)⟩
  · exact ⟨fun _ => False, fun x hx => hx.elim, fun H' _ => .inr h⟩
def spMain (K : PySem.W.Frag) (TT : List (Addr × Str)) : Sp := fun vs H Q _ => ∃ (a : Addr) (ns : List Int), vs = [.ref a] ∧ SqL K H a (ns.map V.int) ∧ Tabs TT H ∧ PyCl05.answers_asked ns = true ∧
  ∀ (H' : Hp) (l : Addr), H' l = some (.lst ((PyCl05.answers ns).map V.int)) → Q (.ref l) H'
structure TxM (K : PySem.W.Frag) (mg : Str → Option Value) (t : Addr) (rs : List (Nat × Str)) (as : List Addr) : Prop where
  g_CALLS : GI mg "CALLS" (.ref t)
  at_ : CallsAt K t rs as
  b_len : mg "len" = none
section
variable {P : Program} {w : World} {K : PySem.W.Frag} {mg : Str → Option Value} {base : Heap} {CH CB CP f t : Addr} {fd : FuncData} {TT : List (Addr × Str)} {rs : List (Nat × Str)} {as : List Addr}
def Rows (K : PySem.W.Frag) (TT : List (Addr × Str)) (CH CB CP : Addr) (rs : List (Nat × Str)) (f : Addr) (sp : Sp) : Prop := ∃ (i : Nat) (r : Nat × Str) (e : Nat × (List Nat → Cl05.Call)), rs[i]? = some r ∧ RP.tab[i]? = some e ∧ f = He.ga K r.2 ∧ sp = spAns TT CH CB CP e.2 e.1
/-- between two calls -/
def Between (TT : List (Addr × Str)) (CH CB CP a h gl : Addr) (ns : List Int) (ag : Addr → Prop) (H : Hp) (σ : L2.St) (H' : Hp) : Prop := ∃ (st : Cl05.State) (pl fu : Nat) (cs : List (List (List Int))) (out : List Int) (v4 v5 v6 v7 : Option V),
  σ = [some (.ref a), some (.ref h), some (.ref gl), some (.int pl), v4, v5, v6, v7] ∧ Good TT CH CB CP H' h st (fun x => x = gl ∨ ag x) ∧ KeepA H H' ag ∧ H' gl = some (.lst (out.map V.int)) ∧
  PyFlat.calls PyCl05.shape fu (ns.drop pl) = some cs ∧ (∀ c ∈ cs, Cl05Neutral.asked1 c = true) ∧ out ++ PyFlat.told (PyFlat.played Cl05Neutral.step st cs) = PyCl05.answers ns
def leftOver (ns : List Int) (σ : L2.St) : Nat := match σ with
  | [_, _, _, some (.int p), _, _, _, _] => ns.length - p.toNat
  | _ => 0
theorem cut_is {ns : List Int} {pl n : Nat} {x : Int} {r : List Int} (h : ns.drop pl = x :: r) (hn : n ≤ r.length) : cutV (ns.map V.int) (some ((pl : Int) + 1)) (some ((pl : Int) + 1 + (n : Int))) = (r.take n).map V.int := by
  have e1 : ((pl : Int) + 1) = ((pl + 1 : Nat) : Int) := by omega
  have e2 : ((pl + 1 : Nat) : Int) + (n : Int) = ((pl + 1 + n : Nat) : Int) := by omega
  have hl : ns.length = pl + 1 + r.length := by
    have := congrArg List.length h
    rw [List.length_drop, List.length_cons] at this
    omega
  have hd : ns.drop (pl + 1) = r := by
    have := congrArg (List.drop 1) h
    rw [List.drop_drop] at this
    exact this
  unfold cutV
  rw [e1, e2, HT.sIx_nat, HT.sIx_nat, List.length_map, hl, Nat.min_eq_left (by omega), Nat.min_eq_left (by omega), ← List.map_drop, hd, ← List.map_take]
  congr 2
  omega
theorem ok_answers (F : Fun K "answers" "answers" s_answers f fd) (T : TxM K mg t rs as) (d_House : DC P w K mg base "House" CH 1 ["self"] (spHInit CH))
    (hrow : ∀ (i : Nat) (e : Nat × (List Nat → Cl05.Call)), RP.tab[i]? = some e → ∃ x, rs[i]? = some (e.1, x)) (hdef : ∀ f sp, Rows K TT CH CB CP rs f sp → HeldR P w K mg base 12 f sp) :
    FnOk P w K mg base CX0 13 f fd ["calls"] (spMain K TT) := by
  refine F.ok sc_answers (fun vs H Q E h => ?_) (fun cdv A outer s H vs Q E hr h => ?_)
  · obtain ⟨_, _, rfl, _⟩ := h
    rfl
  · obtain ⟨a, ns, rfl, hS, tabs, asked, k⟩ := h
    obtain ⟨cs0, q0, _, q2, q3, q4⟩ := RP.asked_all asked
    obtain ⟨ag, AG⟩ := argOk_of hS
    refine ⟨_, (pss_cons (ps_set (i := 1) sc_answers.nd rfl (Or.inl rfl) (kd_of (pe_make0 d_House.M d_House.F (hr.mono (by decide)) (by rfl) d_House.g d_House.b .nil pass0)))
      (pss_cons (ps_set (i := 2) sc_answers.nd rfl (Or.inl rfl) (pe_lst pa_nil))
      (pss_cons (ps_set (i := 3) sc_answers.nd rfl (Or.inl rfl) pe_int)
      (pss_cons (ps_while PassesOwn.never (pt_cmpR op_lt (pv 3) (pe_callB call_len_seq (by rfl) T.b_len PySem.boot_len (pa_cons (pv 0) pa_nil)) (nomark _))
        (pss_cons (ps_set (i := 4) sc_answers.nd rfl (Or.inl rfl) (pe_ix ix_tup (pe_gi T.g_CALLS) (pe_ix ix_list (pv 0) (pv 3) (fun _ _ => rfl)) (fun _ _ => rfl)))
        (pss_cons (ps_set (i := 5) sc_answers.nd rfl (Or.inl rfl) (pe_op op_add (pv 3) pe_int))
        (pss_cons (ps_set (i := 3) sc_answers.nd rfl (Or.inl rfl) (pe_op op_add (pv 5) (pe_ix ix_tup (pv 4) pe_int (fun _ _ => rfl))))
        (pss_cons (ps_set (i := 6) sc_answers.nd rfl (Or.inl rfl) (pe_ix ix_tup (pv 4) pe_int (fun _ _ => rfl)))
        (pss_cons (ps_set (i := 7) sc_answers.nd rfl (Or.inl rfl) (pe_callR (S := Rows K TT CH CB CP rs) (i := 6) hdef (hr.mono (by decide)) rfl (Or.inl rfl) (pa_cons (pv 1) (pa_cons (pe_slice sl_list (pv 0) (po_some (pv 5)) (po_some (pv 3))) pa_nil))))
        (pss_cons (ps_expr (pe_bm PySem.F.plainAttrs_list PySem.F.slot_list_append PySem.F.type_list_append mt_append (pv 2) (pa_cons (pe_callB call_len_seq (by rfl) T.b_len PySem.boot_len (pa_cons (pv 7) pa_nil)) pa_nil)))
        (pss_one (ps_expr (pe_bm PySem.F.plainAttrs_list PySem.F.slot_list_extend PySem.F.type_list_extend mt_extend (pv 2) (pa_cons (pv 7) pa_nil)))))))))))
      (pss_one (ps_ret (pv 2))))))), ?_⟩
    intro h dx hh hdx hne
    refine ⟨h, dx, rfl, upd_same, fun sl dl H1 hsl hdl hsd e1 e2 e3 kp => ⟨rfl, ?_⟩⟩
    have s0 : Same H (upd (upd H dx (.own h)) h (.ins CH dx [])) := fun b o e => by
      rw [upd_ne (ne_of_none e hh), upd_ne (ne_of_none e hdx)]
      exact e
    have s1 : Same H H1 := fun b o e => kp b o (s0 b o e) (ne_of_none e hh)
    have G1 : Good TT CH CB CP H1 h Cl05.init ag := by
      refine ⟨sl, dl, [], [], 0, ⟨⟨⟨dx, e1⟩, e2, e3, fun e he => by cases he⟩, ?_, by decide, by decide, by simp, by simp, tabs.ext s1, fun x hx z => ?_⟩, fun e he => by cases he⟩
      · refine ⟨rfl, rfl, rfl, .nil, .nil, ?_, ?_, ?_, ?_⟩ <;> intro e he <;> cases he
      · obtain ⟨o, e, _⟩ := AG.held x hx
        rcases z with rfl | rfl | rfl | ⟨y, hy, _⟩
        · rw [hh] at e; cases e
        · rw [s0.free hsl] at e; cases e
        · rw [s0.free hdl] at e; cases e
        · cases hy
    refine ⟨(by show 0 ≤ sizeLine; decide), fun gl hgl => ?_⟩
    have G2 := G1.more hgl (.lst [])
    have nag : ¬ ag gl := fun z => by
      obtain ⟨o, e, _⟩ := AG.held gl z
      rw [s1 _ _ e] at hgl
      cases hgl
    refine while_on (Between TT CH CB CP a h gl ns ag H) (leftOver ns) ⟨Cl05.init, 0, ns.length, cs0, [], none, none, none, none, rfl, G2, KeepA.of_same (s1.trans (new_same hgl)), upd_same, q0, q2, by rw [q3]; rfl⟩ ?_
    rintro σ H' ⟨st, pl, fu, cs, out, v4, v5, v6, v7, rfl, G, ka, hout, hcs, has, hans⟩
    have hS' := AG.sq H' ka
    have hol : out.length ≤ 10000000 := by
      have := congrArg List.length hans
      rw [List.length_append] at this
      omega
    refine ⟨_, rfl, _, rfl, a, _, rfl, .inl hS', _, _, rfl, rfl, _, rfl, if_b (fun z => ?_) fun z => ?_⟩
    · have hpl : pl < ns.length := by
        have := of_decide_eq_true z
        rw [List.length_map] at this
        omega
      refine ⟨fun σ' H'' => Between TT CH CB CP a h gl ns ag H σ' H'' ∧ leftOver ns σ' < ns.length - pl, fun σ' H'' z => ⟨_, z.2, rfl, z.1⟩, ?_⟩
      have ed : ns.drop pl = ns[pl] :: ns.drop (pl + 1) := List.drop_eq_getElem_cons hpl
      rw [ed] at hcs
      obtain ⟨f', n, c, cs', rfl, hsh, hn, hc, rfl, hcs'⟩ := RP.calls_cons hcs
      obtain ⟨i, xs, e, hei, ⟨hform, hlen, his⟩⟩ := RP.asked_tab (has c List.mem_cons_self)
      rw [hc] at hform
      injection hform with hform
      injection hform with hi hxs
      have hnx : n = e.1 := by
        have := congrArg List.length hxs
        rw [List.length_take, List.length_map, hlen, Nat.min_eq_left hn] at this
        exact this
      subst hnx
      obtain ⟨x, hx⟩ := hrow i e hei
      obtain ⟨ta, hta, hsq⟩ := T.at_.one i _ hx
      have hstep : Cl05Neutral.step st c = Cl05.step st (e.2 xs) := by
        unfold Cl05Neutral.step
        rw [his]
      have hpi : atI (ns.map V.int) (pl : Int) = some (.int (i : Int)) := by
        refine atI_nat ?_
        rw [List.getElem?_map, List.getElem?_eq_getElem hpl, hi]
        rfl
      have hci : atI (as.map V.ref) (i : Int) = some (.ref ta) := by
        refine atI_nat ?_
        rw [List.getElem?_map, hta]
        rfl
      refine ⟨_, rfl, _, rfl, a, _, _, _, rfl, rfl, hS', hpi, t, _, _, _, rfl, rfl, T.at_.all _, hci, ?_⟩
      refine ⟨_, rfl, _, _, rfl, rfl, ?_⟩
      refine ⟨_, rfl, _, rfl, ta, _, 0, _, rfl, rfl, hsq _, rfl, _, _, rfl, rfl, ?_⟩
      refine ⟨_, rfl, ta, _, 1, _, rfl, rfl, hsq _, rfl, ?_⟩
      refine ⟨He.ga K x, _, rfl, ⟨i, _, e, hx, hei, rfl, rfl⟩, _, rfl, _, rfl, _, rfl, _, rfl, _, rfl, _, rfl, a, _, rfl, hS', fun p hp => ?_⟩
      have ep : cutV (ns.map V.int) (some ((pl : Int) + 1)) (some ((pl : Int) + 1 + (e.1 : Int))) = gV xs := by
        rw [cut_is ed hn, hxs]
        unfold gV
        rw [List.map_map]
        rfl
      rw [ep]
      have hgv : HeldA H' (fun x => x = gl ∨ ag x) := fun x hx => by
        rcases hx with rfl | hx
        · exact ⟨_, hout, fun _ z => by cases z⟩
        · exact (AG.held.keep ka) x hx
      refine ⟨h, p, st, _, xs, rfl, G.more hp _, .inl rfl, hgv.more hp (fun _ z => by cases z), upd_same, hlen, fun H3 l G3 k3 e3 nl3 => ?_⟩
      have e3' := e3
      rw [← hstep] at e3
      have G3' : Good TT CH CB CP H3 h (Cl05Neutral.step st c).1 (fun x => x = gl ∨ ag x) := by
        rw [hstep]
        exact G3.less_av fun x hx => .inr hx
      have hout3 : H3 gl = some (.lst (out.map V.int)) := k3 gl _ (.inr (.inl rfl)) (by rw [upd_ne (ne_of_none hout hp)]; exact hout)
      have ka3 : KeepA H H3 ag := fun x o hx q => k3 x o (.inr (.inr hx)) (by have := ka x o hx q; rw [upd_ne (ne_of_none this hp)]; exact this)
      have ngl : l ≠ gl := fun z => nl3 (.inr (.inl z))
      have hans' : out ++ (((Cl05Neutral.step st c).2.length : Int) :: (Cl05Neutral.step st c).2) ++ PyFlat.told (PyFlat.played Cl05Neutral.step (Cl05Neutral.step st c).1 cs') = PyCl05.answers ns := by
        rw [← hans, RP.told_cons, List.append_assoc]
      have hol' : out.length + ((Cl05Neutral.step st c).2.length + 1) ≤ 10000000 := by
        have := congrArg List.length hans'
        rw [List.length_append, List.length_append, List.length_cons] at this
        omega
      have line : ∀ {m : Nat}, m ≤ 10000000 → m < sizeLine := fun {m} z => Nat.lt_of_le_of_lt z (by decide)
      refine ⟨_, rfl, .inl ⟨rfl, _, SqL.of hout3⟩, _, rfl, l, _, rfl, .inl (SqL.of e3), gl, _, _, rfl, rfl, hout3, line (by rw [List.length_map]; omega), ?_⟩
      have e4 : (upd H3 gl (.lst (out.map V.int ++ [.int (((Cl05Neutral.step st c).2.map V.int).length : Int)]))) l = some (.lst ((Cl05Neutral.step st c).2.map V.int)) := by rw [upd_ne ngl]; exact e3
      refine ⟨_, rfl, .inl ⟨rfl, _, SqL.of upd_same⟩, _, rfl, gl, l, _, _, rfl, rfl, upd_same, e4, Nat.le_of_lt (line (by rw [List.length_append, List.length_map, List.length_map, List.length_singleton]; omega)), ?_⟩
      have eout : out.map V.int ++ [.int (((Cl05Neutral.step st c).2.map V.int).length : Int)] ++ (Cl05Neutral.step st c).2.map V.int = (out ++ (((Cl05Neutral.step st c).2.length : Int) :: (Cl05Neutral.step st c).2)).map V.int := by
        rw [List.map_append, List.map_cons, List.length_map, List.append_assoc]
        rfl
      rw [upd_upd, eout]
      refine ⟨⟨(Cl05Neutral.step st c).1, pl + 1 + e.1, f', cs', _, _, _, _, _, rfl, G3'.own (.inl rfl) hout3 _, fun x o hx q => ?_, upd_same, ?_, fun c hc => has c (List.mem_cons_of_mem _ hc), hans'⟩, ?_⟩
      · have nx : x ≠ gl := fun z => nag (by rw [← z]; exact hx)
        rw [upd_ne nx]
        exact ka3 x o hx q
      · rw [← List.drop_drop]
        exact hcs'
      · show ns.length - ((pl : Int) + 1 + (e.1 : Int)).toNat < ns.length - pl
        omega
    · have hpl : ¬ pl < ns.length := by
        have := of_decide_eq_false z
        rw [List.length_map] at this
        omega
      have hd : ns.drop pl = [] := List.drop_eq_nil_of_le (by omega)
      rw [hd] at hcs
      have ecs : cs = [] := by
        cases fu <;> exact (Option.some.inj hcs).symm
      rw [ecs] at hans
      have : out = PyCl05.answers ns := by rw [← hans]; exact (List.append_nil out).symm
      exact ⟨_, rfl, k _ gl (by rw [← this]; exact hout)⟩
end
end R
end

section
set_option maxRecDepth 100000
set_option maxHeartbeats 4000000
namespace R
open PySem PySem.Spec PyProof.Rows L2 LamX
section
variable {P : Program} {w : World} {K : PySem.W.Frag} {mg : Str → Option Value} {h : Heap}
theorem fun_of {x q : Str} {st : Stmt} {f : Addr} {fd : FuncData} (F : FunD K x q (defArgs st) (defBody st) (defScope st) [] [] f fd) : Fun K x q st f fd := by
  obtain ⟨oc, od, dV, kV, doc, pm, an, cdv, ct, osl, e1, lk, hcd, hD, _⟩ := F.ex
  rcases hD with ⟨_, rfl⟩ | ⟨e, _⟩
  · exact ⟨⟨oc, od, kV, doc, pm, an, cdv, ct, osl, e1, lk, hcd⟩, F.kp⟩
  · exact absurd rfl e
theorem gi_of (KX : K.In h) (G : h.Ns mainGlobals mg) {x : Str} {i : Int} (c : (He.Fa.int x i).ok K = true) : GI mg x (.int i) := by
  obtain ⟨t, e⟩ := He.int_ok KX G c
  exact ⟨_, e, t, rfl⟩
/-- a def's code object, as the head finds it -/
theorem code_of {x q : Str} {st : Stmt} {p : He.Defn} {fd : FuncData} (F : Fun K x q st (He.fAd K p) fd) : fd.code = .ref (He.cT K p).1 := by
  obtain ⟨oc, od, kV, doc, pm, an, cdv, ct, osl, rfl, lk, hcd⟩ := F.ex
  obtain ⟨c, rfl⟩ := He.codeIn_ref hcd
  have := He.codeOf_eq (c := c) lk rfl
  show Value.ref c = Value.ref (He.codeOf K p)
  rw [this]
def hcs (K : PySem.W.Frag) : List (Addr × Addr) := [He.cT K ("House", some "rooms_with")]
def hTT (K : PySem.W.Frag) : List (Addr × Str) := [((He.cT K ("House", some "rooms_with")).2, lamQ)]
set_option maxHeartbeats 0 in
theorem all_ok {f : Addr} (KX : K.In h) (G : h.Ns mainGlobals mg) (c : He.SaysX hfa hfn [] htf (callsB hrs) w h K) (hf : mg "answers" = some (.ref f)) :
    ∃ fd : FuncData, (∀ (s : Shared) (u : Value), BindsTo s fd ⟨[u], []⟩ [("calls", u)]) ∧ ∀ base : Heap, K.In base → base.Ns mainGlobals mg → (∀ p ∈ hcs K, TabB base mg p.1 p.2) → FnOk P w K mg base CX0 13 f fd ["calls"] (spMain K (hTT K)) := by
  obtain ⟨fd_Plan___init__, F_Plan___init__⟩ := c.t.d.def_ 0 (d := dd_Plan___init__) rfl
  have U_Plan___init__ : Fun K "__init__" "Plan.__init__" s_Plan___init__ _ fd_Plan___init__ := fun_of F_Plan___init__
  have b_Plan___init__ : Binds K fd_Plan___init__ ["self", "first", "length", "days", "times"] [] := F_Plan___init__.bindsN fun _ _ _ _ _ _ us hl => match us, hl with | [_, _, _, _, _], _ => rfl
  obtain ⟨fd_Plan_has_time, F_Plan_has_time⟩ := c.t.d.def_ 1 (d := dd_Plan_has_time) rfl
  have U_Plan_has_time : Fun K "has_time" "Plan.has_time" s_Plan_has_time _ fd_Plan_has_time := fun_of F_Plan_has_time
  have b_Plan_has_time : Binds K fd_Plan_has_time ["self", "which"] [] := F_Plan_has_time.bindsN fun _ _ _ _ _ _ us hl => match us, hl with | [_, _], _ => rfl
  obtain ⟨fd_Plan_has_given_up, F_Plan_has_given_up⟩ := c.t.d.def_ 2 (d := dd_Plan_has_given_up) rfl
  have U_Plan_has_given_up : Fun K "has_given_up" "Plan.has_given_up" s_Plan_has_given_up _ fd_Plan_has_given_up := fun_of F_Plan_has_given_up
  have b_Plan_has_given_up : Binds K fd_Plan_has_given_up ["self", "which"] [] := F_Plan_has_given_up.bindsN fun _ _ _ _ _ _ us hl => match us, hl with | [_, _], _ => rfl
  obtain ⟨fd_Plan_beginning, F_Plan_beginning⟩ := c.t.d.def_ 3 (d := dd_Plan_beginning) rfl
  have U_Plan_beginning : Fun K "beginning" "Plan.beginning" s_Plan_beginning _ fd_Plan_beginning := fun_of F_Plan_beginning
  have b_Plan_beginning : Binds K fd_Plan_beginning ["self", "which"] [] := F_Plan_beginning.bindsN fun _ _ _ _ _ _ us hl => match us, hl with | [_, _], _ => rfl
  obtain ⟨fd_Plan_step, F_Plan_step⟩ := c.t.d.def_ 4 (d := dd_Plan_step) rfl
  have U_Plan_step : Fun K "step" "Plan.step" s_Plan_step _ fd_Plan_step := fun_of F_Plan_step
  have b_Plan_step : Binds K fd_Plan_step ["self"] [] := F_Plan_step.bindsN fun _ _ _ _ _ _ us hl => match us, hl with | [_], _ => rfl
  obtain ⟨fd_Plan_latest_time, F_Plan_latest_time⟩ := c.t.d.def_ 5 (d := dd_Plan_latest_time) rfl
  have U_Plan_latest_time : Fun K "latest_time" "Plan.latest_time" s_Plan_latest_time _ fd_Plan_latest_time := fun_of F_Plan_latest_time
  have b_Plan_latest_time : Binds K fd_Plan_latest_time ["self", "moment"] [] := F_Plan_latest_time.bindsN fun _ _ _ _ _ _ us hl => match us, hl with | [_, _], _ => rfl
  obtain ⟨fd_Plan_has_moment, F_Plan_has_moment⟩ := c.t.d.def_ 6 (d := dd_Plan_has_moment) rfl
  have U_Plan_has_moment : Fun K "has_moment" "Plan.has_moment" s_Plan_has_moment _ fd_Plan_has_moment := fun_of F_Plan_has_moment
  have b_Plan_has_moment : Binds K fd_Plan_has_moment ["self", "moment"] [] := F_Plan_has_moment.bindsN fun _ _ _ _ _ _ us hl => match us, hl with | [_, _], _ => rfl
  obtain ⟨fd_Plan_next_beginning, F_Plan_next_beginning⟩ := c.t.d.def_ 7 (d := dd_Plan_next_beginning) rfl
  have U_Plan_next_beginning : Fun K "next_beginning" "Plan.next_beginning" s_Plan_next_beginning _ fd_Plan_next_beginning := fun_of F_Plan_next_beginning
  have b_Plan_next_beginning : Binds K fd_Plan_next_beginning ["self", "moment"] [] := F_Plan_next_beginning.bindsN fun _ _ _ _ _ _ us hl => match us, hl with | [_, _], _ => rfl
  obtain ⟨fd_Plan_minutes_had, F_Plan_minutes_had⟩ := c.t.d.def_ 8 (d := dd_Plan_minutes_had) rfl
  have U_Plan_minutes_had : Fun K "minutes_had" "Plan.minutes_had" s_Plan_minutes_had _ fd_Plan_minutes_had := fun_of F_Plan_minutes_had
  have b_Plan_minutes_had : Binds K fd_Plan_minutes_had ["self", "moment", "until"] [] := F_Plan_minutes_had.bindsN fun _ _ _ _ _ _ us hl => match us, hl with | [_, _, _], _ => rfl
  obtain ⟨fd_is_plan, F_is_plan⟩ := c.t.d.def_ 9 (d := dd_is_plan) rfl
  have U_is_plan : Fun K "is_plan" "is_plan" s_is_plan _ fd_is_plan := fun_of F_is_plan
  have b_is_plan : Binds K fd_is_plan ["first", "length", "days", "times"] [] := F_is_plan.bindsN fun _ _ _ _ _ _ us hl => match us, hl with | [_, _, _, _], _ => rfl
  obtain ⟨fd_plan_of, F_plan_of⟩ := c.t.d.def_ 10 (d := dd_plan_of) rfl
  have U_plan_of : Fun K "plan_of" "plan_of" s_plan_of _ fd_plan_of := fun_of F_plan_of
  have b_plan_of : Binds K fd_plan_of ["when"] [] := F_plan_of.bindsN fun _ _ _ _ _ _ us hl => match us, hl with | [_], _ => rfl
  obtain ⟨fd_first_meeting, F_first_meeting⟩ := c.t.d.def_ 11 (d := dd_first_meeting) rfl
  have U_first_meeting : Fun K "first_meeting" "first_meeting" s_first_meeting _ fd_first_meeting := fun_of F_first_meeting
  have b_first_meeting : Binds K fd_first_meeting ["one", "other"] [] := F_first_meeting.bindsN fun _ _ _ _ _ _ us hl => match us, hl with | [_, _], _ => rfl
  obtain ⟨fd_first_meeting_at_lead, F_first_meeting_at_lead⟩ := c.t.d.def_ 12 (d := dd_first_meeting_at_lead) rfl
  have U_first_meeting_at_lead : Fun K "first_meeting_at_lead" "first_meeting_at_lead" s_first_meeting_at_lead _ fd_first_meeting_at_lead := fun_of F_first_meeting_at_lead
  have b_first_meeting_at_lead : Binds K fd_first_meeting_at_lead ["one", "other", "lead"] [] := F_first_meeting_at_lead.bindsN fun _ _ _ _ _ _ us hl => match us, hl with | [_, _, _], _ => rfl
  obtain ⟨fd_least_match, F_least_match⟩ := c.t.d.def_ 13 (d := dd_least_match) rfl
  have U_least_match : Fun K "least_match" "least_match" s_least_match _ fd_least_match := fun_of F_least_match
  have b_least_match : Binds K fd_least_match ["step", "other_step", "shift"] [] := F_least_match.bindsN fun _ _ _ _ _ _ us hl => match us, hl with | [_, _, _], _ => rfl
  obtain ⟨fd_greatest_divisor, F_greatest_divisor⟩ := c.t.d.def_ 14 (d := dd_greatest_divisor) rfl
  have U_greatest_divisor : Fun K "greatest_divisor" "greatest_divisor" s_greatest_divisor _ fd_greatest_divisor := fun_of F_greatest_divisor
  have b_greatest_divisor : Binds K fd_greatest_divisor ["a", "b"] [] := F_greatest_divisor.bindsN fun _ _ _ _ _ _ us hl => match us, hl with | [_, _], _ => rfl
  obtain ⟨fd_Booking___init__, F_Booking___init__⟩ := c.t.d.def_ 15 (d := dd_Booking___init__) rfl
  have U_Booking___init__ : Fun K "__init__" "Booking.__init__" s_Booking___init__ _ fd_Booking___init__ := fun_of F_Booking___init__
  have b_Booking___init__ : Binds K fd_Booking___init__ ["self", "number", "whom", "room", "plan", "waits"] [] := F_Booking___init__.bindsN fun _ _ _ _ _ _ us hl => match us, hl with | [_, _, _, _, _, _], _ => rfl
  obtain ⟨fd_House___init__, F_House___init__⟩ := c.t.d.def_ 16 (d := dd_House___init__) rfl
  have U_House___init__ : Fun K "__init__" "House.__init__" s_House___init__ _ fd_House___init__ := fun_of F_House___init__
  have b_House___init__ : Binds K fd_House___init__ ["self"] [] := F_House___init__.bindsN fun _ _ _ _ _ _ us hl => match us, hl with | [_], _ => rfl
  obtain ⟨fd_House_has_room, F_House_has_room⟩ := c.t.d.def_ 17 (d := dd_House_has_room) rfl
  have U_House_has_room : Fun K "has_room" "House.has_room" s_House_has_room _ fd_House_has_room := fun_of F_House_has_room
  have b_House_has_room : Binds K fd_House_has_room ["self", "room"] [] := F_House_has_room.bindsN fun _ _ _ _ _ _ us hl => match us, hl with | [_, _], _ => rfl
  obtain ⟨fd_House_has_all_rooms, F_House_has_all_rooms⟩ := c.t.d.def_ 18 (d := dd_House_has_all_rooms) rfl
  have U_House_has_all_rooms : Fun K "has_all_rooms" "House.has_all_rooms" s_House_has_all_rooms _ fd_House_has_all_rooms := fun_of F_House_has_all_rooms
  have b_House_has_all_rooms : Binds K fd_House_has_all_rooms ["self"] [] := F_House_has_all_rooms.bindsN fun _ _ _ _ _ _ us hl => match us, hl with | [_], _ => rfl
  obtain ⟨fd_House_add_room, F_House_add_room⟩ := c.t.d.def_ 19 (d := dd_House_add_room) rfl
  have U_House_add_room : Fun K "add_room" "House.add_room" s_House_add_room _ fd_House_add_room := fun_of F_House_add_room
  have b_House_add_room : Binds K fd_House_add_room ["self", "seats"] [] := F_House_add_room.bindsN fun _ _ _ _ _ _ us hl => match us, hl with | [_, _], _ => rfl
  obtain ⟨fd_House_rooms_with, F_House_rooms_with⟩ := c.t.d.def_ 20 (d := dd_House_rooms_with) rfl
  have U_House_rooms_with : Fun K "rooms_with" "House.rooms_with" s_House_rooms_with _ fd_House_rooms_with := fun_of F_House_rooms_with
  have b_House_rooms_with : Binds K fd_House_rooms_with ["self", "seats"] [] := F_House_rooms_with.bindsN fun _ _ _ _ _ _ us hl => match us, hl with | [_, _], _ => rfl
  obtain ⟨fd_House_is_full, F_House_is_full⟩ := c.t.d.def_ 21 (d := dd_House_is_full) rfl
  have U_House_is_full : Fun K "is_full" "House.is_full" s_House_is_full _ fd_House_is_full := fun_of F_House_is_full
  have b_House_is_full : Binds K fd_House_is_full ["self"] [] := F_House_is_full.bindsN fun _ _ _ _ _ _ us hl => match us, hl with | [_], _ => rfl
  obtain ⟨fd_House_find_booked, F_House_find_booked⟩ := c.t.d.def_ 22 (d := dd_House_find_booked) rfl
  have U_House_find_booked : Fun K "find_booked" "House.find_booked" s_House_find_booked _ fd_House_find_booked := fun_of F_House_find_booked
  have b_House_find_booked : Binds K fd_House_find_booked ["self", "number"] [] := F_House_find_booked.bindsN fun _ _ _ _ _ _ us hl => match us, hl with | [_, _], _ => rfl
  obtain ⟨fd_House_booked_in, F_House_booked_in⟩ := c.t.d.def_ 23 (d := dd_House_booked_in) rfl
  have U_House_booked_in : Fun K "booked_in" "House.booked_in" s_House_booked_in _ fd_House_booked_in := fun_of F_House_booked_in
  have b_House_booked_in : Binds K fd_House_booked_in ["self", "room"] [] := F_House_booked_in.bindsN fun _ _ _ _ _ _ us hl => match us, hl with | [_, _], _ => rfl
  obtain ⟨fd_House_waiting, F_House_waiting⟩ := c.t.d.def_ 24 (d := dd_House_waiting) rfl
  have U_House_waiting : Fun K "waiting" "House.waiting" s_House_waiting _ fd_House_waiting := fun_of F_House_waiting
  have b_House_waiting : Binds K fd_House_waiting ["self"] [] := F_House_waiting.bindsN fun _ _ _ _ _ _ us hl => match us, hl with | [_], _ => rfl
  obtain ⟨fd_House_who_has, F_House_who_has⟩ := c.t.d.def_ 25 (d := dd_House_who_has) rfl
  have U_House_who_has : Fun K "who_has" "House.who_has" s_House_who_has _ fd_House_who_has := fun_of F_House_who_has
  have b_House_who_has : Binds K fd_House_who_has ["self", "room", "moment"] [] := F_House_who_has.bindsN fun _ _ _ _ _ _ us hl => match us, hl with | [_, _, _], _ => rfl
  obtain ⟨fd_House_next_time, F_House_next_time⟩ := c.t.d.def_ 26 (d := dd_House_next_time) rfl
  have U_House_next_time : Fun K "next_time" "House.next_time" s_House_next_time _ fd_House_next_time := fun_of F_House_next_time
  have b_House_next_time : Binds K fd_House_next_time ["self", "room", "moment"] [] := F_House_next_time.bindsN fun _ _ _ _ _ _ us hl => match us, hl with | [_, _, _], _ => rfl
  obtain ⟨fd_House_minutes_used, F_House_minutes_used⟩ := c.t.d.def_ 27 (d := dd_House_minutes_used) rfl
  have U_House_minutes_used : Fun K "minutes_used" "House.minutes_used" s_House_minutes_used _ fd_House_minutes_used := fun_of F_House_minutes_used
  have b_House_minutes_used : Binds K fd_House_minutes_used ["self", "room", "moment", "until"] [] := F_House_minutes_used.bindsN fun _ _ _ _ _ _ us hl => match us, hl with | [_, _, _, _], _ => rfl
  obtain ⟨fd_House_meetings, F_House_meetings⟩ := c.t.d.def_ 28 (d := dd_House_meetings) rfl
  have U_House_meetings : Fun K "meetings" "House.meetings" s_House_meetings _ fd_House_meetings := fun_of F_House_meetings
  have b_House_meetings : Binds K fd_House_meetings ["self", "room", "plan"] [] := F_House_meetings.bindsN fun _ _ _ _ _ _ us hl => match us, hl with | [_, _, _], _ => rfl
  obtain ⟨fd_House_fits, F_House_fits⟩ := c.t.d.def_ 29 (d := dd_House_fits) rfl
  have U_House_fits : Fun K "fits" "House.fits" s_House_fits _ fd_House_fits := fun_of F_House_fits
  have b_House_fits : Binds K fd_House_fits ["self", "room", "plan"] [] := F_House_fits.bindsN fun _ _ _ _ _ _ us hl => match us, hl with | [_, _, _], _ => rfl
  obtain ⟨fd_House_hold, F_House_hold⟩ := c.t.d.def_ 30 (d := dd_House_hold) rfl
  have U_House_hold : Fun K "hold" "House.hold" s_House_hold _ fd_House_hold := fun_of F_House_hold
  have b_House_hold : Binds K fd_House_hold ["self", "whom", "room", "plan", "waits"] [] := F_House_hold.bindsN fun _ _ _ _ _ _ us hl => match us, hl with | [_, _, _, _, _], _ => rfl
  obtain ⟨fd_House_let_go, F_House_let_go⟩ := c.t.d.def_ 31 (d := dd_House_let_go) rfl
  have U_House_let_go : Fun K "let_go" "House.let_go" s_House_let_go _ fd_House_let_go := fun_of F_House_let_go
  have b_House_let_go : Binds K fd_House_let_go ["self", "number"] [] := F_House_let_go.bindsN fun _ _ _ _ _ _ us hl => match us, hl with | [_, _], _ => rfl
  obtain ⟨fd_House_serve, F_House_serve⟩ := c.t.d.def_ 32 (d := dd_House_serve) rfl
  have U_House_serve : Fun K "serve" "House.serve" s_House_serve _ fd_House_serve := fun_of F_House_serve
  have b_House_serve : Binds K fd_House_serve ["self"] [] := F_House_serve.bindsN fun _ _ _ _ _ _ us hl => match us, hl with | [_], _ => rfl
  obtain ⟨fd_answer_room, F_answer_room⟩ := c.t.d.def_ 33 (d := dd_answer_room) rfl
  have U_answer_room : Fun K "answer_room" "answer_room" s_answer_room _ fd_answer_room := fun_of F_answer_room
  have b_answer_room : Binds K fd_answer_room ["house", "numbers"] [] := F_answer_room.bindsN fun _ _ _ _ _ _ us hl => match us, hl with | [_, _], _ => rfl
  obtain ⟨fd_answer_book, F_answer_book⟩ := c.t.d.def_ 34 (d := dd_answer_book) rfl
  have U_answer_book : Fun K "answer_book" "answer_book" s_answer_book _ fd_answer_book := fun_of F_answer_book
  have b_answer_book : Binds K fd_answer_book ["house", "numbers"] [] := F_answer_book.bindsN fun _ _ _ _ _ _ us hl => match us, hl with | [_, _], _ => rfl
  obtain ⟨fd_answer_would, F_answer_would⟩ := c.t.d.def_ 35 (d := dd_answer_would) rfl
  have U_answer_would : Fun K "answer_would" "answer_would" s_answer_would _ fd_answer_would := fun_of F_answer_would
  have b_answer_would : Binds K fd_answer_would ["house", "numbers"] [] := F_answer_would.bindsN fun _ _ _ _ _ _ us hl => match us, hl with | [_, _], _ => rfl
  obtain ⟨fd_answer_any, F_answer_any⟩ := c.t.d.def_ 36 (d := dd_answer_any) rfl
  have U_answer_any : Fun K "answer_any" "answer_any" s_answer_any _ fd_answer_any := fun_of F_answer_any
  have b_answer_any : Binds K fd_answer_any ["house", "numbers"] [] := F_answer_any.bindsN fun _ _ _ _ _ _ us hl => match us, hl with | [_, _], _ => rfl
  obtain ⟨fd_answer_wait, F_answer_wait⟩ := c.t.d.def_ 37 (d := dd_answer_wait) rfl
  have U_answer_wait : Fun K "answer_wait" "answer_wait" s_answer_wait _ fd_answer_wait := fun_of F_answer_wait
  have b_answer_wait : Binds K fd_answer_wait ["house", "numbers"] [] := F_answer_wait.bindsN fun _ _ _ _ _ _ us hl => match us, hl with | [_, _], _ => rfl
  obtain ⟨fd_answer_served, F_answer_served⟩ := c.t.d.def_ 38 (d := dd_answer_served) rfl
  have U_answer_served : Fun K "answer_served" "answer_served" s_answer_served _ fd_answer_served := fun_of F_answer_served
  have b_answer_served : Binds K fd_answer_served ["house"] [] := F_answer_served.bindsN fun _ _ _ _ _ _ us hl => match us, hl with | [_], _ => rfl
  obtain ⟨fd_answer_end, F_answer_end⟩ := c.t.d.def_ 39 (d := dd_answer_end) rfl
  have U_answer_end : Fun K "answer_end" "answer_end" s_answer_end _ fd_answer_end := fun_of F_answer_end
  have b_answer_end : Binds K fd_answer_end ["house", "numbers"] [] := F_answer_end.bindsN fun _ _ _ _ _ _ us hl => match us, hl with | [_, _], _ => rfl
  obtain ⟨fd_answer_skip, F_answer_skip⟩ := c.t.d.def_ 40 (d := dd_answer_skip) rfl
  have U_answer_skip : Fun K "answer_skip" "answer_skip" s_answer_skip _ fd_answer_skip := fun_of F_answer_skip
  have b_answer_skip : Binds K fd_answer_skip ["house", "numbers"] [] := F_answer_skip.bindsN fun _ _ _ _ _ _ us hl => match us, hl with | [_, _], _ => rfl
  obtain ⟨fd_answer_cut, F_answer_cut⟩ := c.t.d.def_ 41 (d := dd_answer_cut) rfl
  have U_answer_cut : Fun K "answer_cut" "answer_cut" s_answer_cut _ fd_answer_cut := fun_of F_answer_cut
  have b_answer_cut : Binds K fd_answer_cut ["house", "numbers"] [] := F_answer_cut.bindsN fun _ _ _ _ _ _ us hl => match us, hl with | [_, _], _ => rfl
  obtain ⟨fd_answer_at, F_answer_at⟩ := c.t.d.def_ 42 (d := dd_answer_at) rfl
  have U_answer_at : Fun K "answer_at" "answer_at" s_answer_at _ fd_answer_at := fun_of F_answer_at
  have b_answer_at : Binds K fd_answer_at ["house", "numbers"] [] := F_answer_at.bindsN fun _ _ _ _ _ _ us hl => match us, hl with | [_, _], _ => rfl
  obtain ⟨fd_answer_next, F_answer_next⟩ := c.t.d.def_ 43 (d := dd_answer_next) rfl
  have U_answer_next : Fun K "answer_next" "answer_next" s_answer_next _ fd_answer_next := fun_of F_answer_next
  have b_answer_next : Binds K fd_answer_next ["house", "numbers"] [] := F_answer_next.bindsN fun _ _ _ _ _ _ us hl => match us, hl with | [_, _], _ => rfl
  obtain ⟨fd_answer_free, F_answer_free⟩ := c.t.d.def_ 44 (d := dd_answer_free) rfl
  have U_answer_free : Fun K "answer_free" "answer_free" s_answer_free _ fd_answer_free := fun_of F_answer_free
  have b_answer_free : Binds K fd_answer_free ["house", "numbers"] [] := F_answer_free.bindsN fun _ _ _ _ _ _ us hl => match us, hl with | [_, _], _ => rfl
  obtain ⟨fd_answer_used, F_answer_used⟩ := c.t.d.def_ 45 (d := dd_answer_used) rfl
  have U_answer_used : Fun K "answer_used" "answer_used" s_answer_used _ fd_answer_used := fun_of F_answer_used
  have b_answer_used : Binds K fd_answer_used ["house", "numbers"] [] := F_answer_used.bindsN fun _ _ _ _ _ _ us hl => match us, hl with | [_, _], _ => rfl
  obtain ⟨fd_answer_tell, F_answer_tell⟩ := c.t.d.def_ 46 (d := dd_answer_tell) rfl
  have U_answer_tell : Fun K "answer_tell" "answer_tell" s_answer_tell _ fd_answer_tell := fun_of F_answer_tell
  have b_answer_tell : Binds K fd_answer_tell ["house", "numbers"] [] := F_answer_tell.bindsN fun _ _ _ _ _ _ us hl => match us, hl with | [_, _], _ => rfl
  obtain ⟨fd_answer_queue, F_answer_queue⟩ := c.t.d.def_ 47 (d := dd_answer_queue) rfl
  have U_answer_queue : Fun K "answer_queue" "answer_queue" s_answer_queue _ fd_answer_queue := fun_of F_answer_queue
  have b_answer_queue : Binds K fd_answer_queue ["house", "numbers"] [] := F_answer_queue.bindsN fun _ _ _ _ _ _ us hl => match us, hl with | [_, _], _ => rfl
  obtain ⟨fd_answers, F_answers⟩ := c.t.d.def_ 48 (d := dd_answers) rfl
  have U_answers : Fun K "answers" "answers" s_answers _ fd_answers := fun_of F_answers
  have b_answers : Binds K fd_answers ["calls"] [] := F_answers.bindsN fun _ _ _ _ _ _ us hl => match us, hl with | [_], _ => rfl
  have fi_DAY : GI mg "DAY" (.int (1440)) := gi_of KX G (c.t.d.fact 0 (f := .int "DAY" (1440)) rfl)
  have fi_MOST_FIRST : GI mg "MOST_FIRST" (.int (1000000)) := gi_of KX G (c.t.d.fact 1 (f := .int "MOST_FIRST" (1000000)) rfl)
  have fi_MOST_LENGTH : GI mg "MOST_LENGTH" (.int (1440)) := gi_of KX G (c.t.d.fact 2 (f := .int "MOST_LENGTH" (1440)) rfl)
  have fi_MOST_DAYS : GI mg "MOST_DAYS" (.int (60)) := gi_of KX G (c.t.d.fact 3 (f := .int "MOST_DAYS" (60)) rfl)
  have fi_MOST_TIMES : GI mg "MOST_TIMES" (.int (500)) := gi_of KX G (c.t.d.fact 4 (f := .int "MOST_TIMES" (500)) rfl)
  have fi_FOR_EVER : GI mg "FOR_EVER" (.int (0)) := gi_of KX G (c.t.d.fact 5 (f := .int "FOR_EVER" (0)) rfl)
  have fg_Plan : mg "Plan" = some (.ref (He.ga K "Plan")) := He.glo_ok KX G (c.t.d.fact 6 (f := .glo "Plan") rfl)
  have fc_Plan : Cls K (He.ga K "Plan") := He.cls_ok (c.t.d.fact 7 (f := .cls "Plan") rfl)
  have fm_Plan : Mk K (He.ga K "Plan") (He.ma K (He.ga K "Plan") "__init__") := He.mkr_ok (c.t.d.fact 8 (f := .mkr "Plan") rfl)
  have fn_Plan_first : NoAttr K (He.ga K "Plan") "first" := He.noat_ok (c.t.d.fact 9 (f := .noat "Plan" "first") rfl)
  have fn_Plan_length : NoAttr K (He.ga K "Plan") "length" := He.noat_ok (c.t.d.fact 10 (f := .noat "Plan" "length") rfl)
  have fn_Plan_days : NoAttr K (He.ga K "Plan") "days" := He.noat_ok (c.t.d.fact 11 (f := .noat "Plan" "days") rfl)
  have fn_Plan_times : NoAttr K (He.ga K "Plan") "times" := He.noat_ok (c.t.d.fact 12 (f := .noat "Plan" "times") rfl)
  have fn_Plan_given_up : NoAttr K (He.ga K "Plan") "given_up" := He.noat_ok (c.t.d.fact 13 (f := .noat "Plan" "given_up") rfl)
  have fe_Plan_has_time : Meth K (He.ga K "Plan") "has_time" (He.ma K (He.ga K "Plan") "has_time") := He.meth_ok (c.t.d.fact 14 (f := .meth "Plan" "has_time") rfl)
  have fe_Plan_has_given_up : Meth K (He.ga K "Plan") "has_given_up" (He.ma K (He.ga K "Plan") "has_given_up") := He.meth_ok (c.t.d.fact 15 (f := .meth "Plan" "has_given_up") rfl)
  have fe_Plan_beginning : Meth K (He.ga K "Plan") "beginning" (He.ma K (He.ga K "Plan") "beginning") := He.meth_ok (c.t.d.fact 16 (f := .meth "Plan" "beginning") rfl)
  have fe_Plan_step : Meth K (He.ga K "Plan") "step" (He.ma K (He.ga K "Plan") "step") := He.meth_ok (c.t.d.fact 17 (f := .meth "Plan" "step") rfl)
  have fe_Plan_latest_time : Meth K (He.ga K "Plan") "latest_time" (He.ma K (He.ga K "Plan") "latest_time") := He.meth_ok (c.t.d.fact 18 (f := .meth "Plan" "latest_time") rfl)
  have fe_Plan_has_moment : Meth K (He.ga K "Plan") "has_moment" (He.ma K (He.ga K "Plan") "has_moment") := He.meth_ok (c.t.d.fact 19 (f := .meth "Plan" "has_moment") rfl)
  have fe_Plan_next_beginning : Meth K (He.ga K "Plan") "next_beginning" (He.ma K (He.ga K "Plan") "next_beginning") := He.meth_ok (c.t.d.fact 20 (f := .meth "Plan" "next_beginning") rfl)
  have fe_Plan_minutes_had : Meth K (He.ga K "Plan") "minutes_had" (He.ma K (He.ga K "Plan") "minutes_had") := He.meth_ok (c.t.d.fact 21 (f := .meth "Plan" "minutes_had") rfl)
  have fg_is_plan : mg "is_plan" = some (.ref (He.ga K "is_plan")) := He.glo_ok KX G (c.t.d.fact 22 (f := .glo "is_plan") rfl)
  have fg_plan_of : mg "plan_of" = some (.ref (He.ga K "plan_of")) := He.glo_ok KX G (c.t.d.fact 23 (f := .glo "plan_of") rfl)
  have fg_first_meeting : mg "first_meeting" = some (.ref (He.ga K "first_meeting")) := He.glo_ok KX G (c.t.d.fact 24 (f := .glo "first_meeting") rfl)
  have fg_first_meeting_at_lead : mg "first_meeting_at_lead" = some (.ref (He.ga K "first_meeting_at_lead")) := He.glo_ok KX G (c.t.d.fact 25 (f := .glo "first_meeting_at_lead") rfl)
  have fg_least_match : mg "least_match" = some (.ref (He.ga K "least_match")) := He.glo_ok KX G (c.t.d.fact 26 (f := .glo "least_match") rfl)
  have fg_greatest_divisor : mg "greatest_divisor" = some (.ref (He.ga K "greatest_divisor")) := He.glo_ok KX G (c.t.d.fact 27 (f := .glo "greatest_divisor") rfl)
  have fi_MOST_ROOMS : GI mg "MOST_ROOMS" (.int (5)) := gi_of KX G (c.t.d.fact 28 (f := .int "MOST_ROOMS" (5)) rfl)
  have fi_MOST_HELD : GI mg "MOST_HELD" (.int (24)) := gi_of KX G (c.t.d.fact 29 (f := .int "MOST_HELD" (24)) rfl)
  have fg_Booking : mg "Booking" = some (.ref (He.ga K "Booking")) := He.glo_ok KX G (c.t.d.fact 30 (f := .glo "Booking") rfl)
  have fc_Booking : Cls K (He.ga K "Booking") := He.cls_ok (c.t.d.fact 31 (f := .cls "Booking") rfl)
  have fm_Booking : Mk K (He.ga K "Booking") (He.ma K (He.ga K "Booking") "__init__") := He.mkr_ok (c.t.d.fact 32 (f := .mkr "Booking") rfl)
  have fn_Booking_number : NoAttr K (He.ga K "Booking") "number" := He.noat_ok (c.t.d.fact 33 (f := .noat "Booking" "number") rfl)
  have fn_Booking_whom : NoAttr K (He.ga K "Booking") "whom" := He.noat_ok (c.t.d.fact 34 (f := .noat "Booking" "whom") rfl)
  have fn_Booking_room : NoAttr K (He.ga K "Booking") "room" := He.noat_ok (c.t.d.fact 35 (f := .noat "Booking" "room") rfl)
  have fn_Booking_plan : NoAttr K (He.ga K "Booking") "plan" := He.noat_ok (c.t.d.fact 36 (f := .noat "Booking" "plan") rfl)
  have fn_Booking_waits : NoAttr K (He.ga K "Booking") "waits" := He.noat_ok (c.t.d.fact 37 (f := .noat "Booking" "waits") rfl)
  have fg_House : mg "House" = some (.ref (He.ga K "House")) := He.glo_ok KX G (c.t.d.fact 38 (f := .glo "House") rfl)
  have fc_House : Cls K (He.ga K "House") := He.cls_ok (c.t.d.fact 39 (f := .cls "House") rfl)
  have fm_House : Mk K (He.ga K "House") (He.ma K (He.ga K "House") "__init__") := He.mkr_ok (c.t.d.fact 40 (f := .mkr "House") rfl)
  have fn_House_seats : NoAttr K (He.ga K "House") "seats" := He.noat_ok (c.t.d.fact 41 (f := .noat "House" "seats") rfl)
  have fn_House_held : NoAttr K (He.ga K "House") "held" := He.noat_ok (c.t.d.fact 42 (f := .noat "House" "held") rfl)
  have fn_House_came : NoAttr K (He.ga K "House") "came" := He.noat_ok (c.t.d.fact 43 (f := .noat "House" "came") rfl)
  have fe_House_has_room : Meth K (He.ga K "House") "has_room" (He.ma K (He.ga K "House") "has_room") := He.meth_ok (c.t.d.fact 44 (f := .meth "House" "has_room") rfl)
  have fe_House_has_all_rooms : Meth K (He.ga K "House") "has_all_rooms" (He.ma K (He.ga K "House") "has_all_rooms") := He.meth_ok (c.t.d.fact 45 (f := .meth "House" "has_all_rooms") rfl)
  have fe_House_add_room : Meth K (He.ga K "House") "add_room" (He.ma K (He.ga K "House") "add_room") := He.meth_ok (c.t.d.fact 46 (f := .meth "House" "add_room") rfl)
  have fe_House_rooms_with : Meth K (He.ga K "House") "rooms_with" (He.ma K (He.ga K "House") "rooms_with") := He.meth_ok (c.t.d.fact 47 (f := .meth "House" "rooms_with") rfl)
  have fe_House_is_full : Meth K (He.ga K "House") "is_full" (He.ma K (He.ga K "House") "is_full") := He.meth_ok (c.t.d.fact 48 (f := .meth "House" "is_full") rfl)
  have fe_House_find_booked : Meth K (He.ga K "House") "find_booked" (He.ma K (He.ga K "House") "find_booked") := He.meth_ok (c.t.d.fact 49 (f := .meth "House" "find_booked") rfl)
  have fe_House_booked_in : Meth K (He.ga K "House") "booked_in" (He.ma K (He.ga K "House") "booked_in") := He.meth_ok (c.t.d.fact 50 (f := .meth "House" "booked_in") rfl)
  have fe_House_waiting : Meth K (He.ga K "House") "waiting" (He.ma K (He.ga K "House") "waiting") := He.meth_ok (c.t.d.fact 51 (f := .meth "House" "waiting") rfl)
  have fe_House_who_has : Meth K (He.ga K "House") "who_has" (He.ma K (He.ga K "House") "who_has") := He.meth_ok (c.t.d.fact 52 (f := .meth "House" "who_has") rfl)
  have fe_House_next_time : Meth K (He.ga K "House") "next_time" (He.ma K (He.ga K "House") "next_time") := He.meth_ok (c.t.d.fact 53 (f := .meth "House" "next_time") rfl)
  have fe_House_minutes_used : Meth K (He.ga K "House") "minutes_used" (He.ma K (He.ga K "House") "minutes_used") := He.meth_ok (c.t.d.fact 54 (f := .meth "House" "minutes_used") rfl)
  have fe_House_meetings : Meth K (He.ga K "House") "meetings" (He.ma K (He.ga K "House") "meetings") := He.meth_ok (c.t.d.fact 55 (f := .meth "House" "meetings") rfl)
  have fe_House_fits : Meth K (He.ga K "House") "fits" (He.ma K (He.ga K "House") "fits") := He.meth_ok (c.t.d.fact 56 (f := .meth "House" "fits") rfl)
  have fe_House_hold : Meth K (He.ga K "House") "hold" (He.ma K (He.ga K "House") "hold") := He.meth_ok (c.t.d.fact 57 (f := .meth "House" "hold") rfl)
  have fe_House_let_go : Meth K (He.ga K "House") "let_go" (He.ma K (He.ga K "House") "let_go") := He.meth_ok (c.t.d.fact 58 (f := .meth "House" "let_go") rfl)
  have fe_House_serve : Meth K (He.ga K "House") "serve" (He.ma K (He.ga K "House") "serve") := He.meth_ok (c.t.d.fact 59 (f := .meth "House" "serve") rfl)
  have fi_MOST_SEATS : GI mg "MOST_SEATS" (.int (500)) := gi_of KX G (c.t.d.fact 60 (f := .int "MOST_SEATS" (500)) rfl)
  have fi_MOST_WHOM : GI mg "MOST_WHOM" (.int (99)) := gi_of KX G (c.t.d.fact 61 (f := .int "MOST_WHOM" (99)) rfl)
  have fi_MOST_WHICH : GI mg "MOST_WHICH" (.int (9999)) := gi_of KX G (c.t.d.fact 62 (f := .int "MOST_WHICH" (9999)) rfl)
  have fi_MOST_GIVEN_UP : GI mg "MOST_GIVEN_UP" (.int (5)) := gi_of KX G (c.t.d.fact 63 (f := .int "MOST_GIVEN_UP" (5)) rfl)
  have fi_MOST_STRETCH : GI mg "MOST_STRETCH" (.int (200000)) := gi_of KX G (c.t.d.fact 64 (f := .int "MOST_STRETCH" (200000)) rfl)
  have fi_NOT_AS_TOLD : GI mg "NOT_AS_TOLD" (.int (-1)) := gi_of KX G (c.t.d.fact 65 (f := .int "NOT_AS_TOLD" (-1)) rfl)
  have fi_NO_SUCH_TIME : GI mg "NO_SUCH_TIME" (.int (-2)) := gi_of KX G (c.t.d.fact 66 (f := .int "NO_SUCH_TIME" (-2)) rfl)
  have fi_NO_ROOM : GI mg "NO_ROOM" (.int (-3)) := gi_of KX G (c.t.d.fact 67 (f := .int "NO_ROOM" (-3)) rfl)
  have fi_NOT_HELD : GI mg "NOT_HELD" (.int (-4)) := gi_of KX G (c.t.d.fact 68 (f := .int "NOT_HELD" (-4)) rfl)
  have fi_TOO_MANY : GI mg "TOO_MANY" (.int (-5)) := gi_of KX G (c.t.d.fact 69 (f := .int "TOO_MANY" (-5)) rfl)
  have fi_NONE_TO_COME : GI mg "NONE_TO_COME" (.int (-6)) := gi_of KX G (c.t.d.fact 70 (f := .int "NONE_TO_COME" (-6)) rfl)
  have fi_NO_FIT : GI mg "NO_FIT" (.int (-7)) := gi_of KX G (c.t.d.fact 71 (f := .int "NO_FIT" (-7)) rfl)
  have fg_answer_room : mg "answer_room" = some (.ref (He.ga K "answer_room")) := He.glo_ok KX G (c.t.d.fact 72 (f := .glo "answer_room") rfl)
  have fg_answer_book : mg "answer_book" = some (.ref (He.ga K "answer_book")) := He.glo_ok KX G (c.t.d.fact 73 (f := .glo "answer_book") rfl)
  have fg_answer_would : mg "answer_would" = some (.ref (He.ga K "answer_would")) := He.glo_ok KX G (c.t.d.fact 74 (f := .glo "answer_would") rfl)
  have fg_answer_any : mg "answer_any" = some (.ref (He.ga K "answer_any")) := He.glo_ok KX G (c.t.d.fact 75 (f := .glo "answer_any") rfl)
  have fg_answer_wait : mg "answer_wait" = some (.ref (He.ga K "answer_wait")) := He.glo_ok KX G (c.t.d.fact 76 (f := .glo "answer_wait") rfl)
  have fg_answer_served : mg "answer_served" = some (.ref (He.ga K "answer_served")) := He.glo_ok KX G (c.t.d.fact 77 (f := .glo "answer_served") rfl)
  have fg_answer_end : mg "answer_end" = some (.ref (He.ga K "answer_end")) := He.glo_ok KX G (c.t.d.fact 78 (f := .glo "answer_end") rfl)
  have fg_answer_skip : mg "answer_skip" = some (.ref (He.ga K "answer_skip")) := He.glo_ok KX G (c.t.d.fact 79 (f := .glo "answer_skip") rfl)
  have fg_answer_cut : mg "answer_cut" = some (.ref (He.ga K "answer_cut")) := He.glo_ok KX G (c.t.d.fact 80 (f := .glo "answer_cut") rfl)
  have fg_answer_at : mg "answer_at" = some (.ref (He.ga K "answer_at")) := He.glo_ok KX G (c.t.d.fact 81 (f := .glo "answer_at") rfl)
  have fg_answer_next : mg "answer_next" = some (.ref (He.ga K "answer_next")) := He.glo_ok KX G (c.t.d.fact 82 (f := .glo "answer_next") rfl)
  have fg_answer_free : mg "answer_free" = some (.ref (He.ga K "answer_free")) := He.glo_ok KX G (c.t.d.fact 83 (f := .glo "answer_free") rfl)
  have fg_answer_used : mg "answer_used" = some (.ref (He.ga K "answer_used")) := He.glo_ok KX G (c.t.d.fact 84 (f := .glo "answer_used") rfl)
  have fg_answer_tell : mg "answer_tell" = some (.ref (He.ga K "answer_tell")) := He.glo_ok KX G (c.t.d.fact 85 (f := .glo "answer_tell") rfl)
  have fg_answer_queue : mg "answer_queue" = some (.ref (He.ga K "answer_queue")) := He.glo_ok KX G (c.t.d.fact 86 (f := .glo "answer_queue") rfl)
  have fg_CALLS : mg "CALLS" = some (.ref (He.ga K "CALLS")) := He.glo_ok KX G (c.t.d.fact 87 (f := .glo "CALLS") rfl)
  have fg_answers : mg "answers" = some (.ref (He.ga K "answers")) := He.glo_ok KX G (c.t.d.fact 88 (f := .glo "answers") rfl)
  have fb_len : mg "len" = none := He.free_ok KX G (c.t.d.fact 89 (f := .free "len") rfl)
  have fb_range : mg "range" = none := He.free_ok KX G (c.t.d.fact 90 (f := .free "range") rfl)
  have fb_sorted : mg "sorted" = none := He.free_ok KX G (c.t.d.fact 91 (f := .free "sorted") rfl)
  have fb_min : mg "min" = none := He.free_ok KX G (c.t.d.fact 92 (f := .free "min") rfl)
  have fb_max : mg "max" = none := He.free_ok KX G (c.t.d.fact 93 (f := .free "max") rfl)
  have fb_sum : mg "sum" = none := He.free_ok KX G (c.t.d.fact 94 (f := .free "sum") rfl)
  have e := hf.symm.trans fg_answers
  cases e
  have bA := FunD.bindsA (ps := ["calls"]) F_answers fun _ _ _ _ _ _ us hl => match us, hl with | [_], _ => rfl
  refine ⟨fd_answers, fun s u => bA s [u] rfl, fun base KB GB TB => ?_⟩
  have TP : TxP K mg (He.ga K "Plan") := ⟨fc_Plan, fn_Plan_first, fn_Plan_length, fn_Plan_days, fn_Plan_times, fn_Plan_given_up, fi_DAY, fi_MOST_FIRST, fi_MOST_LENGTH, fi_MOST_DAYS, fi_MOST_TIMES, fi_FOR_EVER, fb_max, fb_min, fb_range⟩
  have TH : TxH K mg (He.ga K "House") (He.ga K "Booking") := ⟨fc_Booking, fn_Booking_number, fn_Booking_whom, fn_Booking_room, fn_Booking_plan, fn_Booking_waits, fc_House, fn_House_seats, fn_House_held, fn_House_came, fi_MOST_ROOMS, fi_MOST_HELD, fb_len, fb_range, fb_sorted, fb_min, fb_sum⟩
  have TA : TxA mg := ⟨fi_MOST_SEATS, fi_MOST_WHOM, fi_MOST_WHICH, fi_MOST_GIVEN_UP, fi_NOT_AS_TOLD, fi_NO_SUCH_TIME, fi_NO_ROOM, fi_NOT_HELD, fi_TOO_MANY, fi_NO_FIT, fi_MOST_STRETCH, fi_MOST_TIMES, fi_NONE_TO_COME, fb_len, fb_min⟩
  obtain ⟨as, hcalls⟩ := callsB_ok c.more
  have TM : TxM K mg (He.ga K "CALLS") hrs as := ⟨⟨_, fg_CALLS, rfl⟩, hcalls, fb_len⟩
  -- plans
  have d_Plan : DC P w K mg base "Plan" (He.ga K "Plan") 1 ["self", "first", "length", "days", "times"] (spPInit (He.ga K "Plan")) := ⟨⟨_, _, ok_Plan___init__ U_Plan___init__ TP, b_Plan___init__, fm_Plan, fg_Plan⟩⟩
  have DP : DPlan P w K mg base (He.ga K "Plan") := ⟨⟨⟨_, _, ok_Plan_has_time U_Plan_has_time TP, b_Plan_has_time, fe_Plan_has_time⟩, fc_Plan⟩, ⟨⟨_, _, ok_Plan_has_given_up U_Plan_has_given_up TP, b_Plan_has_given_up, fe_Plan_has_given_up⟩, fc_Plan⟩,
    ⟨⟨_, _, ok_Plan_beginning U_Plan_beginning TP, b_Plan_beginning, fe_Plan_beginning⟩, fc_Plan⟩, ⟨⟨_, _, ok_Plan_step U_Plan_step TP, b_Plan_step, fe_Plan_step⟩, fc_Plan⟩⟩
  have d_latest : DM P w K mg base (He.ga K "Plan") "latest_time" 2 ["self", "moment"] (spLatest (He.ga K "Plan")) := ⟨⟨_, _, ok_Plan_latest_time U_Plan_latest_time TP DP, b_Plan_latest_time, fe_Plan_latest_time⟩, fc_Plan⟩
  have DP2 : DPlan2 P w K mg base (He.ga K "Plan") := ⟨⟨⟨_, _, ok_Plan_has_moment U_Plan_has_moment TP DP d_latest, b_Plan_has_moment, fe_Plan_has_moment⟩, fc_Plan⟩, ⟨⟨_, _, ok_Plan_next_beginning U_Plan_next_beginning TP DP d_latest, b_Plan_next_beginning, fe_Plan_next_beginning⟩, fc_Plan⟩,
    ⟨⟨_, _, ok_Plan_minutes_had U_Plan_minutes_had TP DP d_latest, b_Plan_minutes_had, fe_Plan_minutes_had⟩, fc_Plan⟩⟩
  have d_is_plan : DF P w K mg base "is_plan" 1 ["first", "length", "days", "times"] spIsPlan := ⟨⟨_, _, ok_is_plan U_is_plan TP, b_is_plan, fg_is_plan, U_is_plan.kp⟩⟩
  have d_plan_of : DF P w K mg base "plan_of" 3 ["when"] (spPlanOf K (He.ga K "Plan")) := ⟨⟨_, _, ok_plan_of U_plan_of d_is_plan d_Plan, b_plan_of, fg_plan_of, U_plan_of.kp⟩⟩
  have d_gcd : DF P w K mg base "greatest_divisor" 1 ["a", "b"] spGcd := ⟨⟨_, _, ok_greatest_divisor U_greatest_divisor, b_greatest_divisor, fg_greatest_divisor, U_greatest_divisor.kp⟩⟩
  have d_least : DF P w K mg base "least_match" 1 ["step", "other_step", "shift"] spLeast := ⟨⟨_, _, ok_least_match U_least_match TP, b_least_match, fg_least_match, U_least_match.kp⟩⟩
  have d_lead : DF P w K mg base "first_meeting_at_lead" 2 ["one", "other", "lead"] (spLead (He.ga K "Plan")) := ⟨⟨_, _, ok_first_meeting_at_lead U_first_meeting_at_lead TP DP d_least d_gcd, b_first_meeting_at_lead, fg_first_meeting_at_lead, U_first_meeting_at_lead.kp⟩⟩
  have d_first : DF P w K mg base "first_meeting" 3 ["one", "other"] (spFirst (He.ga K "Plan")) := ⟨⟨_, _, ok_first_meeting U_first_meeting TP d_lead, b_first_meeting, fg_first_meeting, U_first_meeting.kp⟩⟩
  -- the house
  have d_House : DC P w K mg base "House" (He.ga K "House") 1 ["self"] (spHInit (He.ga K "House")) := ⟨⟨_, _, ok_House___init__ U_House___init__ TH, b_House___init__, fm_House, fg_House⟩⟩
  have d_Booking : DC P w K mg base "Booking" (He.ga K "Booking") 1 ["self", "number", "whom", "room", "plan", "waits"] (spBInit (He.ga K "Booking")) := ⟨⟨_, _, ok_Booking___init__ U_Booking___init__ TH, b_Booking___init__, fm_Booking, fg_Booking⟩⟩
  have d_inU : DM P w K mg base (He.ga K "House") "booked_in" 1 ["self", "room"] (spBookedIn FzU (He.ga K "House") (He.ga K "Booking") (He.ga K "Plan")) := ⟨⟨_, _, ok_House_booked_inU U_House_booked_in TH, b_House_booked_in, fe_House_booked_in⟩, fc_House⟩
  have d_inL : DM P w K mg base (He.ga K "House") "booked_in" 1 ["self", "room"] (spBookedIn FzL (He.ga K "House") (He.ga K "Booking") (He.ga K "Plan")) := ⟨⟨_, _, ok_House_booked_inL U_House_booked_in TH, b_House_booked_in, fe_House_booked_in⟩, fc_House⟩
  have d_meetU : DM P w K mg base (He.ga K "House") "meetings" 4 ["self", "room", "plan"] (spMeet FzU (He.ga K "House") (He.ga K "Booking") (He.ga K "Plan")) := ⟨⟨_, _, ok_House_meetings U_House_meetings TH d_inU d_first, b_House_meetings, fe_House_meetings⟩, fc_House⟩
  have d_meetL : DM P w K mg base (He.ga K "House") "meetings" 4 ["self", "room", "plan"] (spMeet FzL (He.ga K "House") (He.ga K "Booking") (He.ga K "Plan")) := ⟨⟨_, _, ok_House_meetings U_House_meetings TH d_inL d_first, b_House_meetings, fe_House_meetings⟩, fc_House⟩
  have d_fitsU : DM P w K mg base (He.ga K "House") "fits" 5 ["self", "room", "plan"] (spFits FzU (He.ga K "House") (He.ga K "Booking") (He.ga K "Plan")) := ⟨⟨_, _, ok_House_fitsU U_House_fits TH d_meetU, b_House_fits, fe_House_fits⟩, fc_House⟩
  have d_fitsL : DM P w K mg base (He.ga K "House") "fits" 5 ["self", "room", "plan"] (spFits FzL (He.ga K "House") (He.ga K "Booking") (He.ga K "Plan")) := ⟨⟨_, _, ok_House_fitsL U_House_fits TH d_meetL, b_House_fits, fe_House_fits⟩, fc_House⟩
  have D : DHouse P w K mg base (He.ga K "House") (He.ga K "Booking") (He.ga K "Plan") := by
    refine ⟨⟨⟨_, _, ok_House_has_room U_House_has_room TH, b_House_has_room, fe_House_has_room⟩, fc_House⟩, ⟨⟨_, _, ok_House_is_full U_House_is_full TH, b_House_is_full, fe_House_is_full⟩, fc_House⟩, d_fitsU, d_meetU,
      ⟨⟨_, _, ok_House_hold U_House_hold TH d_Booking, b_House_hold, fe_House_hold⟩, fc_House⟩, ⟨⟨_, _, ok_House_find_booked U_House_find_booked TH, b_House_find_booked, fe_House_find_booked⟩, fc_House⟩,
      ⟨⟨_, _, ok_House_let_go U_House_let_go TH, b_House_let_go, fe_House_let_go⟩, fc_House⟩, ⟨⟨_, _, ok_House_serve U_House_serve TH d_fitsL, b_House_serve, fe_House_serve⟩, fc_House⟩⟩
  have D2 : DHouse2 P w K mg base (He.ga K "House") (He.ga K "Booking") (He.ga K "Plan") := by
    refine ⟨⟨⟨_, _, ok_House_waiting U_House_waiting TH, b_House_waiting, fe_House_waiting⟩, fc_House⟩, ⟨⟨_, _, ok_House_who_has U_House_who_has TH DP2 d_inU, b_House_who_has, fe_House_who_has⟩, fc_House⟩,
      ⟨⟨_, _, ok_House_next_time U_House_next_time TH DP2 d_inU, b_House_next_time, fe_House_next_time⟩, fc_House⟩, ⟨⟨_, _, ok_House_minutes_used U_House_minutes_used TH DP2 d_inU, b_House_minutes_used, fe_House_minutes_used⟩, fc_House⟩⟩
  have d_all : DM P w K mg base (He.ga K "House") "has_all_rooms" 1 ["self"] (spAllRooms (He.ga K "House") (He.ga K "Booking") (He.ga K "Plan")) := ⟨⟨_, _, ok_House_has_all_rooms U_House_has_all_rooms TH, b_House_has_all_rooms, fe_House_has_all_rooms⟩, fc_House⟩
  have d_add : DM P w K mg base (He.ga K "House") "add_room" 1 ["self", "seats"] (spAddRoom (He.ga K "House") (He.ga K "Booking") (He.ga K "Plan")) := ⟨⟨_, _, ok_House_add_room U_House_add_room TH, b_House_add_room, fe_House_add_room⟩, fc_House⟩
  have d_rooms : DM P w K mg base (He.ga K "House") "rooms_with" 4 ["self", "seats"] (spRooms (hTT K) (He.ga K "House") (He.ga K "Booking") (He.ga K "Plan")) :=
    ⟨⟨_, _, ok_House_rooms_with U_House_rooms_with (code_of (p := ("House", some "rooms_with")) U_House_rooms_with) TH (TB _ (List.mem_singleton.mpr rfl)) rfl, b_House_rooms_with, fe_House_rooms_with⟩, fc_House⟩
  -- the calls
  have d_book : DF P w K mg base "answer_book" 6 ["house", "numbers"] (spAns (hTT K) (He.ga K "House") (He.ga K "Booking") (He.ga K "Plan") c1 6) := ⟨⟨_, _, ok_answer_book U_answer_book TA D d_plan_of, b_answer_book, fg_answer_book, U_answer_book.kp⟩⟩
  have d_served : DF P w K mg base "answer_served" 7 ["house"] (spServed (hTT K) (He.ga K "House") (He.ga K "Booking") (He.ga K "Plan")) := ⟨⟨_, _, ok_answer_served U_answer_served TA D, b_answer_served, fg_answer_served, U_answer_served.kp⟩⟩
  refine ok_answers (CB := He.ga K "Booking") (CP := He.ga K "Plan") U_answers TM d_House ?_ ?_
  · intro i e he
    rcases i with _ | _ | _ | _ | _ | _ | _ | _ | _ | _ | _ | _ | _ | _ | i
    all_goals first
      | (cases he; exact ⟨_, rfl⟩)
      | (exfalso; simp [RP.tab] at he)
  · rintro g sp ⟨i, r, e, hr, he, rfl, rfl⟩
    rcases i with _ | _ | _ | _ | _ | _ | _ | _ | _ | _ | _ | _ | _ | _ | i
    · cases hr; cases he
      exact ⟨_, _, _, by decide, ok_answer_room U_answer_room TA d_all d_add, U_answer_room.kp, b_answer_room⟩
    · cases hr; cases he
      exact ⟨_, _, _, by decide, ok_answer_book U_answer_book TA D d_plan_of, U_answer_book.kp, b_answer_book⟩
    · cases hr; cases he
      exact ⟨_, _, _, by decide, ok_answer_would U_answer_would TA D d_plan_of, U_answer_would.kp, b_answer_would⟩
    · cases hr; cases he
      exact ⟨_, _, _, by decide, ok_answer_any U_answer_any TA D d_rooms d_plan_of, U_answer_any.kp, b_answer_any⟩
    · cases hr; cases he
      exact ⟨_, _, _, by decide, ok_answer_wait U_answer_wait TA D d_book d_plan_of, U_answer_wait.kp, b_answer_wait⟩
    · cases hr; cases he
      exact ⟨_, _, _, by decide, ok_answer_end U_answer_end TA TH D d_served, U_answer_end.kp, b_answer_end⟩
    · cases hr; cases he
      exact ⟨_, _, _, by decide, ok_answer_skip U_answer_skip TA TH TP D DP d_served, U_answer_skip.kp, b_answer_skip⟩
    · cases hr; cases he
      exact ⟨_, _, _, by decide, ok_answer_cut U_answer_cut TA TH TP D DP d_served, U_answer_cut.kp, b_answer_cut⟩
    · cases hr; cases he
      exact ⟨_, _, _, by decide, ok_answer_at U_answer_at TA TH D D2, U_answer_at.kp, b_answer_at⟩
    · cases hr; cases he
      exact ⟨_, _, _, by decide, ok_answer_next U_answer_next TA D D2, U_answer_next.kp, b_answer_next⟩
    · cases hr; cases he
      exact ⟨_, _, _, by decide, ok_answer_free U_answer_free TA D D2, U_answer_free.kp, b_answer_free⟩
    · cases hr; cases he
      exact ⟨_, _, _, by decide, ok_answer_used U_answer_used TA D D2, U_answer_used.kp, b_answer_used⟩
    · cases hr; cases he
      exact ⟨_, _, _, by decide, ok_answer_tell U_answer_tell TA TH TP, U_answer_tell.kp, b_answer_tell⟩
    · cases hr; cases he
      exact ⟨_, _, _, by decide, ok_answer_queue U_answer_queue TA D2, U_answer_queue.kp, b_answer_queue⟩
    · cases hr
end
end R
end
set_option maxRecDepth 100000
set_option maxHeartbeats 0
namespace R
open PySem PySem.Spec PyProof.Rows L2 LamX
open PySem.W (OpenSpec Codec WData)
abbrev hd : DefRec := HeadRun.topDef RO.prog hAt
theorem hd_name : hd.name = ("answers" : Str) := by kernel_rfl
theorem walk : PySem.W.WalkOS hq hln (PySem.W.XL hq []) hk.says RO hd [] (fun f vs => PySem.call f vs) := by
  intro w s₀ s₁ mg mb G Y f o pm cd doc dV kV ho _ _ _ hmg hg args vals as hpre hlay hrd hwl hlo
  obtain ⟨a, e1, e2⟩ := PySem.W.os_pre_some hpre
  obtain ⟨e3, hwi⟩ := Codec.encAll_of_decAll RO.args args a e1
  subst e3
  obtain ⟨K, KX, c⟩ := Y
  rw [hd_name] at hmg
  obtain ⟨fd, hb, hF⟩ := all_ok (P := RO.prog) KX G.T.g c hmg
  obtain ⟨v, rfl⟩ : ∃ v, vals = [v] := by
    have := wellAll_len hwl
    match vals, this with
    | [v], _ => exact ⟨v, rfl⟩
  have ask : PyCl05.answers_asked a.1 = true := e2
  refine PySem.W.enter_call (codeAny_mono (spec_tabs (Rw := []) (cl := classAt s₀.heap) (cs := hcs K) (ns := a.1) (d0 := RO.ret.enc (Codec.app RO.args RO.f a)) KX G.T.g G.T.b G.T.builtins G.T.nolimit hg
    (fun p hp => ?t1) (fun p hp => ?t2) (fun p hp => ?t3) G.T.bmain hwl (layable_weight hlay _ List.mem_cons_self) (k := 13) ⟨rfl, by decide, by decide⟩ hF hb (fun H l hT hS _ => ?t4)) fun r' s' hq => ?t5)
  case t1 => rw [List.mem_singleton.mp hp]; exact c.empty _ (List.mem_singleton.mpr rfl)
  case t2 => rw [List.mem_singleton.mp hp]; exact c.out _ (List.mem_singleton.mpr rfl)
  case t3 => rw [List.mem_singleton.mp hp]; exact PySem.W.codeHd_of_K KX (c.hd _ (List.mem_singleton.mpr rfl))
  case t4 =>
    refine ⟨l, a.1, rfl, hS, fun p hp => ?_, ask, fun H' q hq => .lst (SqL.of hq) (L2.dw_ints _)⟩
    rw [List.mem_singleton.mp hp]
    exact ⟨#[], hT _ (List.mem_singleton.mpr rfl), by trivial, fun pos cv hc => by cases hc⟩
  case t5 =>
    obtain ⟨u, as', rfl, h1, h2, h3, h4⟩ := hq
    exact ⟨.inl ⟨u, _, as', rfl, fun _ => rfl, h1, (OpenSpec.post_iff (by decide +kernel) hwi _ _).mpr rfl, fun z => Bool.noConfusion (show false = true from z)⟩, h2, h3, h4⟩
end R
open PySem PySem.W PySem.Calls PyProof.Rows
theorem PySem.Challenge.cw_roomsforever_s01_answers_holds : PySem.Challenge.rw_roomsforever_s01_answers.Holds := by
  w_on
  refine HeadRun.head_spec (r := PySem.Challenge.rw_roomsforever_s01_answers) (q := R.hq) (H := R.hk) (ob := R.hob) (M := 4000) (loose := R.hln) (d := R.hd) (kwd := []) R.hob_eq
    (by kernel_rfl) (fun s => by kernel_rfl) R.hrun (by kernel_rfl) (by kernel_rfl) (by kernel_rfl) os_shapes (by first | assumption | decide +kernel) (by decide +kernel) ⟨rfl, rfl, rfl, rfl, rfl, by decide +kernel⟩ ?hw ?hc
  case hw => exact ⟨[.list [.int 13]], by decide +kernel, by decide +kernel⟩
  case hc => exact R.walk
