import PyProof.Rows.All
import Wide.All
import OpenK.AllK
import Wide.FinOn
import HandS.ForMost
import HandS.EndBits
import HandS.Wide
import PyProof.ReprRoads
import HandS.SortKw
import KE.DataMinMax
import HandS.IsInst
import HandS.More
import KE.GoesEnum
import HandS.Walk
import HandS.Flow
import HandS.OwnEq
import HandS.SetFor
import HandS.Strs
import HandS.Zip
import HandS.Star
import HandS.TupAny
import HandS.GenList
import HandS.Style
import KE.KRevSl
import PyProof.ReprBulk
import KE.KDictList
import HandS.Conv
import HandS.ListItems
import HandS.ExcInit
import HandS.ExcIs
import HandS.Defaults
import HandS.MakeKwOnly
import HandS.ExcOwn
import HandS.WordsExc
import HandS.ExcField
import PySem.Challenge.RW_roadsizes_k33_bodies_refused
section
set_option autoImplicit false
/-! ## chains: what the numbers do -/
namespace N
/-- the pieces of a body -/
def L : List Nat → Nat → Nat
  | [], _ => 1
  | c :: r, b => b / c * L r c + (if b % c = 0 then 0 else L r (b % c))
/-- the boundary with a number -/
def B : List Nat → Nat → Nat
  | [], _ => 0
  | c :: r, n => n / L r c * c + B r (n % L r c)
/-- the rest of a place -/
def rem : List Nat → Nat → Nat
  | [], p => p
  | c :: r, p => rem r (p % c)
def dig : List Nat → Nat → List Nat
  | [], p => [p]
  | c :: r, p => p / c :: dig r (p % c)
theorem L_cons (c : Nat) (r : List Nat) (b : Nat) : L (c :: r) b = b / c * L r c + (if b % c = 0 then 0 else L r (b % c)) := by conv => lhs; unfold L
theorem B_cons (c : Nat) (r : List Nat) (n : Nat) : B (c :: r) n = n / L r c * c + B r (n % L r c) := by conv => lhs; unfold B
theorem rem_cons (c : Nat) (r : List Nat) (p : Nat) : rem (c :: r) p = rem r (p % c) := by conv => lhs; unfold rem
/-- cuts: falling, none of them 0 -/
def Fall : List Nat → Prop
  | [] => True
  | c :: r => 0 < c ∧ (∀ d ∈ r, d < c) ∧ Fall r
theorem Fall.pos : ∀ {l : List Nat}, Fall l → ∀ d ∈ l, 0 < d
  | [], _, d, h => by cases h
  | c :: r, f, d, h => by
    rcases List.mem_cons.mp h with e | e
    · rw [e]; exact f.1
    · exact f.2.2.pos d e
theorem L_pos : ∀ (l : List Nat), Fall l → ∀ b, 0 < b → 0 < L l b
  | [], _, b, _ => by unfold L; omega
  | c :: r, f, b, hb => by
    unfold L
    have h1 := L_pos r f.2.2 c f.1
    by_cases h : b % c = 0
    · rw [if_pos h]
      have h2 : 0 < b / c := Nat.div_pos (Nat.le_of_dvd hb (Nat.dvd_of_mod_eq_zero h)) f.1
      exact Nat.lt_of_lt_of_le (Nat.mul_pos h2 h1) (Nat.le_add_right _ _)
    · rw [if_neg h]
      have h2 := L_pos r f.2.2 (b % c) (by omega)
      omega
theorem B_zero : ∀ l : List Nat, B l 0 = 0
  | [] => rfl
  | c :: r => by
    unfold B
    rw [Nat.zero_div, Nat.zero_mod, B_zero r, Nat.zero_mul]
theorem rem_zero : ∀ l : List Nat, rem l 0 = 0
  | [] => rfl
  | c :: r => by
    unfold rem
    rw [Nat.zero_mod, rem_zero r]
/-- two numbers in parts: which one is less -/
theorem parts_lt {q j Q R c : Nat} (hj : j < c) (hR : R < c) : q * c + j < Q * c + R ↔ q < Q ∨ (q = Q ∧ j < R) := by
  constructor
  · intro h
    rcases Nat.lt_trichotomy q Q with a | a | a
    · exact .inl a
    · subst a
      exact .inr ⟨rfl, by omega⟩
    · have := Nat.mul_le_mul_right c a
      rw [Nat.succ_mul] at this
      omega
  · rintro (a | ⟨rfl, a⟩)
    · have := Nat.mul_le_mul_right c a
      rw [Nat.succ_mul] at this
      omega
    · omega
/-- the boundaries below a body are one less than its pieces -/
theorem below : ∀ (l : List Nat), Fall l → ∀ b, 0 < b → ∀ m, (l = [] → m = 0) → (B l m < b ↔ m < L l b)
  | [], _, b, hb, m, hm => by
    rw [hm rfl]
    unfold B L
    omega
  | c :: r, f, b, hb, m, _ => by
    have hc := f.1
    have hk := L_pos r f.2.2 c hc
    have ih := below r f.2.2
    have hj := Nat.mod_lt m hk
    have hR := Nat.mod_lt b hc
    have e1 := Nat.div_add_mod m (L r c)
    have e2 := Nat.div_add_mod b c
    have nil : r = [] → m % L r c = 0 := fun e => by
      rw [e]
      show m % 1 = 0
      exact Nat.mod_one m
    have hB : B r (m % L r c) < c := (ih c hc _ nil).mpr hj
    -- what is left of the body
    have left : ∀ (x : Nat), x < L r c → (r = [] → x = 0) → (B r x < b % c ↔ x < (if b % c = 0 then 0 else L r (b % c))) := fun x hx hn => by
      by_cases h : b % c = 0
      · rw [if_pos h, h]
        omega
      · rw [if_neg h]
        exact ih (b % c) (by omega) x hn
    have most : (if b % c = 0 then 0 else L r (b % c)) ≤ L r c := by
      by_cases h : b % c = 0
      · rw [if_pos h]
        omega
      · rw [if_neg h]
        cases r with
        | nil => exact Nat.le_refl _
        | cons d s =>
          rcases Nat.lt_or_ge (L (d :: s) c) (L (d :: s) (b % c)) with z | z
          · have q := (ih (b % c) (by omega) (L (d :: s) c) (fun e => by cases e)).mpr z
            have q2 := (ih c hc (L (d :: s) c) (fun e => by cases e)).mp (by omega)
            omega
          · exact z
    have goal : (m / L r c < b / c ∨ (m / L r c = b / c ∧ B r (m % L r c) < b % c)) ↔ (m / L r c < b / c ∨ (m / L r c = b / c ∧ m % L r c < (if b % c = 0 then 0 else L r (b % c)))) := by
      rw [left _ hj nil]
    rw [B_cons, L_cons]
    have h1 := parts_lt (q := m / L r c) (Q := b / c) hB hR
    rw [Nat.mul_comm c] at e2
    rw [e2] at h1
    refine h1.trans (goal.trans ?_)
    generalize hX : (if b % c = 0 then 0 else L r (b % c)) = X at most ⊢
    rw [Nat.mul_comm (L r c)] at e1
    rcases Nat.lt_or_ge X (L r c) with z | z
    · have h2 := parts_lt (q := m / L r c) (Q := b / c) hj z
      rw [e1] at h2
      exact h2.symm
    · have eX : X = L r c := Nat.le_antisymm most z
      rw [eX]
      constructor
      · rintro (a | ⟨a, _⟩)
        · have := Nat.mul_le_mul_right (L r c) a
          rw [Nat.succ_mul] at this
          omega
        · rw [← a]
          omega
      · intro h
        rcases Nat.lt_trichotomy (m / L r c) (b / c) with a | a | a
        · exact .inl a
        · exact .inr ⟨a, hj⟩
        · have := Nat.mul_le_mul_right (L r c) a
          rw [Nat.succ_mul] at this
          omega
/-- boundaries go up -/
theorem up : ∀ (l : List Nat), Fall l → l ≠ [] → ∀ n, B l n < B l (n + 1)
  | [], _, h, _ => absurd rfl h
  | c :: r, f, _, n => by
    have hk := L_pos r f.2.2 c f.1
    have hj := Nat.mod_lt n hk
    have nil : r = [] → n % L r c = 0 := fun e => by
      rw [e]
      show n % 1 = 0
      exact Nat.mod_one n
    have hB : B r (n % L r c) < c := (below r f.2.2 c f.1 _ nil).mpr hj
    have e1 := Nat.div_add_mod n (L r c)
    rw [B_cons, B_cons]
    by_cases h : n % L r c + 1 = L r c
    · have e2 : n + 1 = 0 + L r c * (n / L r c + 1) := by rw [Nat.mul_add]; omega
      have d : (n + 1) / L r c = n / L r c + 1 := by rw [e2, Nat.add_mul_div_left _ _ hk, Nat.zero_div, Nat.zero_add]
      have m : (n + 1) % L r c = 0 := by rw [e2, Nat.add_mul_mod_self_left, Nat.zero_mod]
      rw [d, m, B_zero, Nat.succ_mul]
      omega
    · have e2 : n + 1 = (n % L r c + 1) + L r c * (n / L r c) := by omega
      have d : (n + 1) / L r c = n / L r c := by rw [e2, Nat.add_mul_div_left _ _ hk, Nat.div_eq_of_lt (by omega), Nat.zero_add]
      have m : (n + 1) % L r c = n % L r c + 1 := by rw [e2, Nat.add_mul_mod_self_left, Nat.mod_eq_of_lt (by omega)]
      rw [d, m]
      have hr : r ≠ [] := fun e => h (by rw [e]; show n % 1 + 1 = 1; rw [Nat.mod_one])
      have := up r f.2.2 hr (n % L r c)
      omega
theorem up_lt {l : List Nat} (f : Fall l) (h : l ≠ []) : ∀ {m n : Nat}, m < n → B l m < B l n
  | m, 0, q => absurd q (Nat.not_lt_zero _)
  | m, n + 1, q => by
    rcases Nat.lt_or_ge m n with a | a
    · exact Nat.lt_trans (up_lt f h a) (up l f h n)
    · have e : m = n := by omega
      rw [e]
      exact up l f h n
theorem up_iff {l : List Nat} (f : Fall l) (h : l ≠ []) {m n : Nat} : B l m < B l n ↔ m < n := by
  constructor
  · intro q
    rcases Nat.lt_trichotomy m n with a | a | a
    · exact a
    · rw [a] at q; omega
    · have := up_lt f h a; omega
  · exact up_lt f h
theorem eq_of_lt_iff {a b : Nat} (h : ∀ m, m < a ↔ m < b) : a = b := by
  have h1 := h a
  have h2 := h b
  omega
/-- the boundary with a number has so many up to it -/
theorem L_B {l : List Nat} (f : Fall l) (h : l ≠ []) {n : Nat} (hn : 0 < n) : L l (B l n) = n := by
  have p : 0 < B l n := by
    have := up_lt f h hn
    omega
  refine eq_of_lt_iff fun m => ?_
  rw [← below l f (B l n) p m fun e => absurd e h, up_iff f h]
theorem L_B1 {l : List Nat} (f : Fall l) (h : l ≠ []) {n : Nat} : L l (B l n + 1) = n + 1 := by
  refine eq_of_lt_iff fun m => ?_
  rw [← below l f (B l n + 1) (by omega) m fun e => absurd e h]
  constructor
  · intro q
    rcases Nat.lt_or_ge m (n + 1) with a | a
    · exact a
    · have := up_lt f h (m := n) (n := m) (by omega)
      omega
  · intro q
    rcases Nat.lt_or_ge m n with a | a
    · have := up_lt f h a
      omega
    · have e : m = n := by omega
      rw [e]
      omega
theorem rem_B : ∀ (l : List Nat), Fall l → ∀ n, (l = [] → n = 0) → rem l (B l n) = 0
  | [], _, n, h => by rw [h rfl]; rfl
  | c :: r, f, n, _ => by
    have hk := L_pos r f.2.2 c f.1
    have hj := Nat.mod_lt n hk
    have nil : r = [] → n % L r c = 0 := fun e => by
      rw [e]
      show n % 1 = 0
      exact Nat.mod_one n
    have hB : B r (n % L r c) < c := (below r f.2.2 c f.1 _ nil).mpr hj
    rw [B_cons, rem_cons, Nat.add_comm, Nat.add_mul_mod_self_right, Nat.mod_eq_of_lt hB]
    exact rem_B r f.2.2 _ nil
/-- the first boundary is the least cut -/
theorem B_one : ∀ (l : List Nat), Fall l → ∀ (h : l ≠ []), B l 1 = l.getLast h
  | [], _, h => absurd rfl h
  | [c], _, _ => by
    rw [B_cons]
    show 1 / 1 * c + 0 = c
    omega
  | c :: d :: s, f, _ => by
    have ih := B_one (d :: s) f.2.2 (by simp)
    have lt : (d :: s).getLast (by simp) < c := f.2.1 _ (List.getLast_mem _)
    have k1 : 1 < L (d :: s) c := (below (d :: s) f.2.2 c f.1 1 (fun e => by cases e)).mp (by rw [ih]; exact lt)
    rw [List.getLast_cons (by simp)]
    rw [B_cons, Nat.div_eq_of_lt k1, Nat.mod_eq_of_lt k1, ih]
    omega
theorem last_le : ∀ (l : List Nat), Fall l → ∀ (h : l ≠ []), ∀ d ∈ l, l.getLast h ≤ d
  | [], _, h, _, _ => absurd rfl h
  | [c], _, _, d, hd => by
    have e : d = c := by simpa using hd
    rw [e]
    exact Nat.le_refl _
  | c :: e :: s, f, _, d, hd => by
    rw [List.getLast_cons (by simp)]
    rcases List.mem_cons.mp hd with q | q
    · rw [q]
      exact Nat.le_of_lt (f.2.1 _ (List.getLast_mem _))
    · exact last_le (e :: s) f.2.2 (by simp) d q
theorem L_mono_lt {l : List Nat} (f : Fall l) (h : l ≠ []) {n b : Nat} (hb : B l n < b) : n < L l b := (below l f b (by omega) n fun e => absurd e h).mp hb
end N
namespace N
/-- how many pieces each cut's part makes -/
def cn : List Nat → List Nat
  | [] => []
  | c :: r => L r c :: cn r
theorem cn_len : ∀ l : List Nat, (cn l).length = l.length
  | [] => rfl
  | c :: r => congrArg Nat.succ (cn_len r)
theorem cn_at : ∀ {l : List Nat} {i k : Nat}, (cn l)[i]? = some k → ∃ c, l[i]? = some c ∧ k = L (l.drop (i + 1)) c
  | [], i, k, h => by cases h
  | c :: r, 0, k, h => by
    cases h
    exact ⟨c, rfl, rfl⟩
  | c :: r, i + 1, k, h => by
    obtain ⟨d, a, b⟩ := cn_at (l := r) (i := i) h
    exact ⟨d, a, b⟩
/-- the number of pieces of any body -/
def PC (l : List Nat) (b : Nat) : Nat := if b = 0 then 1 else L l b
def sm : List Nat → Nat → Nat
  | [], _ => 0
  | c :: r, b => b / c * L r c + sm r (b % c)
theorem sm_cons (c : Nat) (r : List Nat) (b : Nat) : sm (c :: r) b = b / c * L r c + sm r (b % c) := by conv => lhs; unfold sm
theorem sm_nil (b : Nat) : sm [] b = 0 := rfl
theorem rem_nil (b : Nat) : rem [] b = b := rfl
theorem sm_zero : ∀ l : List Nat, sm l 0 = 0
  | [] => rfl
  | c :: r => by
    unfold sm
    rw [Nat.zero_div, Nat.zero_mod, Nat.zero_mul, sm_zero r]
theorem L_sm : ∀ (l : List Nat) (b : Nat), 0 < b → L l b = sm l b + (if 0 < rem l b then 1 else 0)
  | [], b, h => by
    unfold L sm rem
    rw [if_pos h]
  | c :: r, b, h => by
    rw [L_cons, rem_cons]
    unfold sm
    by_cases z : b % c = 0
    · rw [if_pos z, z, sm_zero, rem_zero, if_neg (by omega)]
    · rw [if_neg z, L_sm r (b % c) (by omega), Nat.add_assoc]
theorem PC_sm (l : List Nat) (b : Nat) : PC l b = sm l b + (if 0 < rem l b ∨ b = 0 then 1 else 0) := by
  unfold PC
  by_cases h : b = 0
  · rw [if_pos h, if_pos (.inr h), h, sm_zero]
  · rw [if_neg h, L_sm l b (by omega)]
    by_cases z : 0 < rem l b
    · rw [if_pos z, if_pos (.inl z)]
    · rw [if_neg z, if_neg (by omega)]
theorem Fall.drop : ∀ {l : List Nat}, Fall l → ∀ i, Fall (l.drop i)
  | [], _, i => by rw [List.drop_nil]; trivial
  | c :: r, f, 0 => f
  | c :: r, f, i + 1 => f.2.2.drop i
theorem le_B {l : List Nat} (f : Fall l) (h : l ≠ []) : ∀ n, n ≤ B l n
  | 0 => Nat.zero_le _
  | n + 1 => by
    have := le_B f h n
    have := up l f h n
    omega
theorem L_le {l : List Nat} (f : Fall l) {b : Nat} (hb : 0 < b) : L l b ≤ b := by
  cases l with
  | nil => exact hb
  | cons c r =>
    have p := L_pos (c :: r) f b hb
    have q := (below (c :: r) f b hb (L (c :: r) b - 1) fun e => by cases e).mpr (by omega)
    have := le_B f (by simp) (L (c :: r) b - 1)
    omega
theorem dig_rem : ∀ (l : List Nat) (p : Nat), ∃ ds, dig l p = ds ++ [rem l p]
  | [], p => ⟨[], rfl⟩
  | c :: r, p => by
    obtain ⟨ds, e⟩ := dig_rem r (p % c)
    exact ⟨p / c :: ds, by unfold dig; rw [e, rem_cons]; rfl⟩
theorem dig_len : ∀ (l : List Nat) (p : Nat), (dig l p).length = l.length + 1
  | [], p => rfl
  | c :: r, p => congrArg Nat.succ (dig_len r (p % c))
end N
namespace N
theorem fall_snoc : ∀ {l : List Nat} {x : Nat}, Fall l → 0 < x → (∀ d ∈ l, x < d) → Fall (l ++ [x])
  | [], x, _, h, _ => ⟨h, (fun d hd => by cases hd), trivial⟩
  | c :: r, x, f, h, hd => by
    refine ⟨f.1, fun d q => ?_, fall_snoc f.2.2 h fun d q => hd d (List.mem_cons_of_mem _ q)⟩
    rcases List.mem_append.mp q with q | q
    · exact f.2.1 d q
    · rw [List.mem_singleton.mp q]
      exact hd c List.mem_cons_self
end N

end
section
set_option autoImplicit false
set_option linter.all false
namespace N
/-! ## sums of chains, and bodies parted one cut after another -/
def cu (c b : Nat) : List Nat := if h : 0 < c ∧ c < b then c :: cu c (b - c) else [b]
termination_by b
decreasing_by omega
theorem cu_lt {c b : Nat} (h : 0 < c) (h2 : c < b) : cu c b = c :: cu c (b - c) := by
  rw [cu, dif_pos ⟨h, h2⟩]
theorem cu_le {c b : Nat} (h2 : b ≤ c) : cu c b = [b] := by
  rw [cu, dif_neg (by omega)]
def pt : List Nat → List Nat → List Nat
  | [], ss => ss
  | c :: r, ss => pt r (ss.flatMap (cu c))
theorem pt_app : ∀ (l a b : List Nat), pt l (a ++ b) = pt l a ++ pt l b
  | [], a, b => rfl
  | c :: r, a, b => by
    unfold pt
    rw [List.flatMap_append, pt_app r]
theorem pt_cat : ∀ (l m ss : List Nat), pt (l ++ m) ss = pt m (pt l ss)
  | [], m, ss => rfl
  | c :: r, m, ss => pt_cat r m _
theorem pt_lt {c b : Nat} (r : List Nat) (h : 0 < c) (h2 : c < b) : pt (c :: r) [b] = pt r [c] ++ pt (c :: r) [b - c] := by
  show pt r (([b] : List Nat).flatMap (cu c)) = pt r [c] ++ pt r (([b - c] : List Nat).flatMap (cu c))
  rw [← pt_app, List.flatMap_singleton, List.flatMap_singleton, cu_lt h h2]
  rfl
theorem pt_le {c b : Nat} (r : List Nat) (h2 : b ≤ c) : pt (c :: r) [b] = pt r [b] := by
  show pt r (([b] : List Nat).flatMap (cu c)) = pt r [b]
  rw [List.flatMap_singleton, cu_le h2]
theorem cu_mem {c : Nat} (h : 0 < c) : ∀ (b : Nat), ∀ s ∈ cu c b, s ≤ c ∧ s ≤ b ∧ (0 < b → 0 < s) := by
  intro b
  induction b using Nat.strongRecOn with
  | ind b ih =>
    intro s hs
    by_cases h2 : c < b
    · rw [cu_lt h h2] at hs
      rcases List.mem_cons.mp hs with z | z
      · omega
      · have := ih (b - c) (by omega) s z
        omega
    · rw [cu_le (by omega)] at hs
      rw [List.mem_singleton.mp hs]
      omega
theorem cu_sum {c : Nat} (h : 0 < c) : ∀ (b : Nat), (cu c b).sum = b := by
  intro b
  induction b using Nat.strongRecOn with
  | ind b ih =>
    by_cases h2 : c < b
    · rw [cu_lt h h2, List.sum_cons, ih (b - c) (by omega)]
      omega
    · rw [cu_le (by omega)]
      simp
theorem cu_len {c : Nat} (h : 0 < c) (b : Nat) : 0 < (cu c b).length := by
  by_cases h2 : c < b
  · rw [cu_lt h h2]
    simp
  · rw [cu_le (by omega)]
    simp
theorem flat_len {c : Nat} (h : 0 < c) : ∀ ss : List Nat, ss.length ≤ (ss.flatMap (cu c)).length
  | [] => Nat.zero_le _
  | s :: ss => by
    have := flat_len h ss
    have := cu_len h s
    rw [List.flatMap_cons, List.length_append, List.length_cons]
    omega
theorem pt_len : ∀ {l : List Nat}, (∀ c ∈ l, 0 < c) → ∀ ss, ss.length ≤ (pt l ss).length
  | [], _, ss => Nat.le_refl _
  | c :: r, f, ss => Nat.le_trans (flat_len (f c List.mem_cons_self) ss) (pt_len (fun d hd => f d (List.mem_cons_of_mem _ hd)) _)
theorem flat_sum {c : Nat} (h : 0 < c) : ∀ ss : List Nat, (ss.flatMap (cu c)).sum = ss.sum
  | [] => rfl
  | s :: ss => by
    rw [List.flatMap_cons, List.sum_append, cu_sum h, flat_sum h ss, List.sum_cons]
theorem pt_sum : ∀ {l : List Nat}, (∀ c ∈ l, 0 < c) → ∀ ss, (pt l ss).sum = ss.sum
  | [], _, ss => rfl
  | c :: r, f, ss => (pt_sum (fun d hd => f d (List.mem_cons_of_mem _ hd)) _).trans (flat_sum (f c List.mem_cons_self) ss)
theorem pt_bound {m : Nat} : ∀ {l : List Nat}, (∀ c ∈ l, 0 < c) → ∀ ss, (∀ s ∈ ss, s ≤ m) → ∀ s ∈ pt l ss, s ≤ m
  | [], _, ss, h => h
  | c :: r, f, ss, h => pt_bound (l := r) (fun d hd => f d (List.mem_cons_of_mem _ hd)) _ fun s hs => by
    obtain ⟨b, hb, hs⟩ := List.mem_flatMap.mp hs
    have := cu_mem (f c List.mem_cons_self) b s hs
    have := h b hb
    omega
theorem pt_pos : ∀ {l : List Nat}, (∀ c ∈ l, 0 < c) → ∀ ss, (∀ s ∈ ss, 0 < s) → ∀ s ∈ pt l ss, 0 < s
  | [], _, ss, h => h
  | c :: r, f, ss, h => pt_pos (l := r) (fun d hd => f d (List.mem_cons_of_mem _ hd)) _ fun s hs => by
    obtain ⟨b, hb, hs⟩ := List.mem_flatMap.mp hs
    exact (cu_mem (f c List.mem_cons_self) b s hs).2.2 (h b hb)
theorem pt_cuts : ∀ {l : List Nat}, (∀ c ∈ l, 0 < c) → ∀ ss, ∀ c ∈ l, ∀ s ∈ pt l ss, s ≤ c
  | [], _, ss, c, h => by cases h
  | c :: r, f, ss, d, hd => by
    rcases List.mem_cons.mp hd with z | z
    · subst z
      exact pt_bound (l := r) (fun d hd => f d (List.mem_cons_of_mem _ hd)) _ fun s hs => by
        obtain ⟨b, hb, hs⟩ := List.mem_flatMap.mp hs
        exact (cu_mem (f d List.mem_cons_self) b s hs).1
    · exact pt_cuts (l := r) (fun d hd => f d (List.mem_cons_of_mem _ hd)) _ d z
theorem flat_id {c : Nat} : ∀ {ss : List Nat}, (∀ s ∈ ss, s ≤ c) → ss.flatMap (cu c) = ss
  | [], _ => rfl
  | s :: ss, h => by
    rw [List.flatMap_cons, cu_le (h s List.mem_cons_self), flat_id fun t ht => h t (List.mem_cons_of_mem _ ht)]
    rfl
/-- cuts that are not less than all stretches do nothing -/
theorem pt_idle {m : Nat} : ∀ {l : List Nat}, (∀ c ∈ l, 0 < c) → ∀ ss, (∀ s ∈ ss, s ≤ m) → pt l ss = pt (l.filter fun d => decide (d < m)) ss
  | [], _, ss, h => rfl
  | c :: r, f, ss, h => by
    have f2 : ∀ d ∈ r, 0 < d := fun d hd => f d (List.mem_cons_of_mem _ hd)
    by_cases hc : c < m
    · rw [List.filter_cons_of_pos (by simpa using hc)]
      exact pt_idle f2 _ fun s hs => by
        obtain ⟨b, hb, hs⟩ := List.mem_flatMap.mp hs
        have := cu_mem (f c List.mem_cons_self) b s hs
        have := h b hb
        omega
    · rw [List.filter_cons_of_neg (by simpa using hc)]
      show pt r (ss.flatMap (cu c)) = _
      rw [flat_id fun s hs => by have := h s hs; omega]
      exact pt_idle f2 ss h
/-! ### the pieces of a chain, by its boundaries -/
theorem L_lt {c b : Nat} (r : List Nat) (h : 0 < c) (h2 : c < b) : L (c :: r) b = L r c + L (c :: r) (b - c) := by
  obtain ⟨d, rfl⟩ : ∃ d, b = d + c := ⟨b - c, by omega⟩
  rw [Nat.add_sub_cancel, L_cons, L_cons, Nat.add_div_right _ h, Nat.add_mod_right, Nat.succ_mul]
  omega
theorem B_ge {c k : Nat} (r : List Nat) (h : 0 < L r c) (h2 : L r c ≤ k) : B (c :: r) k = c + B (c :: r) (k - L r c) := by
  obtain ⟨d, rfl⟩ : ∃ d, k = d + L r c := ⟨k - L r c, by omega⟩
  rw [Nat.add_sub_cancel, B_cons, B_cons, Nat.add_div_right _ h, Nat.add_mod_right, Nat.succ_mul]
  omega
theorem B_lt {c k : Nat} (r : List Nat) (h2 : k < L r c) : B (c :: r) k = B r k := by
  rw [B_cons, Nat.div_eq_of_lt h2, Nat.mod_eq_of_lt h2]
  omega
theorem L_le1 {c b : Nat} {r : List Nat} (h0 : 0 < b) (h : b ≤ c) : L (c :: r) b = L r b := by
  rw [L_cons]
  by_cases e : b = c
  · subst e
    rw [Nat.div_self h0, Nat.mod_self, if_pos rfl]
    omega
  · rw [Nat.div_eq_of_lt (by omega), Nat.mod_eq_of_lt (by omega), if_neg (by omega)]
    omega
theorem pt_L : ∀ (l : List Nat), Fall l → ∀ b, 0 < b → (pt l [b]).length = L l b ∧ ∀ k, k < L l b → ((pt l [b]).take k).sum = B l k
  | [], _, b, hb => ⟨rfl, fun k hk => by
    have : k = 0 := by
      have : k < 1 := hk
      omega
    subst this
    rfl⟩
  | c :: r, f, b, hb => by
    induction b using Nat.strongRecOn with
    | ind b ih =>
      by_cases h : c < b
      · obtain ⟨a1, a2⟩ := pt_L r f.2.2 c f.1
        have c0 := f.1
        obtain ⟨b1, b2⟩ := ih (b - c) (by omega) (by omega)
        have lp := L_pos r f.2.2 c f.1
        rw [pt_lt r f.1 h, L_lt r f.1 h]
        refine ⟨by rw [List.length_append, a1, b1], fun k hk => ?_⟩
        rw [List.take_append, a1, List.sum_append]
        by_cases hk2 : k < L r c
        · rw [a2 k hk2, B_lt r hk2, show k - L r c = 0 by omega]
          simp
        · rw [List.take_of_length_le (by omega), pt_sum f.2.2.pos, b2 (k - L r c) (by omega), B_ge (k := k) r lp (by omega)]
          simp
      · obtain ⟨a1, a2⟩ := pt_L r f.2.2 b hb
        rw [pt_le r (by omega), L_le1 hb (by omega)]
        refine ⟨a1, fun k hk => ?_⟩
        rw [a2 k hk, B_lt r]
        by_cases e : b = c
        · rw [← e]
          exact hk
        · by_cases hr : r = []
          · rw [hr] at hk ⊢
            exact hk
          · have q := (below r f.2.2 b hb k fun e => absurd e hr).mpr hk
            exact L_mono_lt f.2.2 hr (by omega)
theorem pt_at {l : List Nat} (f : Fall l) {b i : Nat} (hb : 0 < b) (h : i < L l b) : ∃ x, (pt l [b])[i]? = some x ∧ x + B l i = if i + 1 < L l b then B l (i + 1) else b := by
  obtain ⟨a1, a2⟩ := pt_L l f b hb
  have hi : i < (pt l [b]).length := by omega
  refine ⟨(pt l [b])[i], List.getElem?_eq_getElem hi, ?_⟩
  have s1 : ((pt l [b]).take (i + 1)).sum = ((pt l [b]).take i).sum + (pt l [b])[i] := by
    rw [List.take_succ, List.getElem?_eq_getElem hi, List.sum_append]
    simp
  rw [a2 i h] at s1
  by_cases e : i + 1 < L l b
  · rw [if_pos e]
    rw [a2 (i + 1) e] at s1
    omega
  · rw [if_neg e]
    rw [List.take_of_length_le (by omega), pt_sum f.pos] at s1
    simp at s1
    omega
/-! ### sums -/
def lo (l : List Nat) : Nat := l.foldl min 1001
theorem lt_foldl {d : Nat} : ∀ (l : List Nat) (m : Nat), d < l.foldl min m ↔ d < m ∧ ∀ x ∈ l, d < x
  | [], m => by simp
  | x :: l, m => by
    rw [List.foldl_cons, lt_foldl l]
    constructor
    · rintro ⟨h1, h2⟩
      exact ⟨by omega, fun y hy => by
        rcases List.mem_cons.mp hy with z | z
        · omega
        · exact h2 y z⟩
    · rintro ⟨h1, h2⟩
      have := h2 x List.mem_cons_self
      exact ⟨by omega, fun y hy => h2 y (List.mem_cons_of_mem _ hy)⟩
theorem lt_lo {d : Nat} {l : List Nat} : d < lo l ↔ d < 1001 ∧ ∀ x ∈ l, d < x := lt_foldl l 1001
def add (a b : List Nat) : List Nat := a ++ b.filter fun d => decide (d < lo a)
theorem add_assoc' (a b c : List Nat) : add (add a b) c = add a (add b c) := by
  unfold add
  rw [List.filter_append, List.filter_filter, List.append_assoc]
  congr 2
  refine List.filter_congr fun d hd => ?_
  rw [Bool.eq_iff_iff]
  simp only [Bool.and_eq_true, decide_eq_true_eq]
  rw [lt_lo, lt_lo, lt_lo]
  constructor
  · rintro ⟨h1, h2⟩
    have ha : ∀ x ∈ a, d < x := fun x hx => h2 x (List.mem_append_left _ hx)
    refine ⟨⟨h1, ha⟩, h1, fun x hx => ?_⟩
    by_cases e : x < lo a
    · exact h2 x (List.mem_append_right _ (List.mem_filter.mpr ⟨hx, decide_eq_true e⟩))
    · have := lt_lo.mpr ⟨h1, ha⟩
      omega
  · rintro ⟨⟨h1, ha⟩, _, hb⟩
    refine ⟨h1, fun x hx => ?_⟩
    rcases List.mem_append.mp hx with z | z
    · exact ha x z
    · exact hb x (List.mem_filter.mp z).1
theorem add_nil (a : List Nat) : add a [] = a := List.append_nil a
theorem add_self (a : List Nat) : add a a = a := by
  unfold add
  rw [List.filter_eq_nil_iff.mpr fun x hx => ?_, List.append_nil]
  intro z
  have := (lt_lo.mp (of_decide_eq_true z)).2 x hx
  omega
theorem nil_add {a : List Nat} (h : ∀ c ∈ a, c ≤ 1000) : add [] a = a := by
  unfold add
  rw [List.nil_append]
  exact List.filter_eq_self.mpr fun x hx => decide_eq_true (by
    have := h x hx
    show x < 1001
    omega)
theorem Fall.filter {p : Nat → Bool} : ∀ {l : List Nat}, Fall l → Fall (l.filter p)
  | [], _ => trivial
  | c :: r, f => by
    by_cases h : p c = true
    · rw [List.filter_cons_of_pos h]
      exact ⟨f.1, fun d hd => f.2.1 d (List.mem_filter.mp hd).1, f.2.2.filter⟩
    · rw [List.filter_cons_of_neg h]
      exact f.2.2.filter
theorem Fall.append : ∀ {a b : List Nat}, Fall a → Fall b → (∀ d ∈ b, ∀ x ∈ a, d < x) → Fall (a ++ b)
  | [], b, _, fb, _ => fb
  | c :: r, b, fa, fb, h => ⟨fa.1, fun d hd => by
      rcases List.mem_append.mp hd with z | z
      · exact fa.2.1 d z
      · exact h d z c List.mem_cons_self, fa.2.2.append fb fun d hd x hx => h d hd x (List.mem_cons_of_mem _ hx)⟩
theorem add_fall {a b : List Nat} (fa : Fall a) (fb : Fall b) : Fall (add a b) :=
  fa.append fb.filter fun d hd x hx => (lt_lo.mp (of_decide_eq_true (List.mem_filter.mp hd).2)).2 x hx
theorem add_le {a b : List Nat} (ha : ∀ c ∈ a, c ≤ 1000) (hb : ∀ c ∈ b, c ≤ 1000) : ∀ c ∈ add a b, c ≤ 1000 := fun c hc => by
  rcases List.mem_append.mp hc with z | z
  · exact ha c z
  · exact hb c (List.mem_filter.mp z).1
theorem add_len (a b : List Nat) : (add a b).length ≤ a.length + b.length := by
  unfold add
  rw [List.length_append]
  have := List.length_filter_le (fun d => decide (d < lo a)) b
  omega
/-- the law's own test -/
theorem lo_last {a : List Nat} (fa : Fall a) {d : Nat} (hd : d ≤ 1000) : (d < lo a) ↔ (a = [] ∨ ∃ x, a.getLast? = some x ∧ d < x) := by
  rw [lt_lo]
  by_cases h : a = []
  · subst h
    simp
    omega
  · rw [List.getLast?_eq_some_getLast h]
    constructor
    · rintro ⟨_, h2⟩
      exact .inr ⟨_, rfl, h2 _ (List.getLast_mem h)⟩
    · rintro (z | ⟨x, e, z⟩)
      · exact absurd z h
      · cases e
        exact ⟨by omega, fun y hy => by have := last_le a fa h y hy; omega⟩
/-- what is parted by both -/
theorem pt_add {a b : List Nat} (fa : Fall a) (fb : Fall b) (hb : ∀ c ∈ b, c ≤ 1000) (n : Nat) : pt (add a b) [n] = pt b (pt a [n]) := by
  unfold add
  rw [pt_cat]
  by_cases h : a = []
  · subst h
    have := nil_add hb
    unfold add at this
    rw [List.nil_append] at this
    rw [this]
  · have e : ∀ s ∈ pt a [n], s ≤ a.getLast h := pt_cuts fa.pos [n] _ (List.getLast_mem h)
    rw [pt_idle fb.pos _ e]
    congr 1
    refine List.filter_congr fun d hd => ?_
    rw [decide_eq_decide, lo_last fa (hb d hd), List.getLast?_eq_some_getLast h]
    constructor
    · rintro (z | ⟨x, e, z⟩)
      · exact absurd z h
      · cases e
        exact z
    · exact fun z => .inr ⟨_, rfl, z⟩
theorem add_more {a b : List Nat} (fa : Fall a) (fb : Fall b) (hb : ∀ c ∈ b, c ≤ 1000) {n : Nat} (hn : 0 < n) : L a n ≤ L (add a b) n := by
  rw [← (pt_L a fa n hn).1, ← (pt_L _ (add_fall fa fb) n hn).1, pt_add fa fb hb]
  exact pt_len fb.pos _
end N

end
section
set_option Elab.async false
set_option linter.all false
set_option maxRecDepth 100000
set_option maxHeartbeats 4000000
/-! ## G: defs that are entered with no repr under way (guards known), so that repr of containers can be told -/
namespace G
open PySem PySem.Spec PyProof.Rows L2

/-- a def's promise, kept where no repr is under way -/
structure Ok (P : Program) (w : World) (K : PySem.W.Frag) (mg : Str → Option Value) (base : Heap) (CX : CXT) (k : Nat) (f : Addr) (fd : FuncData) (ps : List Str) (sp : Sp) : Prop where
  len : ∀ vs H Q E, sp vs H Q E → vs.length = ps.length
  go : ∀ (A : Around), A.guards = some [] → ∀ (outer : List Env) (s : Shared) (H : Hp) (args : Args) (us : List Value) (vs : List V) (Q : VK) (E : XK),
    Room k A → Env0 P w K mg base A outer s H → BindsTo s fd args (ps.zip us) → Vals vs us → sp vs H Q E → codeAny (model P w) A (.call (.ref f) args) (CR CX outer P w H s Q E) s
section
variable {P : Program} {w : World} {K : PySem.W.Frag} {mg : Str → Option Value} {base : Heap} {CX : CXT}
theorem Ok.mono {j k : Nat} {f : Addr} {fd : FuncData} {ps : List Str} {sp : Sp} (F : Ok P w K mg base CX j f fd ps sp) (h : j ≤ k) : Ok P w K mg base CX k f fd ps sp :=
  ⟨F.len, fun A hg outer s H args us vs Q E hr => F.go A hg outer s H args us vs Q E (hr.mono h)⟩
theorem Ok.of {k : Nat} {f : Addr} {fd : FuncData} {ps : List Str} {sp : Sp} (F : FnOk P w K mg base CX k f fd ps sp) : Ok P w K mg base CX k f fd ps sp :=
  ⟨F.len, fun A _ => F.run A⟩

theorem mk {k : Nat} {x qual : Str} {st : Stmt} {f : Addr} {fd : FuncData} {N ps : List Str} {sp : Sp} (F : Fun K x qual st f fd) (S : FnScope N ps (defScope st)) (len : ∀ vs H Q E, sp vs H Q E → vs.length = ps.length)
    (walk : ∀ (cdv : Value) (A : Around) (outer : List Env) (s : Shared) (H : Hp) (vs : List V) (Q : VK) (E : XK), A.guards = some [] → Room k (A.deeper (envOfC qual (defScope st) s.heap.objs.size f cdv)) → sp vs H Q E →
      ∃ t, PSs (cxOf CX P w K mg base N qual (defScope st) f cdv A outer s H E).nox (defBody st) t ∧ t { nx := fun _ H' => Q .non H', rt := Q } (start N vs) H) :
    Ok P w K mg base CX (k + 1) f fd ps sp := by
  refine ⟨len, ?_⟩
  obtain ⟨oc, od, kV, doc, pm, an, cdv, ct, osl, hfd, lk, cd⟩ := F.ex
  intro A hg outer s H args us vs Q E hr e0 hb rv hsp
  subst hfd
  have stay : ∀ b o, base.get? b = some o → s.heap.get? b = some o := fun b o e => (e0.bs b o e).1
  have KX : K.In s.heap := e0.mod.kin.keeps stay
  have par : ∀ y ∈ ps.zip us, (defScope st).names.lookup y.1 = some .local ∨ ((defScope st).names.lookup y.1 = some .cell ∧ ((cellsFrom (s.heap.objs.size + 1) (defScope st).names []).lookup y.1).isSome = true) := by
    rintro ⟨n, v⟩ hy
    cases S.par n (List.of_mem_zip hy).1 with
    | inl q => exact .inl q
    | inr q => exact .inr ⟨q, PySem.W.cellsFrom_some _ _ _ (.inl q)⟩
  refine codeAny_call_function hr.depth (KX _ _ lk) rfl S.co S.gen rfl (PySem.W.codeRec_of KX cd) (hb _ _ _ _ (wpAny_newFunctionEnv_cells S.kind par ?_))
  intro env he s1 x
  subst he
  refine ⟨(e0.mod.nolimit.keeps stay).keeps x.toInCall.keep, codeAny_func ?_⟩
  obtain ⟨t, ht, hq⟩ := walk cdv A outer s H vs Q E hg (hr.deeper _) hsp
  refine wpAny_mono (ht.nox.run [] s1 (start N vs) H _ (inv_start S hr.hd e0 (len _ _ _ _ hsp) rv x) hq) ?_ fun e s' hs => hs
  intro fl s' hs
  cases fl with
  | ret u => obtain ⟨v, σ', H', J, ru, q⟩ := hs; exact ⟨v, H', J.os, J.bare, J.base, J.hok, ru, q⟩
  | next => obtain ⟨σ', H', J, q⟩ := hs; exact ⟨.non, H', J.os, J.bare, J.base, J.hok, rfl, q⟩
  | brk => obtain ⟨_, _, _, q⟩ := hs; exact q.elim
  | cont => obtain ⟨_, _, _, q⟩ := hs; exact q.elim

/-- the law's entry: callerA has no guard -/
theorem enter {mb : Str → Option Value} {k : Nat} {fa a : Addr} {fd : FuncData} {x : Str} {sp : Sp} {s₁ : Shared} {vs : List Value} {H : Hp}
    (KX : K.In s₁.heap) (hns : s₁.heap.Ns mainGlobals mg) (hb : s₁.heap.Ns builtinsNs mb) (hbb : ∀ x : Str, x ≠ "__name__" → mb x = bootBuiltins x) (hlim : s₁.heap.NoLimit) (hgen : s₁.gens = #[])
    (ha : s₁.heap.get? a = some { cls := .type "list", data := .seq vs.toArray }) (hr : Room k callerA)
    (F : ∀ base : Heap, K.In base → base.Ns mainGlobals mg → Ok P w K mg base CX k fa fd [x] sp) (hbind : ∀ (s : Shared) (u : Value), BindsTo s fd ⟨[u], []⟩ [(x, u)])
    (hO : Only H) (hok : HOk P w H s₁.heap) (only_a : ∀ b o, H b = some o → b = a) (notK : (∃ o, H a = some o) → K.lookup a = none)
    (hsp : sp [.ref a] H (fun v _ => v = .bl true) fun _ _ _ => False) (hCX : ∀ H e s', CX [] H s₁ (fun _ _ _ => False) e s' → False) :
    codeAny (model P w) callerA (.call (.ref fa) ⟨[.ref a], []⟩) (fun r s' => r = .ok (.ret (.bool true)) ∧ OldK s₁.heap s'.heap ∧ s'.os = s₁.os ∧ AllBare s'.gens) s₁ := by
  have free : ∀ {b : Addr}, b ≠ a → H b = none := fun {b} hne => by
    cases q : H b with
    | none => rfl
    | some u => exact absurd (only_a b u q) hne
  have dic : ∀ {b : Addr} {m : Str → Option Value}, s₁.heap.Ns b m → (hidT s₁.heap H).Ns b m := by
    rintro b m ⟨o, es, ep, e, d, r⟩
    refine ⟨o, es, ep, hidT_get e (free ?_), d, r⟩
    rintro rfl
    rw [ha] at e
    cases e
    cases d
  have kin : K.In (hidT s₁.heap H) := by
    intro b o e
    refine hidT_get (KX b o e) ?_
    cases q : H b with
    | none => rfl
    | some u =>
      have hba := only_a b u q
      subst hba
      rw [notK ⟨u, q⟩] at e
      cases e
  obtain ⟨mc, l1, l2⟩ := hlim
  have e0 : Env0 P w K mg (hidT s₁.heap H) callerA [] s₁ H :=
    { frames := rfl, mod := ⟨kin, dic hns, ⟨mb, dic hb, hbb⟩, ⟨mc, dic l1, l2⟩⟩, bs := fun b o e => of_hidT e, bsz := Nat.le_of_eq (hidT_size _ _), funs := trivial, frf := fun b z => (List.not_mem_nil z).elim, hok := hok, bare := .of_eq hgen }
  refine codeAny_mono ((F _ kin (dic hns)).go callerA rfl [] s₁ H _ [.ref a] _ _ _ hr e0 (hbind s₁ (.ref a)) (.cons (show RelV (.ref a) (.ref a) from rfl) .nil) hsp) ?_
  intro r s' h
  match r, h with
  | .error e, h => exact (hCX H e s' h).elim
  | .ok .next, h => exact h.elim
  | .ok .brk, h => exact h.elim
  | .ok .cont, h => exact h.elim
  | .ok (.ret u), ⟨v, H', os, bare, un, hok', rv, q⟩ =>
    cases (q : v = .bl true)
    cases (rv : u = .bool true)
    refine ⟨rfl, OldK.of_keep fun b o e => ?_, os, bare⟩
    by_cases q : H b = none
    · exact un.keep b o e q List.not_mem_nil List.not_mem_nil
    · rcases hO b with z | ⟨ob, xs, z⟩
      · exact absurd z q
      · have k1 := (hok b _ z).1
        rw [e] at k1
        cases k1
        exact (hok' b _ (un.frzs b _ _ z)).1

theorem walk {l : PySem.W.OpenLaw} {n k : Nat} {q : Program} {loose : List Str} {XP : (Str → Option Value) → Heap → Prop} {YP : World → Heap → Prop} {d : DefRec} {K : Params → PySem.W.Frag} {sp : PySem.W.Frag → Sp} {x : Str}
    (hn : l.most = some n) (hn2 : n ≤ sizeLine) (hdf : d.params.defaults = []) (hr : Room k callerA) (hY : ∀ (w : World) (h : Heap), YP w h → (K w.params).In h)
    (F : ∀ (w : World) (mg : Str → Option Value) (fa : Addr) (h : Heap), (K w.params).In h → h.Ns mainGlobals mg → mg d.name = some (.ref fa) →
      ∃ fd : FuncData, (∀ (s : Shared) (u : Value), BindsTo s fd ⟨[u], []⟩ [(x, u)]) ∧ ∀ base : Heap, (K w.params).In base → base.Ns mainGlobals mg → Ok l.prog w (K w.params) mg base CX0 k fa fd [x] (sp (K w.params)))
    (hsp : ∀ (K : PySem.W.Frag) (H : Hp) (a : Addr) (ns : List Int), ns.length ≤ n → (∀ z ∈ ns, Builtin.Int.intBits z ≤ 1048576) → SqL K H a (ns.map V.int) → sp K [.ref a] H (fun v _ => v = .bl true) fun _ _ _ => False) :
    PySem.W.WalkO q loose XP YP l.row.toRowW d [] (fun f vs => PySem.call f vs) := by
  refine Att.attach_callB hn hdf ?_
  intro w s₀ s₁ mg mb fa o pm cd doc a vs ns G Y ho hd hcd hmg hobj hints hlen hbits hg
  have KX := hY w _ Y
  obtain ⟨fd, hb, hF⟩ := F w mg fa _ KX G.T.g hmg
  have rv := vals_ints hints
  have zl : ns.length ≤ sizeLine := Nat.le_trans hlen hn2
  have wish := fun (H : Hp) (S : SqL (K w.params) H a (ns.map V.int)) => hsp (K w.params) H a ns hlen hbits S
  by_cases hk : (K w.params).lookup a = none
  · refine enter (H := fun b => if b = a then some (.frz { cls := .type "list", data := .seq vs.toArray } (.lst (ns.map V.int))) else none) KX G.T.g G.T.b G.T.builtins G.T.nolimit hg hobj hr hF hb ?_ ?_ ?_ (fun _ => hk) (wish _ ?_) fun _ _ _ z => z
    · intro b
      by_cases e : b = a
      · exact .inr ⟨_, _, if_pos e⟩
      · exact .inl (if_neg e)
    · intro b o e
      by_cases z : b = a
      · subst z
        cases (if_pos rfl).symm.trans e
        exact ⟨hobj, by rw [List.length_map]; exact zl, vs, _, rv, hobj⟩
      · cases (if_neg z).symm.trans e
    · intro b o e
      by_cases z : b = a
      · exact z
      · cases (if_neg z).symm.trans e
    · exact .inl (.inr ⟨_, if_pos rfl⟩)
  · obtain ⟨o, ek⟩ := Option.ne_none_iff_exists'.mp hk
    have eo := (KX a o ek).symm.trans hobj
    cases eo
    refine enter (H := fun _ => none) KX G.T.g G.T.b G.T.builtins G.T.nolimit hg hobj hr hF hb (fun _ => .inl rfl) (fun b o e => nomatch e) (fun b o e => nomatch e) (fun ⟨o, e⟩ => nomatch e) (wish _ ?_) fun _ _ _ z => z
    refine .inr ⟨_, vs.toArray, _, ek, rfl, rfl, rfl, ?_, by simpa using rv⟩
    rw [List.size_toArray, hints.length]
    exact zl
end
end G

end
section
set_option Elab.async false
set_option linter.all false
set_option maxRecDepth 100000
set_option maxHeartbeats 4000000
/-! ## repr of containers; int ** int of great ints -/
namespace G
open PySem PySem.Spec PyProof.Rows L2
def keyD : Key → PyData
  | .inl i => .int i
  | .inr x => .str x
mutual
/-- data at a value: as it is read off the abstract heap; lists and no dict (true), or dicts and no list (false) -/
inductive Dr (K : PySem.W.Frag) (H : Hp) : Bool → V → PyData → Prop
  | non {m : Bool} : Dr K H m .non .none
  | bl {m : Bool} (b : Bool) : Dr K H m (.bl b) (.bool b)
  | int {m : Bool} (i : Int) : Dr K H m (.int i) (.int i)
  | str {m : Bool} (x : Str) : Dr K H m (.str x) (.str x)
  | lst {a : Addr} {xs : List V} {ds : List PyData} : SqL K H a xs → DrA K H true xs ds → Dr K H true (.ref a) (.list ds)
  | tup {m : Bool} {a : Addr} {xs : List V} {ds : List PyData} : SqT K H a xs → DrA K H m xs ds → Dr K H m (.ref a) (.tuple ds)
  | dic {a : Addr} {kvs : List (Key × V)} {ds : List PyData} : H a = some (.dK kvs) → DrA K H false (kvs.map (·.2)) ds → Dr K H false (.ref a) (.dict ((kvs.map fun p => keyD p.1).zip ds))
inductive DrA (K : PySem.W.Frag) (H : Hp) : Bool → List V → List PyData → Prop
  | nil {m : Bool} : DrA K H m [] []
  | cons {m : Bool} {v : V} {vs : List V} {d : PyData} {ds : List PyData} : Dr K H m v d → DrA K H m vs ds → DrA K H m (v :: vs) (d :: ds)
end
theorem DrA.len {K : PySem.W.Frag} {H : Hp} {m : Bool} : ∀ {vs : List V} {ds : List PyData}, DrA K H m vs ds → vs.length = ds.length
  | _, _, .nil => rfl
  | _, _, .cons _ t => congrArg Nat.succ (DrA.len t)
mutual
theorem Dr.noDict {K : PySem.W.Frag} {H : Hp} : ∀ (d : PyData) (v : V), Dr K H true v d → d.hasDict = false
  | .none, _, _ => by simp only [PyData.hasDict]
  | .bool _, _, _ => by simp only [PyData.hasDict]
  | .int _, _, _ => by simp only [PyData.hasDict]
  | .str _, _, _ => by simp only [PyData.hasDict]
  | .list ds, _, h => by
    cases h with
    | lst _ ha => simp only [PyData.hasDict]; exact DrA.noDict ds _ ha
  | .tuple ds, _, h => by
    cases h with
    | tup _ ha => simp only [PyData.hasDict]; exact DrA.noDict ds _ ha
  | .dict _, _, h => by cases h
theorem DrA.noDict {K : PySem.W.Frag} {H : Hp} : ∀ (ds : List PyData) (vs : List V), DrA K H true vs ds → PyData.hasDictAll ds = false
  | [], _, _ => by simp only [PyData.hasDictAll]
  | d :: ds, _, h => by
    cases h with
    | cons a b => simp only [PyData.hasDictAll, Dr.noDict d _ a, DrA.noDict ds _ b, Bool.or_self]
end
theorem keys_read {P : Program} {w : World} {h : Heap} : ∀ {es : List DictEntry} {kvs : List (Key × V)} {vs : List (Key × Value)}, Pairs (mixKind P w) es vs → KV kvs vs →
    ∃ as, ReadsAll h (es.map (·.key)) (kvs.map fun p => keyD p.1) as ∧ as = []
  | _, _, _, .nil, .nil => ⟨_, .nil, rfl⟩
  | _, _, _, .cons hk hv hp, .cons r t => by
    obtain ⟨as, q, e⟩ := keys_read (P := P) (w := w) (h := h) hp t
    subst e
    have hk' : keyIs _ _ = true := hk
    rw [← r.1] at hk'
    rename_i e' _ _ _ p' _
    rcases keyIs_shape hk' with ⟨i, t, ek, ev⟩ | ⟨x, t, ek, ev⟩
    · refine ⟨[], ?_, rfl⟩
      have z := ReadsAll.cons (h := h) (Reads.int i t) q
      rw [← ev] at z
      have ke : keyD p'.1 = .int i := by rw [ek]; rfl
      rw [List.map_cons, List.map_cons, ke]
      exact z
    · refine ⟨[], ?_, rfl⟩
      have z := ReadsAll.cons (h := h) (Reads.str x t) q
      rw [← ev] at z
      have ke : keyD p'.1 = .str x := by rw [ek]; rfl
      rw [List.map_cons, List.map_cons, ke]
      exact z
theorem vals_of {P : Program} {w : World} : ∀ {es : List DictEntry} {kvs : List (Key × V)} {vs : List (Key × Value)}, Pairs (mixKind P w) es vs → KV kvs vs → Vals (kvs.map (·.2)) (es.map (·.val))
  | _, _, _, .nil, .nil => .nil
  | _, _, _, .cons hk hv hp, .cons r t => .cons (by show RelV _ (DictEntry.val _); rw [hv]; exact r.2) (vals_of hp t)
section
variable {X : Cx} {pins : List (Addr × Obj)} {σ : L2.St} {H : Hp} {s : Shared}
mutual
theorem Dr.reads (I : Inv X pins σ H s) {m : Bool} : ∀ (d : PyData) (v : V) (u : Value), Dr X.K H m v d → RelV v u → ∃ as, Reads s.heap u d as ∧ (m = false → sysModules ∉ as)
  | .none, _, _, h, r => by
    cases h
    cases r
    exact ⟨_, Reads.none, fun _ => List.not_mem_nil⟩
  | .bool b, _, _, h, r => by
    cases h
    cases r
    exact ⟨_, Reads.bool b, fun _ => List.not_mem_nil⟩
  | .int i, _, _, h, r => by
    cases h
    obtain ⟨t, rfl⟩ := r
    exact ⟨_, Reads.int i t, fun _ => List.not_mem_nil⟩
  | .str x, _, _, h, r => by
    cases h
    obtain ⟨t, rfl⟩ := r
    exact ⟨_, Reads.str x t, fun _ => List.not_mem_nil⟩
  | .list ds, _, _, h, r => by
    cases h with
    | @lst a xs _ hs ha =>
      cases r
      obtain ⟨its, rv, ⟨o, n, ho, hc, _, hd⟩, _⟩ := I.list hs
      obtain ⟨as, hr, hn⟩ := DrA.reads I ds _ its ha rv
      exact ⟨_, Reads.list ho hc hd hr, fun z => by cases z⟩
  | .tuple ds, _, _, h, r => by
    cases h with
    | tup hs ha =>
      cases r
      obtain ⟨its, rv, ⟨o, ho, hc, n, hd⟩, _⟩ := I.tuple hs
      obtain ⟨as, hr, hn⟩ := DrA.reads I ds _ its ha rv
      exact ⟨_, Reads.tuple ho hc hd hr, hn⟩
  | .dict kds, _, _, h, r => by
    cases h with
    | @dic a kvs ds hs ha =>
      cases r
      obtain ⟨_, hsys, vs, rk, o, es, ep, ho, hx, hd, _, hp, _⟩ := (show ObjOk X.prog X.w H s.heap a (.dK kvs) from I.hok a _ hs)
      obtain ⟨_, hk, e⟩ := keys_read (h := s.heap) hp rk
      subst e
      have hl : (kvs.map fun p => keyD p.1).length = ds.length := by rw [List.length_map, ← ha.len, List.length_map]
      have e1 : ((kvs.map fun p => keyD p.1).zip ds).map (·.1) = kvs.map fun p => keyD p.1 := List.map_fst_zip (Nat.le_of_eq hl)
      have e2 : ((kvs.map fun p => keyD p.1).zip ds).map (·.2) = ds := List.map_snd_zip (Nat.le_of_eq hl.symm)
      have ha' : DrA X.K H false (kvs.map (·.2)) (((kvs.map fun p => keyD p.1).zip ds).map (·.2)) := by rw [e2]; exact ha
      obtain ⟨bs, hr, hn⟩ := DrA.reads2 I ((kvs.map fun p => keyD p.1).zip ds) _ _ ha' (vals_of hp rk)
      refine ⟨_, Reads.dict ho hx.1 hd (by rw [e1]; exact hk) hr, fun _ z => ?_⟩
      rcases List.mem_append.mp z with z | z
      · rcases List.mem_cons.mp z with e | e
        · rw [← e] at hsys
          simp at hsys
        · exact absurd e List.not_mem_nil
      · exact hn rfl z
theorem DrA.reads (I : Inv X pins σ H s) {m : Bool} : ∀ (ds : List PyData) (vs : List V) (us : List Value), DrA X.K H m vs ds → Vals vs us → ∃ as, ReadsAll s.heap us ds as ∧ (m = false → sysModules ∉ as)
  | [], _, _, h, r => by
    cases h
    cases r
    exact ⟨_, ReadsAll.nil, fun _ => List.not_mem_nil⟩
  | d :: ds, _, _, h, r => by
    cases h with
    | cons h1 h2 =>
      cases r with
      | cons r1 r2 =>
        obtain ⟨as, q1, n1⟩ := Dr.reads I d _ _ h1 r1
        obtain ⟨bs, q2, n2⟩ := DrA.reads I ds _ _ h2 r2
        exact ⟨_, ReadsAll.cons q1 q2, fun e z => (List.mem_append.mp z).elim (n1 e) (n2 e)⟩
theorem DrA.reads2 (I : Inv X pins σ H s) {m : Bool} : ∀ (kds : List (PyData × PyData)) (vs : List V) (us : List Value), DrA X.K H m vs (kds.map (·.2)) → Vals vs us → ∃ as, ReadsAll s.heap us (kds.map (·.2)) as ∧ (m = false → sysModules ∉ as)
  | [], _, _, h, r => by
    cases h
    cases r
    exact ⟨_, ReadsAll.nil, fun _ => List.not_mem_nil⟩
  | (k, d) :: ds, _, _, h, r => by
    cases h with
    | cons h1 h2 =>
      cases r with
      | cons r1 r2 =>
        obtain ⟨as, q1, n1⟩ := Dr.reads I d _ _ h1 r1
        obtain ⟨bs, q2, n2⟩ := DrA.reads2 I ds _ _ h2 r2
        exact ⟨_, ReadsAll.cons q1 q2, fun e z => (List.mem_append.mp z).elim (n1 e) (n2 e)⟩
end
end
/-- repr of a list that is not empty: what is read below it is none of the interpreter's own dict -/
theorem repr_top {prog : Program} {w : World} {A : Around} {E : Value → Shared → Prop} {s : Shared} {a : Addr} {o : Obj} {v : Value} {vs : List Value} {n : Nat} {ds : List PyData} {as : List Addr} {Q : Value → Shared → Prop} (ho : s.heap.get? a = some o) (hc : o.cls = .type "list") (hd : o.data = .seq (v :: vs).toArray n)
    (hr : ReadsAll s.heap (v :: vs) ds as) (hn : sysModules ∉ as) (hs : PyData.showableAll ds = true) (hg : A.guards = some []) (hu : A.units + ((PyData.list ds).depth + 1) < cLine) (hz : (PyData.list ds).shown.length ≤ sizeLine)
    (hQ : ∀ h' u tk, (∀ b o, s.heap.get? b = some o → h'.get? b = some o) → Q (.str (PyData.list ds).shown u) { s with heap := h', toks := tk }) : wpAny (model prog w) A (call (.builtin "repr") [.ref a]) Q E s := by
  have depth : (PyData.list ds).depth = PyData.depthAll ds + 1 := by simp only [PyData.depth]
  have text : (PyData.list ds).shown = listText (PyData.shownAll ds) := by simp only [PyData.shown]
  rw [text] at hz
  rw [depth] at hu
  obtain ⟨bs, most, items⟩ := ReprAllK.of_readsAll (prog := prog) (w := w) hr hs (fun _ => hn) (fun t ht => Nat.le_trans (listText_mem_le ht) hz)
  have apart : a ∉ bs := not_mem_of_deeper (.list ho hc hd (by simpa using hr)) (by rw [depth]; omega) most
  refine call_repr_slot (by omega) ⟨o, ho, hc⟩ F.slot_list_repr.toG ?_
  refine call_list_reprK ho hc hd apart (by simpa using items.length_eq) (fun i y e => items.item i y (by simpa using e)) hg (fun b _ => Clear.nil b) (by show A.units + 1 + _ < cLine; omega) (fun _ _ e => e) (fun h' u tk k => ⟨_, _, rfl, ?_⟩) hz
  rw [← text]
  exact hQ h' u tk k
def rRepr (K : PySem.W.Frag) : List V → Hp → VK → Prop := fun xs H Q => ∃ (a : Addr) (m : Bool) (y : V) (ys : List V) (ds : List PyData), xs = [.ref a] ∧ SqL K H a (y :: ys) ∧ DrA K H m (y :: ys) ds ∧ (PyData.list ds).showable = true ∧ (PyData.list ds).depth ≤ 20 ∧ (PyData.list ds).shown.length ≤ sizeLine ∧ Q (.str (PyData.list ds).shown) H
theorem call_repr {X : Cx} (hg : X.A.guards = some []) (hu : X.A.units + 64 < cLine) : CallR X (.builtin "repr") (rRepr X.K) := by
  intro pins s σ H xs us Q I r h
  obtain ⟨a, m, y, ys, ds, rfl, hL, hd, hs, hl, hz, q⟩ := h
  cases r with
  | cons rx rr =>
    cases rr
    cases rx
    have fin : ∀ (h' : Heap) (u : Tok) (tk : Nat), (∀ b o, s.heap.get? b = some o → h'.get? b = some o) → EP X pins σ Q (.str (PyData.list ds).shown u) { s with heap := h', toks := tk } := fun h' u tk k => ⟨.str (PyData.list ds).shown, H, I.kept (t' := tk) k, ⟨u, rfl⟩, q⟩
    obtain ⟨its, rv, ⟨o, n, ho, hc, _, hd'⟩, _⟩ := I.list hL
    obtain ⟨as, hr, hn⟩ := DrA.reads I ds _ its hd rv
    cases m with
    | true =>
      refine repr_of_reads' (.list ho hc hd' hr) hs (fun z => ?_) hg (by omega) (fun _ _ e => e) fin hz
      rw [show (PyData.list ds).hasDict = PyData.hasDictAll ds by simp only [PyData.hasDict], DrA.noDict ds _ hd] at z
      cases z
    | false =>
      cases rv with
      | cons r1 r2 => exact repr_top ho hc hd' hr (hn rfl) (by simpa only [PyData.showable] using hs) hg (by omega) hz fin
def rReprF : List V → Hp → VK → Prop := fun xs H Q => (xs = [.non] ∧ Q (.str "None") H) ∨ (∃ b, xs = [.bl b] ∧ Q (.str (if b then "True" else "False")) H) ∨ ∃ i, xs = [.int i] ∧ i.natAbs.log2 < 1920 ∧ Q (.str (toString i)) H
theorem call_reprF {X : Cx} : CallR X (.builtin "repr") rReprF := by
  intro pins s σ H xs us Q I r h
  rcases h with ⟨rfl, q⟩ | ⟨b, rfl, q⟩ | ⟨i, rfl, hz, q⟩
  · cases r with
    | cons rx rr => cases rr; cases rx; exact PySem.P.repr_of_none ⟨.str _, H, I.tok _, ⟨_, rfl⟩, q⟩
  · cases r with
    | cons rx rr => cases rr; cases rx; exact PySem.P.repr_of_bool ⟨.str _, H, I.tok _, ⟨_, rfl⟩, q⟩
  · cases r with
    | cons rx rr => cases rr; obtain ⟨t, rfl⟩ := rx; exact PySem.P.repr_of_int hz ⟨.str _, H, I.tok _, ⟨_, rfl⟩, q⟩
/-- a ** n, n a small written number, a of any size -/
theorem op_powN {X : Cx} : OpR X (binaryOp .Pow) (rI (fun i j => 0 ≤ j ∧ (Builtin.Int.intBits i : Int) * j ≤ 2 ^ 27) fun i j => .int (i ^ j.toNat)) := opI fun _ _ _ _ _ _ _ hc q => pow_int hc.1 hc.2 q
end G

end
section
set_option Elab.async false
set_option linter.all false
set_option maxRecDepth 100000
set_option maxHeartbeats 4000000
/-! ## max of a list of ints, with and without default= -/
namespace G
open PySem PySem.Spec PyProof.Rows L2 PySem.W
theorem ints_reads {h : Heap} : ∀ {ns : List Int} {us : List Value}, Vals (ns.map V.int) us → ReadsAll h us (ns.map PyData.int) []
  | [], _, r => by cases r; exact .nil
  | n :: ns, _, r => by
    cases r with
    | cons a b =>
      obtain ⟨t, rfl⟩ := a
      exact .cons (as := []) (bs := []) (.int n t) (ints_reads b)
theorem ints_alike : ∀ ns : List Int, AlikeAll (ns.map PyData.int) := by
  intro ns
  refine ⟨fun x hx y hy => ?_, fun x hx => ?_⟩
  · obtain ⟨a, _, rfl⟩ := List.mem_map.mp hx
    obtain ⟨b, _, rfl⟩ := List.mem_map.mp hy
    rfl
  · obtain ⟨a, _, rfl⟩ := List.mem_map.mp hx
    intro z
    cases z
theorem ints_depth : ∀ ns : List Int, PyData.depthAll (ns.map PyData.int) = 0
  | [] => by simp only [List.map_nil, PyData.depthAll]
  | n :: ns => by simp only [List.map_cons, PyData.depthAll, PyData.depth, ints_depth ns, Nat.max_self]
theorem int_reads {h : Heap} {v : Value} {n : Int} {bs : List Addr} (r : Reads h v (.int n) bs) : RelV (.int n) v := by
  cases r
  exact ⟨_, rfl⟩
def rMaxID (K : PySem.W.Frag) : List V → List V → Hp → VK → Prop := fun xs zs H Q => ∃ (a : Addr) (ns : List Int) (d : Int), xs = [.ref a] ∧ zs = [.int d] ∧ SqL K H a (ns.map V.int) ∧ Q (.int (match ns with | [] => d | n :: r => r.foldl max n)) H
section
variable {X : Cx}
theorem call_maxID (hc : X.calm = true) (hu : X.A.units + 64 < cLine) : CallRK X (.builtin "max") ["default"] (rMaxID X.K) := by
  intro pins s σ H xs zs us ws Q I r rz h
  obtain ⟨a, ns, d, rfl, rfl, hL, q⟩ := h
  cases r with
  | cons rx rr =>
    cases rr
    cases rx
    cases rz with
    | cons ra rb =>
      cases rb
      obtain ⟨td, rfl⟩ := ra
      obtain ⟨its, rv, pl, _⟩ := I.list hL
      have hr := ints_reads (h := s.heap) rv
      refine max_list_default (xs := ns.map .int) (d := .int d td) (I.ok.hd hc) pl.isList (by simpa using hr) (ints_alike ns) (by rw [ints_depth]; omega) (fun e h' tk k => ?_) fun y ys i v h' tk bs e hv hR k => ?_
      · cases ns with
        | nil => exact ⟨.int d, H, I.kept (t' := tk) k, ⟨td, rfl⟩, q⟩
        | cons n r => cases e
      · cases ns with
        | nil => cases e
        | cons n r =>
          injection e with e1 e2
          subst e1 e2
          rw [maxD_ints] at hR
          exact ⟨.int _, H, I.kept (t' := tk) k, int_reads hR, q⟩
end
end G

end
section
set_option autoImplicit false
/-! ## ways and what becomes of letters: a mirror, and that a lesser body fares no worse -/
namespace M
inductive LW where
  | cut | tell | drop
  deriving DecidableEq
inductive TW where
  | turn | keep | lose
  deriving DecidableEq
mutual
inductive Way where
  | mk (head : Nat) (steps : List Step)
inductive Step where
  | road (size : Nat) (tellS : Bool) (loose : LW)
  | join (most : Nat)
  | tunnel (w : Way) (most : Nat) (t : TW)
end
def Way.head : Way → Nat
  | .mk h _ => h
def Way.steps : Way → List Step
  | .mk _ s => s
inductive Fate where
  | comes (l : List Nat)
  | told (size : Int) (place : List Nat)
  | silent (place : List Nat)
  deriving DecidableEq
/-- what a step makes of stretches; an end as it is seen from the step -/
def parts (c x : Nat) : List Nat := (List.range ((x + c - 1) / c)).map fun k => min c (x - k * c)
def cutAll (c : Nat) (l : List Nat) : List Nat := l.flatMap (parts c)
def road (h size : Nat) (tellS : Bool) (lw : LW) (sealed : Bool) (l : List Nat) : Fate :=
  if ∀ x ∈ l, x ≤ size - h then .comes l
  else if sealed then (if tellS then .told size [] else .silent [])
  else match lw with
    | .cut => .comes (cutAll (size - h) l)
    | .tell => .told size []
    | .drop => .silent []
def join (most : Nat) (l : List Nat) : Fate := if l.length > most then .silent [] else .comes [l.sum]
def turned (ih : Nat) (t : TW) : Fate → Fate
  | .told s p => if t = .turn then .told (s - ih) p else .silent p
  | .silent p => .silent p
  | .comes _ => .silent []
def seen (i : Nat) : Fate → Fate
  | .told s p => .told s (i :: p)
  | .silent p => .silent (i :: p)
  | .comes l => .comes l
/-- the tunnel, by what the inner way makes of each stretch -/
def tunnel (inner : Nat → Fate) (ih most : Nat) (t : TW) (l : List Nat) : List Nat → Fate
  | [] => .comes l
  | x :: r => match inner x with
    | .comes m => if m.length > most then .silent [] else tunnel inner ih most t l r
    | f => turned ih t f
mutual
def Way.walk (sealed : Bool) : Way → Nat → Fate
  | .mk h steps, b => Way.from sealed h steps 0 [b]
def Way.from (sealed : Bool) (h : Nat) : List Step → Nat → List Nat → Fate
  | [], _, l => .comes l
  | s :: r, i, l => match Step.does sealed h s l with
    | .comes m => Way.from sealed h r (i + 1) m
    | f => seen i f
def Step.does (sealed : Bool) (h : Nat) : Step → List Nat → Fate
  | .road size ts lw, l => road h size ts lw sealed l
  | .join most, l => join most l
  | .tunnel w most t, l => tunnel (fun x => Way.walk sealed w (h + x)) w.head most t l l
end
/-! ### truncation -/
def tr : List Nat → Nat → List Nat
  | _, 0 => []
  | [], _ + 1 => []
  | x :: l, b + 1 => if b + 1 ≤ x then [b + 1] else x :: tr l (b + 1 - x)
theorem tr_zero (l : List Nat) : tr l 0 = [] := by cases l <;> rfl
theorem tr_cons {x b : Nat} {l : List Nat} (hb : 0 < b) : tr (x :: l) b = if b ≤ x then [b] else x :: tr l (b - x) := by
  cases b with
  | zero => omega
  | succ b => rfl
theorem tr_nil (b : Nat) : tr [] b = [] := by cases b <;> rfl
theorem tr_mem : ∀ (l : List Nat) (b x : Nat), x ∈ tr l b → ∃ y ∈ l, x ≤ y
  | [], b, x, h => by rw [tr_nil] at h; cases h
  | y :: l, b, x, h => by
    by_cases hb : 0 < b
    · rw [tr_cons hb] at h
      split at h
      · rename_i hy
        have e : x = b := by simpa using h
        exact ⟨y, List.mem_cons_self, by omega⟩
      · rcases List.mem_cons.mp h with e | e
        · exact ⟨y, List.mem_cons_self, by omega⟩
        · obtain ⟨z, hz, hx⟩ := tr_mem l _ x e
          exact ⟨z, List.mem_cons_of_mem _ hz, hx⟩
    · have e : b = 0 := by omega
      subst e
      rw [tr_zero] at h
      cases h
theorem tr_len : ∀ (l : List Nat) (b : Nat), (tr l b).length ≤ l.length
  | [], b => by rw [tr_nil]; exact Nat.le_refl _
  | y :: l, b => by
    by_cases hb : 0 < b
    · rw [tr_cons hb]
      split
      · simp
      · have := tr_len l (b - y)
        simp; omega
    · have e : b = 0 := by omega
      subst e
      rw [tr_zero]; simp
theorem tr_sum : ∀ (l : List Nat) (b : Nat), b ≤ l.sum → (tr l b).sum = b
  | [], b, h => by rw [tr_nil]; simp at h ⊢; omega
  | y :: l, b, h => by
    by_cases hb : 0 < b
    · rw [tr_cons hb]
      split
      · simp
      · simp at h ⊢
        have := tr_sum l (b - y) (by omega)
        omega
    · have e : b = 0 := by omega
      subst e
      rw [tr_zero]; rfl
theorem tr_all {l : List Nat} (h : ∀ x ∈ l, 0 < x) : tr l l.sum = l := by
  induction l with
  | nil => rfl
  | cons x l ih =>
    have hx := h x List.mem_cons_self
    rw [tr_cons (by simp; omega)]
    cases l with
    | nil => simp
    | cons y r =>
      have hy := h y (by simp)
      rw [if_neg (by simp; omega)]
      have e : (x :: y :: r).sum - x = (y :: r).sum := by simp
      rw [e, ih fun z hz => h z (List.mem_cons_of_mem _ hz)]
theorem tr_append : ∀ (l m : List Nat) (b : Nat), tr (l ++ m) b = if b ≤ l.sum then tr l b else l ++ tr m (b - l.sum)
  | [], m, b => by
    cases b with
    | zero => simp [tr_zero]
    | succ b => simp
  | x :: l, m, b => by
    by_cases hb : 0 < b
    · rw [List.cons_append, tr_cons hb, tr_cons hb, tr_append l m (b - x), List.sum_cons]
      by_cases h1 : b ≤ x
      · rw [if_pos h1, if_pos (by omega), if_pos h1]
      · rw [if_neg h1, if_neg h1]
        by_cases h2 : b ≤ x + l.sum
        · rw [if_pos (by omega), if_pos h2]
        · rw [if_neg (by omega), if_neg h2]
          have e : b - x - l.sum = b - (x + l.sum) := by omega
          rw [e]; rfl
    · have e : b = 0 := by omega
      subst e
      simp [tr_zero]
/-! ### cutting -/
theorem parts_small {c x : Nat} (h0 : 0 < x) (h : x ≤ c) : parts c x = [x] := by
  unfold parts
  have e : (x + c - 1) / c = 1 := by
    have e1 : x + c - 1 = (x - 1) + c * 1 := by omega
    rw [e1, Nat.add_mul_div_left _ _ (by omega : 0 < c), Nat.div_eq_of_lt (by omega)]
  rw [e]
  show [min c (x - 0 * c)] = [x]
  rw [Nat.zero_mul, Nat.sub_zero, Nat.min_eq_right h]
theorem parts_more {c x : Nat} (hc : 0 < c) (h : c < x) : parts c x = c :: parts c (x - c) := by
  unfold parts
  have e : (x + c - 1) / c = (x - c + c - 1) / c + 1 := by
    have e1 : x + c - 1 = (x - c + c - 1) + c * 1 := by omega
    rw [e1, Nat.add_mul_div_left _ _ hc]
  rw [e, List.range_succ_eq_map, List.map_cons, List.map_map]
  congr 1
  · rw [Nat.zero_mul, Nat.sub_zero, Nat.min_eq_left (by omega)]
  · apply List.map_congr_left
    intro k _
    show min c (x - (k + 1) * c) = min c (x - c - k * c)
    rw [Nat.succ_mul]
    congr 1
    omega
theorem parts_ind {c : Nat} {P : Nat → Prop} (hc : 0 < c) (small : ∀ x, 0 < x → x ≤ c → P x) (more : ∀ x, c < x → P (x - c) → P x) (x : Nat) (hx : 0 < x) : P x := by
  induction x using Nat.strongRecOn with
  | _ x ih =>
    by_cases h : x ≤ c
    · exact small x hx h
    · exact more x (by omega) (ih (x - c) (by omega) (by omega))
theorem parts_sum {c x : Nat} (hc : 0 < c) (hx : 0 < x) : (parts c x).sum = x := by
  refine parts_ind (P := fun x => (parts c x).sum = x) hc (fun x h1 h2 => ?_) (fun x h1 ih => ?_) x hx
  · rw [parts_small h1 h2]; simp
  · rw [parts_more hc h1, List.sum_cons, ih]; omega
theorem parts_pos {c x : Nat} (hc : 0 < c) (hx : 0 < x) : ∀ y ∈ parts c x, 0 < y ∧ y ≤ c ∧ y ≤ x := by
  refine parts_ind (P := fun x => ∀ y ∈ parts c x, 0 < y ∧ y ≤ c ∧ y ≤ x) hc (fun x h1 h2 => ?_) (fun x h1 ih => ?_) x hx
  · rw [parts_small h1 h2]
    intro y hy
    have e : y = x := by simpa using hy
    omega
  · rw [parts_more hc h1]
    intro y hy
    rcases List.mem_cons.mp hy with e | e
    · omega
    · have := ih y e
      omega
/-- the first piece -/
theorem parts_head {c x : Nat} (hc : 0 < c) (hx : 0 < x) : ∃ r, parts c x = min c x :: r := by
  by_cases h : x ≤ c
  · exact ⟨[], by rw [parts_small hx h, Nat.min_eq_right h]⟩
  · exact ⟨_, by rw [parts_more hc (by omega), Nat.min_eq_left (by omega)]⟩
theorem parts_tr {c : Nat} (hc : 0 < c) (x : Nat) (hx : 0 < x) : ∀ b, 0 < b → b ≤ x → tr (parts c x) b = parts c b := by
  refine parts_ind (P := fun x => ∀ b, 0 < b → b ≤ x → tr (parts c x) b = parts c b) hc (fun x h1 h2 b hb hbx => ?_) (fun x h1 ih b hb hbx => ?_) x hx
  · rw [parts_small h1 h2, tr_cons hb, if_pos hbx, parts_small hb (by omega)]
  · rw [parts_more hc h1, tr_cons hb]
    by_cases h : b ≤ c
    · rw [if_pos h, parts_small hb h]
    · rw [if_neg h, parts_more (x := b) hc (by omega), ih (b - c) (by omega) (by omega)]
theorem cut_sum {c : Nat} (hc : 0 < c) : ∀ {l : List Nat}, (∀ x ∈ l, 0 < x) → (cutAll c l).sum = l.sum
  | [], _ => rfl
  | x :: l, h => by
    show (parts c x ++ cutAll c l).sum = _
    rw [List.sum_append, parts_sum hc (h x List.mem_cons_self), cut_sum hc fun y hy => h y (List.mem_cons_of_mem _ hy), List.sum_cons]
theorem cut_tr {c : Nat} (hc : 0 < c) : ∀ {l : List Nat} {b : Nat}, (∀ x ∈ l, 0 < x) → b ≤ l.sum → cutAll c (tr l b) = tr (cutAll c l) b
  | [], b, _, _ => by rw [tr_nil]; show [] = tr [] b; rw [tr_nil]
  | x :: l, b, h, hb => by
    have hx := h x List.mem_cons_self
    show _ = tr (parts c x ++ cutAll c l) b
    by_cases h0 : 0 < b
    · rw [tr_append, parts_sum hc hx, tr_cons h0]
      by_cases h1 : b ≤ x
      · rw [if_pos h1, if_pos h1, parts_tr hc x hx b h0 h1]
        show parts c b ++ [] = _
        rw [List.append_nil]
      · rw [if_neg h1, if_neg h1]
        show parts c x ++ cutAll c (tr l (b - x)) = _
        rw [cut_tr hc (fun y hy => h y (List.mem_cons_of_mem _ hy)) (by simp at hb; omega)]
    · have e : b = 0 := by omega
      subst e
      rw [tr_zero, tr_zero]; rfl
theorem cut_same {c : Nat} : ∀ {l : List Nat}, (∀ x ∈ l, 0 < x ∧ x ≤ c) → cutAll c l = l
  | [], _ => rfl
  | x :: l, h => by
    show parts c x ++ cutAll c l = _
    have hx := h x List.mem_cons_self
    rw [parts_small hx.1 hx.2, cut_same fun y hy => h y (List.mem_cons_of_mem _ hy)]
    rfl
/-! ### the stretches of a letter, and those of a lesser one -/
/-- stretches of a body b -/
structure Good (b : Nat) (l : List Nat) : Prop where
  sum : l.sum = b
  ne : l ≠ []
  pos : 0 < b → ∀ x ∈ l, 0 < x
  zero : b = 0 → l = [0]
  first : ∀ x ∈ l, x ≤ l.headD 0
/-- stretches of b beside those of a body that is not less -/
def Rel (b : Nat) (l l' : List Nat) : Prop := if b = 0 then l = [0] else l = tr l' b
theorem good_one (b : Nat) : Good b [b] where
  sum := by simp
  ne := by simp
  pos := fun h x hx => by
    have e : x = b := by simpa using hx
    omega
  zero := fun h => by rw [h]
  first := fun x hx => by
    have e : x = b := by simpa using hx
    rw [e]
    exact Nat.le_refl b
theorem rel_one {b b' : Nat} (h : b ≤ b') : Rel b [b] [b'] := by
  unfold Rel
  split
  · rename_i e; rw [e]
  · rw [tr_cons (by omega), if_pos h]
/-- lesser stretches: each at most one of the greater, the first at most the first; no more of them -/
theorem rel_mem {b b' : Nat} {l l' : List Nat} (h : Rel b l l') (g : Good b' l') : ∀ x ∈ l, ∃ y ∈ l', x ≤ y := by
  unfold Rel at h
  split at h
  · subst h
    intro x hx
    have e : x = 0 := by simpa using hx
    cases l' with
    | nil => exact absurd rfl g.ne
    | cons y r => exact ⟨y, List.mem_cons_self, by omega⟩
  · subst h
    exact tr_mem l' b
theorem rel_len {b b' : Nat} {l l' : List Nat} (h : Rel b l l') (g : Good b' l') : l.length ≤ l'.length := by
  unfold Rel at h
  split at h
  · subst h
    cases l' with
    | nil => exact absurd rfl g.ne
    | cons y r => simp
  · subst h
    exact tr_len l' b
theorem good_cut {b c : Nat} {l : List Nat} (hc : 0 < c) (hb : 0 < b) (g : Good b l) : Good b (cutAll c l) := by
  have p := g.pos hb
  obtain ⟨y, r, rfl⟩ : ∃ y r, l = y :: r := by
    cases l with
    | nil => exact absurd rfl g.ne
    | cons y r => exact ⟨y, r, rfl⟩
  obtain ⟨r', hr⟩ := parts_head hc (p y List.mem_cons_self)
  have e : cutAll c (y :: r) = min c y :: (r' ++ cutAll c r) := by
    show parts c y ++ cutAll c r = _
    rw [hr]; rfl
  refine ⟨by rw [cut_sum hc p, g.sum], by rw [e]; simp, fun _ x hx => ?_, fun h => by omega, fun x hx => ?_⟩
  · obtain ⟨z, hz, hx⟩ := List.mem_flatMap.mp hx
    exact (parts_pos hc (p z hz) x hx).1
  · rw [e]
    show x ≤ min c y
    obtain ⟨z, hz, hx⟩ := List.mem_flatMap.mp hx
    have q := parts_pos hc (p z hz) x hx
    have f : z ≤ y := g.first z hz
    omega
mutual
/-- what a way's steps are: sizes above heads, at least one piece put together -/
def Way.ok : Way → Prop
  | .mk h steps => 0 < h ∧ Step.okAll h steps
def Step.okAll (h : Nat) : List Step → Prop
  | [] => True
  | s :: r => Step.ok h s ∧ Step.okAll h r
def Step.ok (h : Nat) : Step → Prop
  | .road size _ _ => h < size
  | .join most => 0 < most
  | .tunnel w most _ => Way.ok w ∧ 0 < most
end
theorem road_comes {h size : Nat} {ts : Bool} {lw : LW} {sealed : Bool} {l m : List Nat} (e : road h size ts lw sealed l = .comes m) : (m = l ∧ ∀ x ∈ l, x ≤ size - h) ∨ (m = cutAll (size - h) l ∧ sealed = false ∧ lw = .cut ∧ ¬ ∀ x ∈ l, x ≤ size - h) := by
  unfold road at e
  split at e
  · rename_i q
    injection e with e
    exact .inl ⟨e.symm, q⟩
  · rename_i q
    split at e
    · split at e <;> cases e
    · rename_i qs
      split at e
      · injection e with e
        exact .inr ⟨e.symm, by simpa using qs, rfl, q⟩
      · cases e
      · cases e
theorem tunnel_comes {inner : Nat → Fate} {ih most : Nat} {t : TW} {l m : List Nat} : ∀ {r : List Nat}, tunnel inner ih most t l r = .comes m → m = l ∧ ∀ x ∈ r, ∃ k, inner x = .comes k ∧ k.length ≤ most
  | [], e => by
    unfold tunnel at e
    injection e with e
    exact ⟨e.symm, fun x hx => by cases hx⟩
  | x :: r, e => by
    unfold tunnel at e
    split at e
    · rename_i k hk
      split at e
      · cases e
      · rename_i hl
        obtain ⟨h1, h2⟩ := tunnel_comes e
        refine ⟨h1, fun y hy => ?_⟩
        rcases List.mem_cons.mp hy with z | z
        · exact ⟨k, z ▸ hk, by omega⟩
        · exact h2 y z
    · rename_i f hf
      cases hi : inner x with
      | comes k => exact absurd hi (hf k)
      | told s p =>
        rw [hi] at e
        simp only [turned] at e
        split at e <;> cases e
      | silent p =>
        rw [hi] at e
        cases e
theorem tunnel_pass {inner : Nat → Fate} {ih most : Nat} {t : TW} {l : List Nat} : ∀ {r : List Nat}, (∀ x ∈ r, ∃ k, inner x = .comes k ∧ k.length ≤ most) → tunnel inner ih most t l r = .comes l
  | [], _ => rfl
  | x :: r, h => by
    obtain ⟨k, e, hk⟩ := h x List.mem_cons_self
    unfold tunnel
    rw [e]
    show (if k.length > most then _ else _) = _
    rw [if_neg (by omega)]
    exact tunnel_pass fun y hy => h y (List.mem_cons_of_mem _ hy)
theorem rel_cut {b b' c : Nat} {l l' : List Nat} (hc : 0 < c) (hle : b ≤ b') (h : Rel b l l') (g : Good b' l') (g0 : Good b l) : Rel b (if b = 0 then l else cutAll c l) (cutAll c l') := by
  unfold Rel at h ⊢
  split
  · rename_i e
    rw [if_pos e] at h
    exact h
  · rename_i e
    rw [if_neg e] at h
    subst h
    exact cut_tr hc (g.pos (by omega)) (by rw [g.sum]; exact hle)
/-- one road, both letters -/
theorem road_mono {h size : Nat} {ts : Bool} {lw : LW} {sealed : Bool} {b b' : Nat} {l l' m' : List Nat} (hs : h < size) (hle : b ≤ b') (g : Good b l) (g' : Good b' l') (r : Rel b l l') (e : road h size ts lw sealed l' = .comes m') :
    ∃ m, road h size ts lw sealed l = .comes m ∧ Good b m ∧ Good b' m' ∧ Rel b m m' := by
  have hc : 0 < size - h := by omega
  rcases road_comes e with ⟨rfl, ha⟩ | ⟨rfl, rfl, rfl, hn⟩
  · have hl : ∀ x ∈ l, x ≤ size - h := fun x hx => by
      obtain ⟨y, hy, hxy⟩ := rel_mem r g' x hx
      exact Nat.le_trans hxy (ha y hy)
    exact ⟨l, by unfold road; rw [if_pos hl], g, g', r⟩
  · have hb' : 0 < b' := by
      rcases Nat.eq_zero_or_pos b' with z | z
      · rw [g'.zero z] at hn
        exact absurd (fun x hx => by have e : x = 0 := by simpa using hx
                                     omega) hn
      · exact z
    have gm' := good_cut hc hb' g'
    have rm := rel_cut hc hle r g' g
    by_cases hl : ∀ x ∈ l, x ≤ size - h
    · refine ⟨l, by unfold road; rw [if_pos hl], g, gm', ?_⟩
      by_cases hb : b = 0
      · rw [if_pos hb] at rm; exact rm
      · rw [if_neg hb, cut_same fun x hx => ⟨g.pos (by omega) x hx, hl x hx⟩] at rm
        exact rm
    · have hb : ¬ b = 0 := fun z => hl fun x hx => by
        rw [g.zero z] at hx
        have e : x = 0 := by simpa using hx
        omega
      rw [if_neg hb] at rm
      exact ⟨_, by unfold road; rw [if_neg hl, if_neg (by simp)], good_cut hc (by omega) g, gm', rm⟩
mutual
/-- a letter that comes does so for each lesser body -/
theorem Way.mono (sealed : Bool) : ∀ (w : Way), w.ok → ∀ (b b' : Nat) (m' : List Nat), b ≤ b' → w.walk sealed b' = .comes m' → ∃ m, w.walk sealed b = .comes m ∧ Good b m ∧ Good b' m' ∧ Rel b m m'
  | .mk h steps, hw, b, b', m', hle, e => Way.from_mono sealed h steps hw.1 hw.2 0 b b' [b] [b'] m' hle (good_one b) (good_one b') (rel_one hle) e
theorem Way.from_mono (sealed : Bool) (h : Nat) : ∀ (steps : List Step), 0 < h → Step.okAll h steps → ∀ (i b b' : Nat) (l l' m' : List Nat), b ≤ b' → Good b l → Good b' l' → Rel b l l' → Way.from sealed h steps i l' = .comes m' →
    ∃ m, Way.from sealed h steps i l = .comes m ∧ Good b m ∧ Good b' m' ∧ Rel b m m'
  | [], _, _, i, b, b', l, l', m', hle, g, g', r, e => by
    unfold Way.from at e
    injection e with e
    subst e
    exact ⟨l, by unfold Way.from; rfl, g, g', r⟩
  | s :: rest, h0, hok, i, b, b', l, l', m', hle, g, g', r, e => by
    unfold Way.from at e
    split at e
    · rename_i k' hk
      obtain ⟨k, e1, gk, gk', rk⟩ := Step.mono sealed h s h0 hok.1 b b' l l' k' hle g g' r hk
      obtain ⟨m, e2, q⟩ := Way.from_mono sealed h rest h0 hok.2 (i + 1) b b' k k' m' hle gk gk' rk e
      exact ⟨m, by unfold Way.from; rw [e1]; exact e2, q⟩
    · rename_i f hf
      cases hd : Step.does sealed h s l' with
      | comes k => exact absurd hd (hf k)
      | told a p => rw [hd] at e; cases e
      | silent p => rw [hd] at e; cases e
theorem Step.mono (sealed : Bool) (h : Nat) : ∀ (s : Step), 0 < h → Step.ok h s → ∀ (b b' : Nat) (l l' m' : List Nat), b ≤ b' → Good b l → Good b' l' → Rel b l l' → Step.does sealed h s l' = .comes m' →
    ∃ m, Step.does sealed h s l = .comes m ∧ Good b m ∧ Good b' m' ∧ Rel b m m'
  | .road size ts lw, _, hok, b, b', l, l', m', hle, g, g', r, e => by
    unfold Step.does at e ⊢
    exact road_mono hok hle g g' r e
  | .join most, _, hok, b, b', l, l', m', hle, g, g', r, e => by
    unfold Step.does join at e
    split at e
    · cases e
    · rename_i q
      injection e with e
      subst e
      refine ⟨[b], ?_, good_one b, by rw [g'.sum]; exact good_one b', by rw [g'.sum]; exact rel_one hle⟩
      unfold Step.does join
      rw [if_neg (by have := rel_len r g'; omega), g.sum]
  | .tunnel w most t, _, hok, b, b', l, l', m', hle, g, g', r, e => by
    unfold Step.does at e ⊢
    obtain ⟨rfl, ha⟩ := tunnel_comes e
    refine ⟨l, tunnel_pass fun x hx => ?_, g, g', r⟩
    obtain ⟨y, hy, hxy⟩ := rel_mem r g' x hx
    obtain ⟨k', hk', hl'⟩ := ha y hy
    obtain ⟨k, hk, gk, gk', rk⟩ := Way.mono sealed w hok.1 (h + x) (h + y) k' (by omega) hk'
    exact ⟨k, hk, by have := rel_len rk gk'; omega⟩
end
/-- a sealed letter is one piece -/
theorem Way.from_sealed (h : Nat) : ∀ (steps : List Step) (i b : Nat) (m : List Nat), Way.from true h steps i [b] = .comes m → m = [b]
  | [], i, b, m, e => by
    unfold Way.from at e
    injection e with e
    exact e.symm
  | s :: rest, i, b, m, e => by
    unfold Way.from at e
    split at e
    · rename_i k hk
      have hb : k = [b] := by
        cases s with
        | road size ts lw =>
          unfold Step.does at hk
          rcases road_comes hk with ⟨q, _⟩ | ⟨_, q, _⟩
          · exact q
          · cases q
        | join most =>
          unfold Step.does join at hk
          split at hk
          · cases hk
          · injection hk with hk
            simpa using hk.symm
        | tunnel w most t =>
          unfold Step.does at hk
          exact (tunnel_comes hk).1
      subst hb
      exact Way.from_sealed h rest (i + 1) b m e
    · rename_i f hf
      cases hd : Step.does true h s [b] with
      | comes k => exact absurd hd (hf k)
      | told a p => rw [hd] at e; cases e
      | silent p => rw [hd] at e; cases e
theorem Way.walk_sealed (w : Way) (b : Nat) (m : List Nat) (e : w.walk true b = .comes m) : m = [b] := by
  obtain ⟨h, steps⟩ := w
  exact Way.from_sealed h steps 0 b m e
theorem from_cons (sealed : Bool) (h : Nat) (x : Step) (s : List Step) (i : Nat) (l : List Nat) : Way.from sealed h (x :: s) i l = match Step.does sealed h x l with
    | .comes m => Way.from sealed h s (i + 1) m
    | f => seen i f := by
  conv => lhs; unfold Way.from
/-- one way behind another -/
theorem Way.from_append (sealed : Bool) (h : Nat) (r : List Step) : ∀ (s : List Step) (i : Nat) (l : List Nat), Way.from sealed h (s ++ r) i l = match Way.from sealed h s i l with
    | .comes m => Way.from sealed h r (i + s.length) m
    | f => f
  | [], i, l => by
    show Way.from sealed h r i l = _
    rw [show Way.from sealed h [] i l = .comes l by unfold Way.from; rfl]
    rfl
  | x :: s, i, l => by
    rw [List.cons_append, from_cons, from_cons]
    cases hd : Step.does sealed h x l with
    | comes k =>
      show Way.from sealed h (s ++ r) (i + 1) k = _
      rw [Way.from_append sealed h r s (i + 1) k]
      have e : i + 1 + s.length = i + (x :: s).length := by simp; omega
      rw [e]
    | told a p => rfl
    | silent p => rfl
/-- the places of the steps behind i: as if the way began there -/
def shift (i : Nat) : Fate → Fate
  | .told s (p :: q) => .told s ((p + i) :: q)
  | .silent (p :: q) => .silent ((p + i) :: q)
  | f => f
theorem shift_seen (i j : Nat) (f : Fate) : shift i (seen j f) = seen (j + i) f := by cases f <;> rfl
theorem Way.from_shift (sealed : Bool) (h i : Nat) : ∀ (s : List Step) (j : Nat) (l : List Nat), Way.from sealed h s (j + i) l = shift i (Way.from sealed h s j l)
  | [], j, l => by
    rw [show Way.from sealed h [] j l = .comes l by unfold Way.from; rfl, show Way.from sealed h [] (j + i) l = .comes l by unfold Way.from; rfl]
    rfl
  | x :: s, j, l => by
    rw [from_cons, from_cons]
    cases hd : Step.does sealed h x l with
    | comes k =>
      show Way.from sealed h s (j + i + 1) k = shift i (Way.from sealed h s (j + 1) k)
      rw [show j + i + 1 = j + 1 + i by omega]
      exact Way.from_shift sealed h i s (j + 1) k
    | told a p => exact (shift_seen i j _).symm
    | silent p => exact (shift_seen i j _).symm
end M

end
section
set_option Elab.async false
set_option linter.all false
set_option maxRecDepth 100000
set_option maxHeartbeats 4000000
/-! ## the program's ways: good ones -/
namespace WP
open PySem L2 G
def top (i : Nat) : Stmt := PySem.Challenge.pw_roadsizes_k33_bodies_refused.main.body.getD i (.Pass ⟨0, 0, 0, 0⟩)
abbrev sInteger : Stmt := top 2
abbrev sWithin : Stmt := top 3
abbrev sBody : Stmt := top 4
abbrev sMost : Stmt := top 52
abbrev sList : Stmt := top 50
abbrev sStep : Stmt := top 54
abbrev sRoad : Stmt := top 51
abbrev sTells : Stmt := top 53
abbrev sHead : Stmt := top 49
abbrev sInit : Stmt := inClass (top 48) 0
abbrev sLen : Stmt := inClass (top 48) 1
abbrev sAdd : Stmt := inClass (top 48) 5
structure Bn (mg : Str → Option Value) : Prop where
  isi : mg "isinstance" = none
  bool : mg "bool" = none
  int : mg "int" = none
  tuple : mg "tuple" = none
  list : mg "list" = none
  len : mg "len" = none
  enum : mg "enumerate" = none
  max : mg "max" = none
  sum : mg "sum" = none
section
variable {P : Program} {w : World} {K : PySem.W.Frag} {mg : Str → Option Value} {base : Heap}
def spInteger : Sp := fun vs H Q _ => ∃ v : Int, vs = [.int v] ∧ Q (.bl true) H
theorem scIn : FnScope ["value"] ["value"] (defScope sInteger) := ⟨rfl, rfl, rfl, by decide +kernel, rfl, by decide +kernel, by decide +kernel⟩
theorem ok_integer {f : Addr} {fd : FuncData} (F : Fun K "is_integer" "is_integer" sInteger f fd) (B : Bn mg) : FnOk P w K mg base CX0 1 f fd ["value"] spInteger := by
  refine F.ok scIn (fun vs H Q E h => ?_) (fun cdv A outer s H vs Q E hr h => ?_)
  · obtain ⟨v, rfl, _⟩ := h
    rfl
  · obtain ⟨v, rfl, k⟩ := h
    refine ⟨_, pss_one (ps_ret (pe_and (pe_callB call_isi (by rfl) B.isi (by decide +kernel) (pa_cons (pv 0) (pa_cons (pe_bltn (v := .ty "int") (by rfl) B.int (by decide +kernel) rfl) pa_nil)))
      (pe_one (pe_not (pe_callB call_isi (by rfl) B.isi (by decide +kernel) (pa_cons (pv 0) (pa_cons (pe_bltn (v := .ty "bool") (by rfl) B.bool (by decide +kernel) rfl) pa_nil))))))), ?_⟩
    exact ⟨_, rfl, _, _, _, _, _, rfl, .ty _, .base (.int _), kit_ty (r := true) (by decide +kernel), _, rfl, iteT ⟨_, rfl, _, _, _, _, _, rfl, .ty _, .base (.int _), kit_ty (r := false) (by decide +kernel), _, rfl, k⟩⟩
def spWithin : Sp := fun vs H Q _ => ∃ v a b : Int, vs = [.int v, .int a, .int b] ∧ Q (.bl (decide (a ≤ v ∧ v ≤ b))) H
theorem sc3 : FnScope ["value", "least", "greatest"] ["value", "least", "greatest"] (defScope sWithin) := ⟨rfl, rfl, rfl, by decide +kernel, rfl, by decide +kernel, by decide +kernel⟩
theorem ok_within {f fI : Addr} {fd fdI : FuncData} (F : Fun K "is_within" "is_within" sWithin f fd) (B : Bn mg) (FI : Fun K "is_integer" "is_integer" sInteger fI fdI) (gI : mg "is_integer" = some (.ref fI)) (bI : Binds K fdI ["value"] []) : FnOk P w K mg base CX0 2 f fd ["value", "least", "greatest"] spWithin := by
  have GI : FnOk P w K mg base CX0 1 fI fdI ["value"] spInteger := ok_integer FI B
  refine F.ok sc3 (fun vs H Q E h => ?_) (fun cdv A outer s H vs Q E hr h => ?_)
  · obtain ⟨v, a, b, rfl, _⟩ := h
    rfl
  · obtain ⟨v, a, b, rfl, k⟩ := h
    refine ⟨_, pss_one (ps_ret (pe_and (pe_call GI hr rfl gI FI.kp bI .nil pass0 (pa_cons (pv 0) pa_nil)) (pe_one (pe_chain op_le op_le (pv 1) (pv 0) (pv 2))))), ?_⟩
    refine ⟨_, rfl, v, rfl, _, rfl, iteT ?_⟩
    refine ⟨_, rfl, _, rfl, _, _, rfl, rfl, _, rfl, ?_⟩
    refine ite2 (fun h1 => ⟨_, rfl, _, _, rfl, rfl, ?_⟩) (fun h1 => ?_)
    · have e1 : a ≤ v := of_decide_eq_true h1
      have e : decide (a ≤ v ∧ v ≤ b) = decide (v ≤ b) := by
        by_cases z : v ≤ b
        · rw [decide_eq_true z, decide_eq_true ⟨e1, z⟩]
        · rw [decide_eq_false z, decide_eq_false fun q => z q.2]
      rw [e] at k
      exact k
    · have e : decide (a ≤ v ∧ v ≤ b) = false := decide_eq_false fun q => h1 (decide_eq_true q.1)
      rw [e] at k
      exact k
/-- is_body, _is_most of ints -/
def spIn1 (a b : Int) : Sp := fun vs H Q _ => ∃ v : Int, vs = [.int v] ∧ Q (.bl (decide (a ≤ v ∧ v ≤ b))) H
structure Wi (P : Program) (w : World) (K : PySem.W.Frag) (mg : Str → Option Value) (base : Heap) (f : Addr) (fd : FuncData) : Prop where
  ok : FnOk P w K mg base CX0 2 f fd ["value", "least", "greatest"] spWithin
  g : mg "is_within" = some (.ref f)
  k : PySem.W.keepIn K (.ref f) = true
  b : Binds K fd ["value", "least", "greatest"] []
theorem scB : FnScope ["value"] ["value"] (defScope sBody) := ⟨rfl, rfl, rfl, by decide +kernel, rfl, by decide +kernel, by decide +kernel⟩
theorem scM : FnScope ["value"] ["value"] (defScope sMost) := ⟨rfl, rfl, rfl, by decide +kernel, rfl, by decide +kernel, by decide +kernel⟩
theorem ok_body {f fW : Addr} {fd fdW : FuncData} {t : Tok} (F : Fun K "is_body" "is_body" sBody f fd) (W : Wi P w K mg base fW fdW) (g : mg "GREATEST_BODY" = some (.int 1000000000000000000 t)) : FnOk P w K mg base CX0 3 f fd ["value"] (spIn1 0 1000000000000000000) := by
  refine F.ok scB (fun vs H Q E h => ?_) (fun cdv A outer s H vs Q E hr h => ?_)
  · obtain ⟨v, rfl, _⟩ := h
    rfl
  · obtain ⟨v, rfl, k⟩ := h
    exact ⟨_, pss_one (ps_ret (pe_call W.ok hr rfl W.g W.k W.b .nil pass0 (pa_cons (pv 0) (pa_cons pe_int (pa_cons (pe_glob (v := .int 1000000000000000000) rfl g ⟨_, rfl⟩) pa_nil))))), _, rfl, v, 0, 1000000000000000000, rfl, k⟩
theorem ok_most {f fW : Addr} {fd fdW : FuncData} {t : Tok} (F : Fun K "is_most" "is_most" sMost f fd) (W : Wi P w K mg base fW fdW) (g : mg "GREATEST_MOST" = some (.int 1000000000000 t)) : FnOk P w K mg base CX0 3 f fd ["value"] (spIn1 1 1000000000000) := by
  refine F.ok scM (fun vs H Q E h => ?_) (fun cdv A outer s H vs Q E hr h => ?_)
  · obtain ⟨v, rfl, _⟩ := h
    rfl
  · obtain ⟨v, rfl, k⟩ := h
    exact ⟨_, pss_one (ps_ret (pe_call W.ok hr rfl W.g W.k W.b .nil pass0 (pa_cons (pv 0) (pa_cons pe_int (pa_cons (pe_glob (v := .int 1000000000000) rfl g ⟨_, rfl⟩) pa_nil))))), _, rfl, v, 1, 1000000000000, rfl, k⟩
theorem scHd : FnScope ["value"] ["value"] (defScope sHead) := ⟨rfl, rfl, rfl, by decide +kernel, rfl, by decide +kernel, by decide +kernel⟩
theorem ok_head {f fW : Addr} {fd fdW : FuncData} {t : Tok} (F : Fun K "is_head" "is_head" sHead f fd) (W : Wi P w K mg base fW fdW) (g : mg "GREATEST_HEAD" = some (.int 40 t)) : FnOk P w K mg base CX0 3 f fd ["value"] (spIn1 1 40) := by
  refine F.ok scHd (fun vs H Q E h => ?_) (fun cdv A outer s H vs Q E hr h => ?_)
  · obtain ⟨v, rfl, _⟩ := h
    rfl
  · obtain ⟨v, rfl, k⟩ := h
    exact ⟨_, pss_one (ps_ret (pe_call W.ok hr rfl W.g W.k W.b .nil pass0 (pa_cons (pv 0) (pa_cons pe_int (pa_cons (pe_glob (v := .int 40) rfl g ⟨_, rfl⟩) pa_nil))))), _, rfl, v, 1, 40, rfl, k⟩
end
end WP

end
section
set_option Elab.async false
set_option linter.all false
set_option maxRecDepth 100000
set_option maxHeartbeats 4000000
/-! ## ways on the heap -/
namespace M
mutual
def Way.depth : Way → Nat
  | .mk _ s => 1 + Step.deepest s
def Step.deepest : List Step → Nat
  | [] => 0
  | .tunnel w _ _ :: r => max w.depth (Step.deepest r)
  | .road _ _ _ :: r => Step.deepest r
  | .join _ :: r => Step.deepest r
end
mutual
def Way.size : Way → Nat
  | .mk _ s => s.length + Step.inner s
def Step.inner : List Step → Nat
  | [] => 0
  | .tunnel w _ _ :: r => w.size + Step.inner r
  | .road _ _ _ :: r => Step.inner r
  | .join _ :: r => Step.inner r
end
mutual
/-- a way that the program takes -/
def Way.fine : Way → Prop
  | .mk h s => (1 ≤ h ∧ h ≤ 40) ∧ (1 ≤ s.length ∧ s.length ≤ 12) ∧ Step.fineAll h s ∧ 1 + Step.deepest s ≤ 3 ∧ s.length + Step.inner s ≤ 40
def Step.fineAll (h : Nat) : List Step → Prop
  | [] => True
  | s :: r => Step.fine h s ∧ Step.fineAll h r
def Step.fine (h : Nat) : Step → Prop
  | .road size _ _ => h < size ∧ size ≤ 1000
  | .join most => 1 ≤ most ∧ most ≤ 1000000000000
  | .tunnel w most _ => Way.fine w ∧ 1 ≤ most ∧ most ≤ 1000000000000
end
end M
namespace WP
open PySem L2 G
def sdS (b : Bool) : Str := if b then "tell" else "drop"
def lwS : M.LW → Str
  | .cut => "cut"
  | .tell => "tell"
  | .drop => "drop"
def twS : M.TW → Str
  | .turn => "turn"
  | .keep => "keep"
  | .lose => "lose"
def flds (h : Int) (t : Addr) (D Z : Int) : List (Str × V) := putF "size" (.int Z) (putF "depth" (.int D) (putF "steps" (.ref t) (putF "head" (.int h) [])))
theorem nk : ¬ (("head" : Str) = "steps") ∧ ¬ (("head" : Str) = "depth") ∧ ¬ (("head" : Str) = "size") ∧ ¬ (("steps" : Str) = "depth") ∧ ¬ (("steps" : Str) = "size") ∧ ¬ (("depth" : Str) = "size") := by decide +kernel
theorem flds_head (h : Int) (t : Addr) (D Z : Int) : (flds h t D Z).lookup ("head" : Str) = some (.int h) := by
  unfold flds
  rw [lookup_putF, if_neg nk.2.2.1, lookup_putF, if_neg nk.2.1, lookup_putF, if_neg nk.1, lookup_putF, if_pos rfl]
theorem flds_steps (h : Int) (t : Addr) (D Z : Int) : (flds h t D Z).lookup ("steps" : Str) = some (.ref t) := by
  unfold flds
  rw [lookup_putF, if_neg nk.2.2.2.2.1, lookup_putF, if_neg nk.2.2.2.1, lookup_putF, if_pos rfl]
theorem flds_depth (h : Int) (t : Addr) (D Z : Int) : (flds h t D Z).lookup ("depth" : Str) = some (.int D) := by
  unfold flds
  rw [lookup_putF, if_neg nk.2.2.2.2.2, lookup_putF, if_pos rfl]
theorem flds_size (h : Int) (t : Addr) (D Z : Int) : (flds h t D Z).lookup ("size" : Str) = some (.int Z) := by
  unfold flds
  rw [lookup_putF, if_pos rfl]
mutual
/-- a way stands at a -/
def WayAt (C : Addr) (H : Hp) : M.Way → Addr → Prop
  | .mk h s, a => ∃ dx t xs, H a = some (.ins C dx (flds h t ((1 + M.Step.deepest s : Nat) : Int) ((s.length + M.Step.inner s : Nat) : Int))) ∧ H t = some (.tup xs) ∧ StepsAt C H s xs
def StepsAt (C : Addr) (H : Hp) : List M.Step → List V → Prop
  | [], xs => xs = []
  | s :: r, xs => ∃ x ys, xs = x :: ys ∧ StepAt C H s x ∧ StepsAt C H r ys
def StepAt (C : Addr) (H : Hp) : M.Step → V → Prop
  | .road size ts lw, x => ∃ t, x = .ref t ∧ H t = some (.tup [.str "road", .int (size : Int), .str (sdS ts), .str (lwS lw)])
  | .join most, x => ∃ t, x = .ref t ∧ H t = some (.tup [.str "join", .int (most : Int)])
  | .tunnel w most tw, x => ∃ t a, x = .ref t ∧ H t = some (.tup [.str "tunnel", .ref a, .int (most : Int), .str (twS tw)]) ∧ WayAt C H w a
end
mutual
theorem WayAt.mono {C : Addr} {H H' : Hp} (s : Same H H') : ∀ {w : M.Way} {a : Addr}, WayAt C H w a → WayAt C H' w a
  | .mk h st, a, x => by
    unfold WayAt at x ⊢
    obtain ⟨dx, t, xs, h1, h2, h3⟩ := x
    exact ⟨dx, t, xs, s _ _ h1, s _ _ h2, StepsAt.mono s h3⟩
theorem StepsAt.mono {C : Addr} {H H' : Hp} (s : Same H H') : ∀ {st : List M.Step} {xs : List V}, StepsAt C H st xs → StepsAt C H' st xs
  | [], xs, x => by
    unfold StepsAt at x ⊢
    exact x
  | y :: r, xs, x => by
    unfold StepsAt at x ⊢
    obtain ⟨u, ys, e, h1, h2⟩ := x
    exact ⟨u, ys, e, StepAt.mono s h1, StepsAt.mono s h2⟩
theorem StepAt.mono {C : Addr} {H H' : Hp} (s : Same H H') : ∀ {st : M.Step} {x : V}, StepAt C H st x → StepAt C H' st x
  | .road size ts lw, v, x => by
    unfold StepAt at x ⊢
    obtain ⟨t, e, h⟩ := x
    exact ⟨t, e, s _ _ h⟩
  | .join most, v, x => by
    unfold StepAt at x ⊢
    obtain ⟨t, e, h⟩ := x
    exact ⟨t, e, s _ _ h⟩
  | .tunnel w most tw, v, x => by
    unfold StepAt at x ⊢
    obtain ⟨t, a, e, h, h2⟩ := x
    exact ⟨t, a, e, s _ _ h, WayAt.mono s h2⟩
end
theorem StepsAt.get {C : Addr} {H : Hp} : ∀ {st : List M.Step} {xs : List V} {i : Nat} {x : V}, StepsAt C H st xs → xs[i]? = some x → ∃ s, st[i]? = some s ∧ StepAt C H s x
  | [], xs, i, x, h, e => by
    unfold StepsAt at h
    subst h
    cases e
  | y :: r, xs, 0, x, h, e => by
    unfold StepsAt at h
    obtain ⟨u, ys, rfl, h1, _⟩ := h
    cases e
    exact ⟨y, rfl, h1⟩
  | y :: r, xs, i + 1, x, h, e => by
    unfold StepsAt at h
    obtain ⟨u, ys, rfl, _, h2⟩ := h
    obtain ⟨s, a, b⟩ := StepsAt.get (i := i) h2 e
    exact ⟨s, a, b⟩
theorem StepsAt.len {C : Addr} {H : Hp} : ∀ {st : List M.Step} {xs : List V}, StepsAt C H st xs → xs.length = st.length
  | [], xs, h => by
    unfold StepsAt at h
    subst h
    rfl
  | y :: r, xs, h => by
    unfold StepsAt at h
    obtain ⟨u, ys, rfl, _, h2⟩ := h
    exact congrArg Nat.succ h2.len
theorem fine_get {h : Nat} : ∀ {st : List M.Step} {i : Nat} {s : M.Step}, M.Step.fineAll h st → st[i]? = some s → M.Step.fine h s
  | [], i, s, _, e => by cases e
  | y :: r, 0, s, f, e => by
    unfold M.Step.fineAll at f
    cases e
    exact f.1
  | y :: r, i + 1, s, f, e => by
    unfold M.Step.fineAll at f
    exact fine_get (i := i) f.2 e
end WP

end
section
set_option Elab.async false
set_option linter.all false
set_option maxRecDepth 100000
set_option maxHeartbeats 4000000
namespace WP
open PySem L2 G
theorem Same.of_upd {H : Hp} {p : Addr} {o : HO} (h : H p = none) : Same H (upd H p o) := fun a u e => by
  rw [upd_ne (ne_of_none e h)]
  exact e
/-- the class Way, the module's constants -/
structure Wt (K : PySem.W.Frag) (mg : Str → Option Value) (C : Addr) : Prop where
  g : mg "Way" = some (.ref C)
  cl : Cls K C
  nH : NoAttr K C "head"
  nS : NoAttr K C "steps"
  nD : NoAttr K C "depth"
  nZ : NoAttr K C "size"
  iA : PySem.W.findIn K (.ref C) "__class__" = some (some (.builtin "object.__class__"))
  iN : PySem.W.specialIn K (.builtin "object.__class__") "__get__" = some (some (.builtin "getset_descriptor.__get__"))
  iT : PySem.W.takesIn K (.builtin "object.__class__") = some true
  iM : PySem.W.mroIn K C (.type "object") = some true
  gHead : ∃ t, mg "GREATEST_HEAD" = some (.int 40 t)
  gRoad : ∃ t, mg "GREATEST_ROAD" = some (.int 1000 t)
  gMost : ∃ t, mg "GREATEST_MOST" = some (.int 1000000000000 t)
  gSteps : ∃ t, mg "MOST_STEPS" = some (.int 12 t)
  gDepth : ∃ t, mg "GREATEST_DEPTH" = some (.int 3 t)
  gSize : ∃ t, mg "GREATEST_SIZE" = some (.int 40 t)
  wS : ∃ a, mg "SEALED_WORDS" = some (.ref a) ∧ ∀ H, SqT K H a [.str "tell", .str "drop"]
  wL : ∃ a, mg "LOOSE_WORDS" = some (.ref a) ∧ ∀ H, SqT K H a [.str "cut", .str "tell", .str "drop"]
  wT : ∃ a, mg "TELLS_WORDS" = some (.ref a) ∧ ∀ H, SqT K H a [.str "turn", .str "keep", .str "lose"]
/-- a def of the text that is called by its name -/
structure Df (P : Program) (w : World) (K : PySem.W.Frag) (mg : Str → Option Value) (base : Heap) (k : Nat) (x : Str) (ps : List Str) (sp : Sp) : Prop where
  ex : ∃ (f : Addr) (fd : FuncData), FnOk P w K mg base CX0 k f fd ps sp ∧ mg x = some (.ref f) ∧ PySem.W.keepIn K (.ref f) = true ∧ Binds K fd ps []
section
variable {P : Program} {w : World} {K : PySem.W.Frag} {mg : Str → Option Value} {base : Heap} {C : Addr}
def spRoad : Sp := fun vs H Q _ => ∃ (size : Nat) (least : Int) (ts : Bool) (lw : M.LW), vs = [.int (size : Int), .str (sdS ts), .str (lwS lw), .int least] ∧ least ≤ (size : Int) ∧ size ≤ 1000 ∧ Q (.bl true) H
theorem in_sd (b : Bool) : inV (.str (sdS b)) [.str "tell", .str "drop"] = true := by cases b <;> decide +kernel
theorem in_lw (l : M.LW) : inV (.str (lwS l)) [.str "cut", .str "tell", .str "drop"] = true := by cases l <;> decide +kernel
theorem in_tw (l : M.TW) : inV (.str (twS l)) [.str "turn", .str "keep", .str "lose"] = true := by cases l <;> decide +kernel
theorem scR : FnScope ["size", "sealed", "loose", "least"] ["size", "sealed", "loose", "least"] (defScope sRoad) := ⟨rfl, rfl, rfl, by decide +kernel, rfl, by decide +kernel, by decide +kernel⟩
theorem ok_road {f : Addr} {fd : FuncData} (F : Fun K "is_road" "is_road" sRoad f fd) (T : Wt K mg C) (W : Df P w K mg base 2 "is_within" ["value", "least", "greatest"] spWithin) : FnOk P w K mg base CX0 3 f fd ["size", "sealed", "loose", "least"] spRoad := by
  obtain ⟨fW, fdW, GW, gW, kW, bW⟩ := W.ex
  obtain ⟨t1, g1⟩ := T.gRoad
  obtain ⟨aS, g2, q2⟩ := T.wS
  obtain ⟨aL, g3, q3⟩ := T.wL
  refine F.ok scR (fun vs H Q E h => ?_) (fun cdv A outer s H vs Q E hr h => ?_)
  · obtain ⟨size, least, ts, lw, rfl, _⟩ := h
    rfl
  · obtain ⟨size, least, ts, lw, rfl, hs, hs2, k⟩ := h
    refine ⟨_, pss_one (ps_ret (pe_and (pe_call GW hr rfl gW kW bW .nil pass0 (pa_cons (pv 0) (pa_cons (pv 3) (pa_cons (pe_glob (v := .int 1000) rfl g1 ⟨_, rfl⟩) pa_nil)))) (pe_and (pe_cmpR op_in_seq (pv 1) (pe_glob (v := .ref aS) rfl g2 rfl) (by rfl)) (pe_one (pe_cmpR op_in_seq (pv 2) (pe_glob (v := .ref aL) rfl g3 rfl) (by rfl)))))), ?_⟩
    have e : decide (least ≤ (size : Int) ∧ (size : Int) ≤ 1000) = true := decide_eq_true (by omega)
    refine ⟨_, rfl, _, rfl, (size : Int), least, 1000, rfl, ?_⟩
    rw [e]
    refine ⟨_, rfl, ?_⟩
    refine iteT ⟨_, rfl, aS, _, rfl, .inr (q2 _), rfl, rfl, ?_⟩
    rw [in_sd]
    refine ⟨_, rfl, iteT ⟨_, rfl, aL, _, rfl, .inr (q3 _), rfl, rfl, ?_⟩⟩
    rw [in_lw]
    exact k
def spTells : Sp := fun vs H Q _ => ∃ tw : M.TW, vs = [.str (twS tw)] ∧ Q (.bl true) H
theorem scT : FnScope ["value"] ["value"] (defScope sTells) := ⟨rfl, rfl, rfl, by decide +kernel, rfl, by decide +kernel, by decide +kernel⟩
theorem ok_tells {f : Addr} {fd : FuncData} (F : Fun K "is_tells" "is_tells" sTells f fd) (T : Wt K mg C) : FnOk P w K mg base CX0 1 f fd ["value"] spTells := by
  obtain ⟨aT, g2, q2⟩ := T.wT
  refine F.ok scT (fun vs H Q E h => ?_) (fun cdv A outer s H vs Q E hr h => ?_)
  · obtain ⟨tw, rfl, _⟩ := h
    rfl
  · obtain ⟨tw, rfl, k⟩ := h
    refine ⟨_, pss_one (ps_ret (pe_cmpR op_in_seq (pv 0) (pe_glob (v := .ref aT) rfl g2 rfl) (by rfl))), ?_⟩
    refine ⟨_, rfl, aT, _, rfl, .inr (q2 _), rfl, rfl, ?_⟩
    rw [in_tw]
    exact k
/-- is_step_list, of a list or a tuple -/
def spList (K : PySem.W.Frag) : Sp := fun vs H Q _ => ∃ (l : Addr) (xs : List V), vs = [.ref l] ∧ (H l = some (.lst xs) ∨ H l = some (.tup xs)) ∧ 1 ≤ xs.length ∧ xs.length ≤ 12 ∧ ∀ H', Same H H' → Q (.bl true) H'
theorem scLi : FnScope ["value"] ["value"] (defScope sList) := ⟨rfl, rfl, rfl, by decide +kernel, rfl, by decide +kernel, by decide +kernel⟩
theorem ok_list {f : Addr} {fd : FuncData} (F : Fun K "is_step_list" "is_step_list" sList f fd) (B : Bn mg) (T : Wt K mg C) : FnOk P w K mg base CX0 1 f fd ["value"] (spList K) := by
  obtain ⟨t1, g1⟩ := T.gSteps
  refine F.ok scLi (fun vs H Q E h => ?_) (fun cdv A outer s H vs Q E hr h => ?_)
  · obtain ⟨l, xs, rfl, _⟩ := h
    rfl
  · obtain ⟨l, xs, rfl, hl, l1, l2, k⟩ := h
    refine ⟨_, pss_one (ps_ret (pe_and (pe_callB call_isiT (by rfl) B.isi (by decide +kernel) (pa_cons (pv 0) (pa_cons (pe_tup (pa_cons (pe_bltn (v := .ty "list") (by rfl) B.list (by decide +kernel) rfl) (pa_cons (pe_bltn (v := .ty "tuple") (by rfl) B.tuple (by decide +kernel) rfl) pa_nil))) pa_nil)))
      (pe_one (pe_chain op_le op_le pe_int (pe_callB call_len_seq (by rfl) B.len PySem.boot_len (pa_cons (pv 0) pa_nil)) (pe_glob (v := .int 12) rfl g1 ⟨_, rfl⟩))))), ?_⟩
    refine ⟨_, rfl, by show 2 ≤ sizeLine; decide, fun p np => ?_⟩
    have sp : Same H (upd H p (.tup [.ty "list", .ty "tuple"])) := Same.of_upd np
    have fin : ∀ (n : Int), n = (xs.length : Int) → ∀ Q' : VK, (∀ H', Same H H' → Q' (.bl true) H') → (∃ i j, V.int 1 = .int i ∧ V.int n = .int j ∧ ∃ k, V.bl (decide (i ≤ j)) = .bl k ∧ if k = true then ∃ i2 j2, V.int n = .int i2 ∧ V.int 12 = .int j2 ∧ Q' (.bl (decide (i2 ≤ j2))) (upd H p (.tup [.ty "list", .ty "tuple"])) else Q' (.bl false) (upd H p (.tup [.ty "list", .ty "tuple"]))) := by
      intro n hn Q' k'
      refine ⟨_, _, rfl, rfl, _, rfl, ?_⟩
      rw [decide_eq_true (by omega)]
      refine iteT ⟨_, _, rfl, rfl, ?_⟩
      rw [decide_eq_true (by omega)]
      exact k' _ sp
    have kl : PySem.W.kitAny K (.type "list") [.type "list", .type "tuple"] = some true := by
      unfold PySem.W.kitAny
      rw [kit_ty (r := true) (by decide +kernel)]
    have kt : PySem.W.kitAny K (.type "tuple") [.type "list", .type "tuple"] = some true := by
      unfold PySem.W.kitAny
      rw [kit_ty (r := false) (by decide +kernel)]
      unfold PySem.W.kitAny
      rw [kit_ty (r := true) (by decide +kernel)]
    rcases hl with hl | hl
    · exact ⟨_, p, _, _, _, _, rfl, upd_same, .cons (.ty _) (.cons (.ty _) .nil), .base (.lst (sp _ _ hl)), kl, _, rfl, iteT ⟨_, rfl, l, xs, rfl, .inl (SqL.of (sp _ _ hl)), fin _ rfl _ k⟩⟩
    · exact ⟨_, p, _, _, _, _, rfl, upd_same, .cons (.ty _) (.cons (.ty _) .nil), .base (.tup (sp _ _ hl)), kt, _, rfl, iteT ⟨_, rfl, l, xs, rfl, .inr (SqT.of (sp _ _ hl)), fin _ rfl _ k⟩⟩
/-- _is_step of a good step -/
def spStep (C : Addr) : Sp := fun vs H Q _ => ∃ (x : V) (h : Nat) (st : M.Step), vs = [x, .int (h : Int)] ∧ StepAt C H st x ∧ M.Step.fine h st ∧ Q (.bl true) H
theorem scSt : FnScope ["value", "head", "kind"] ["value", "head"] (defScope sStep) := ⟨rfl, rfl, rfl, by decide +kernel, rfl, by decide +kernel, by decide +kernel⟩
theorem kinds : ("road" : Str) ≠ "join" ∧ ("road" : Str) ≠ "tunnel" ∧ ("join" : Str) ≠ "tunnel" ∧ ("join" : Str) ≠ "road" ∧ ("tunnel" : Str) ≠ "road" ∧ ("tunnel" : Str) ≠ "join" := by decide +kernel
theorem ok_step {f : Addr} {fd : FuncData} (F : Fun K "_is_step" "_is_step" sStep f fd) (B : Bn mg) (T : Wt K mg C) (WR : Df P w K mg base 3 "is_road" ["size", "sealed", "loose", "least"] spRoad) (WM : Df P w K mg base 3 "is_most" ["value"] (spIn1 1 1000000000000)) (WT : Df P w K mg base 1 "is_tells" ["value"] spTells) :
    FnOk P w K mg base CX0 5 f fd ["value", "head"] (spStep C) := by
  obtain ⟨fR, fdR, GR, gR, kR, bR⟩ := WR.ex
  obtain ⟨fM, fdM, GM, gM, kM, bM⟩ := WM.ex
  obtain ⟨fT, fdT, GT, gT, kT, bT⟩ := WT.ex
  refine F.ok scSt (fun vs H Q E h => ?_) (fun cdv A outer s H vs Q E hr h => ?_)
  · obtain ⟨x, h, st, rfl, _⟩ := h
    rfl
  · obtain ⟨x, h, st, rfl, hx, hf, k⟩ := h
    refine ⟨_, pss_cons (ps_if (PW.pt (pw_or (pt_not (pt_val (pe_callB call_isi (by rfl) B.isi (by decide +kernel) (pa_cons (pv 0) (pa_cons (pe_bltn (v := .ty "tuple") (by rfl) B.tuple (by decide +kernel) rfl) pa_nil))))) (pw_or1 (pt_cmpR (op_eq) (pe_callB call_len_seq (by rfl) B.len PySem.boot_len (pa_cons (pv 0) pa_nil)) (pe_int) (nomark _))))) (pss_one (ps_ret pe_bl)) (pss_nil))
      (pss_cons (ps_set (i := 2) scSt.nd rfl (Or.inl rfl) (pe_ix ix_tup (pv 0) pe_int (fun _ _ => rfl)))
      (pss_cons (ps_if (pt_cmpR (op_eq) (pv 2) (pe_str) (nomark _)) (pss_one (ps_ret (pe_and (pe_cmpR (op_eq) (pe_callB call_len_seq (by rfl) B.len PySem.boot_len (pa_cons (pv 0) pa_nil)) (pe_int) (nomark _)) (pe_one (pe_call GR (hr.mono (by decide)) rfl gR kR bR .nil pass0 (pa_cons (pe_ix ix_tup (pv 0) pe_int (fun _ _ => rfl)) (pa_cons (pe_ix ix_tup (pv 0) pe_int (fun _ _ => rfl)) (pa_cons (pe_ix ix_tup (pv 0) pe_int (fun _ _ => rfl)) (pa_cons (pe_op op_add (pv 1) (pe_int)) pa_nil))))))))) (pss_nil))
      (pss_cons (ps_if (pt_cmpR (op_eq) (pv 2) (pe_str) (nomark _)) (pss_one (ps_ret (pe_and (pe_cmpR (op_eq) (pe_callB call_len_seq (by rfl) B.len PySem.boot_len (pa_cons (pv 0) pa_nil)) (pe_int) (nomark _)) (pe_one (pe_call GM (hr.mono (by decide)) rfl gM kM bM .nil pass0 (pa_cons (pe_ix ix_tup (pv 0) pe_int (fun _ _ => rfl)) pa_nil)))))) (pss_nil))
      (pss_cons (ps_if (pt_cmpR (op_eq) (pv 2) (pe_str) (nomark _)) (pss_one (ps_ret (pe_and (pe_cmpR (op_eq) (pe_callB call_len_seq (by rfl) B.len PySem.boot_len (pa_cons (pv 0) pa_nil)) (pe_int) (nomark _)) (pe_and (pe_callB call_isi (by rfl) B.isi (by decide +kernel) (pa_cons (pe_ix ix_tup (pv 0) pe_int (fun _ _ => rfl)) (pa_cons (pe_glob (v := .ref C) rfl T.g rfl) pa_nil))) (pe_and (pe_call GM (hr.mono (by decide)) rfl gM kM bM .nil pass0 (pa_cons (pe_ix ix_tup (pv 0) pe_int (fun _ _ => rfl)) pa_nil)) (pe_one (pe_call GT (hr.mono (by decide)) rfl gT kT bT .nil pass0 (pa_cons (pe_ix ix_tup (pv 0) pe_int (fun _ _ => rfl)) pa_nil)))))))) (pss_nil))
      (pss_one (ps_ret pe_bl)))))), ?_⟩
    have pre : ∀ (t : Addr) (y : V) (ys : List V), x = .ref t → H t = some (.tup (y :: ys)) → ∀ (D : Ends) (rest : TS), rest D [some x, some (.int (h : Int)), some y] H →
        tSeq (tIfS (tOr (tNot (tB (tCB (rIsi K) (tCons (tVar 0) (tCons (tC (.ty "tuple")) tNil))))) (tTest (tOp rEq (tCB (fun xs H Q => ∃ p ys, xs = [.ref p] ∧ (SqL K H p ys ∨ SqT K H p ys) ∧ Q (.int ys.length) H) (tCons (tVar 0) tNil)) (tC (.int 0))))) (tRet (tC (.bl false))) tNext)
          (tSeq (tAsg (tOp (rIxT K) (tVar 0) (tC (.int 0))) (gName 2)) rest) D [some x, some (.int (h : Int)), none] H := by
      intro t y ys ex ht D rest q
      subst ex
      refine ⟨_, rfl, _, _, _, _, _, rfl, .ty _, .base (.tup ht), kit_ty (r := true) (by decide +kernel), _, rfl, iteF ⟨_, rfl, t, _, rfl, .inr (SqT.of ht), rfl, _, rfl, ?_⟩⟩
      have e : decide (V.int ((y :: ys).length : Int) = V.int 0) = false := decide_eq_false (by
        intro z
        injection z with z
        simp at z
        omega)
      rw [e]
      exact iteF ⟨_, rfl, t, _, _, y, rfl, rfl, SqT.of ht, (by exact atI_nat (xs := y :: ys) (j := 0) rfl), q⟩
    have yes : ∀ {a : Str}, decide (V.str a = V.str a) = true := decide_eq_true rfl
    have no : ∀ {a b : Str}, a ≠ b → decide (V.str a = V.str b) = false := fun h => decide_eq_false fun z => h (V.str.inj z)
    cases st with
    | road size ts lw =>
      unfold StepAt at hx
      unfold M.Step.fine at hf
      obtain ⟨t, rfl, ht⟩ := hx
      refine pre t _ _ rfl ht _ _ ⟨_, rfl, rfl, _, rfl, ?_⟩
      rw [yes]
      exact iteT ⟨_, rfl, t, _, rfl, .inr (SqT.of ht), rfl, _, rfl, iteT ⟨_, rfl, t, _, _, _, rfl, rfl, SqT.of ht, (by exact atI_nat (xs := [V.str "road", .int (size : Int), .str (sdS ts), .str (lwS lw)]) (j := 1) rfl), _, rfl, t, _, _, _, rfl, rfl, SqT.of ht, (by exact atI_nat (xs := [V.str "road", .int (size : Int), .str (sdS ts), .str (lwS lw)]) (j := 2) rfl), _, rfl, t, _, _, _, rfl, rfl, SqT.of ht, (by exact atI_nat (xs := [V.str "road", .int (size : Int), .str (sdS ts), .str (lwS lw)]) (j := 3) rfl), _, rfl, _, _, rfl, rfl, size, (h : Int) + 1, ts, lw, rfl, by omega, hf.2, k⟩⟩
    | join most =>
      unfold StepAt at hx
      unfold M.Step.fine at hf
      obtain ⟨t, rfl, ht⟩ := hx
      refine pre t _ _ rfl ht _ _ ⟨_, rfl, rfl, _, rfl, ?_⟩
      rw [no kinds.2.2.2.1]
      refine iteF ⟨_, rfl, rfl, _, rfl, ?_⟩
      rw [yes]
      refine iteT ⟨_, rfl, t, _, rfl, .inr (SqT.of ht), rfl, _, rfl, iteT ⟨_, rfl, t, _, _, _, rfl, rfl, SqT.of ht, (by exact atI_nat (xs := [V.str "join", V.int (most : Int)]) (j := 1) rfl), most, rfl, ?_⟩⟩
      rw [decide_eq_true (by omega)]
      exact k
    | tunnel w most tw =>
      unfold StepAt at hx
      unfold M.Step.fine at hf
      obtain ⟨t, a, rfl, ht, hw⟩ := hx
      refine pre t _ _ rfl ht _ _ ⟨_, rfl, rfl, _, rfl, ?_⟩
      rw [no kinds.2.2.2.2.1]
      refine iteF ⟨_, rfl, rfl, _, rfl, ?_⟩
      rw [no kinds.2.2.2.2.2]
      refine iteF ⟨_, rfl, rfl, _, rfl, ?_⟩
      rw [yes]
      obtain ⟨wh, ws⟩ := w
      unfold WayAt at hw
      obtain ⟨dx, u, xs, h1, _, _⟩ := hw
      have kit : PySem.W.kitOne K (.ref C) (.ref C) = some true := by
        unfold PySem.W.kitOne
        rw [if_pos (by simp)]
      refine iteT ⟨_, rfl, t, _, rfl, .inr (SqT.of ht), rfl, _, rfl, iteT ⟨_, rfl, t, _, _, _, rfl, rfl, SqT.of ht, (by exact atI_nat (xs := [V.str "tunnel", .ref a, .int (most : Int), .str (twS tw)]) (j := 1) rfl), _, _, _, _, true, rfl, .own C, .base (.ins h1 T.cl T.iA T.iN T.iT T.iM), kit, _, rfl, iteT ⟨_, rfl, t, _, _, _, rfl, rfl, SqT.of ht, (by exact atI_nat (xs := [V.str "tunnel", .ref a, .int (most : Int), .str (twS tw)]) (j := 2) rfl), most, rfl, ?_⟩⟩⟩
      rw [decide_eq_true (by omega)]
      exact ⟨_, rfl, iteT ⟨_, rfl, t, _, _, _, rfl, rfl, SqT.of ht, (by exact atI_nat (xs := [V.str "tunnel", .ref a, .int (most : Int), .str (twS tw)]) (j := 3) rfl), tw, rfl, k⟩⟩
end
end WP

end
section
set_option autoImplicit false
set_option Elab.async false
set_option linter.all false
set_option maxRecDepth 100000
set_option maxHeartbeats 4000000
namespace WP
open PySem L2 G PyProof.Rows
/-! ### a tuple that is counted through -/
theorem en_new {v : Value} {o : Obj} {Hd : Heap → Prop} (B : Begins v o Hd) : Meets (Builtin.«enumerate.__new__» ⟨[.type "enumerate", v], []⟩) (fun _ R u => Hd u.heap ∧ R (.ok (.ret (.ref (u.heap.push o).objs.size))) { u with heap := (u.heap.push o).push { cls := .type "enumerate", data := .fields #[.none, .bool false, .ref u.heap.objs.size, rawInt 0, .none, .none] } }) :=
  .of_wp fun prog w A R u h => by
    obtain ⟨x, g, d, k, os⟩ := u
    obtain ⟨h1, h⟩ := h
    have sb := sub_enumerate
    have q1 : ∀ {A2 : Around} {E : Value → Shared → Prop} {Q : Value → Shared → Prop}, Q (.ref x.objs.size) ⟨x.push o, g, d, k, os⟩ → wpAny (model prog w) A2 (pyIter v) Q E ⟨x, g, d, k, os⟩ := fun q => B.iter prog w _ _ ⟨x, g, d, k, os⟩ _ h1 q
    wp_walk using q1
    refine wpAny_stack_any fun _ => wpAny_pure ?_
    split
    · rename_i c _ _ _ _ _
      cases (c == Value.type "enumerate") <;> (wp_walk using q1; exact ⟨_, rfl, h⟩)
    · (wp_walk using q1; exact ⟨_, rfl, h⟩)
theorem en_call {prog : Program} {w : World} {A : Around} {E : Value → Shared → Prop} {s : Shared} {v : Value} {o : Obj} {Hd : Heap → Prop} {Q : Value → Shared → Prop} (B : Begins v o Hd) (h1 : Hd s.heap)
    (h : ∀ u, IsEnum u (s.heap.objs.size + 1) s.heap.objs.size 0 .none → u.get? s.heap.objs.size = some o → (∀ b p, s.heap.get? b = some p → u.get? b = some p) → Q (.ref (s.heap.objs.size + 1)) { s with heap := u }) : wpAny (model prog w) A (call (.type "enumerate") [v]) Q E s := by
  refine callType_new F.called_enumerate (by decide) (F.typeCall_enumerate_1 _) (F.newCall_enumerate_1 _) (fun x => F.args_object_init_2 x _) F.entry_enumerate_new (en_new B) ⟨h1, ?_⟩
  have z : (s.heap.push o).objs.size = s.heap.objs.size + 1 := Heap.size_push ..
  show _ ∧ _
  rw [z]
  have he := Heap.get?_push_size (s.heap.push o) (o := { cls := .type "enumerate", data := .fields #[.none, .bool false, .ref s.heap.objs.size, rawInt 0, .none, .none] }) rfl
  rw [z] at he
  exact ⟨⟨_, he, rfl⟩, h _ he (Heap.get?_push_of_some _ (Heap.get?_push_size _ B.free)) fun b p e => Heap.get?_push_of_some _ (Heap.get?_push_of_some _ e)⟩
/-- the tuple at a, each item in a new pair behind its place -/
def Iet (K : PySem.W.Frag) (a : Addr) : It where
  go := fun i H => ∃ (xs : List V) (x : V), SqT K H a xs ∧ xs[i]? = some x
  yld := fun i H v H' => ∃ T x, v = .ref T ∧ H T = none ∧ H' = upd H T (.tup [.int (i : Nat), x]) ∧ ∀ xs, SqT K H a xs → xs[i]? = some x
  stop := fun i H => ∃ xs : List V, SqT K H a xs ∧ xs.length ≤ i
theorem turn_et {P : Program} {w : World} {K : PySem.W.Frag} {elts : List Expr} {kk : Nat} {tpos : Pos} (a e it : Addr) (hae : a ≠ e) (hai : a ≠ it) :
    Turn P w K (.Tuple elts kk tpos) (Iet K a) [e, it] e (fun i h => (∃ x, IsEnum h e it ((i : Nat) : Int) x) ∧ h.IsTupleIter it a i ∧ e ≠ it) where
  mem := List.mem_cons_self
  obj := fun i h st b hb => by
    obtain ⟨⟨x, he⟩, ⟨o, ho, hc, hd⟩, _⟩ := st
    rcases List.mem_cons.mp hb with z | z
    · subst z
      exact ⟨_, he, fun v q => nomatch q⟩
    · have z2 : b = it := by simpa using z
      subst z2
      exact ⟨o, ho, fun v q => by rw [hd] at q; cases q⟩
  keep := fun i h h' st k => by
    obtain ⟨⟨x, he⟩, hi, hn⟩ := st
    exact ⟨⟨x, k e (by simp) _ he⟩, hi.at fun o q => k it (by simp) o q, hn⟩
  item := by
    intro X hP hw hK hc i
    intro pins s σ H E I hf st hg
    subst hP hw hK
    obtain ⟨⟨_, he⟩, hit, hne⟩ := st
    obtain ⟨xs, x, hq, hx⟩ := hg
    obtain ⟨its, rv, p, lz⟩ := I.tuple hq
    obtain ⟨u, hu, ru⟩ := rv.get hx
    have hi : i < its.toArray.size := by
      have := List.getElem?_eq_some_iff.mp hu
      obtain ⟨z, _⟩ := this
      simpa using z
    have le : e < s.heap.objs.size := Heap.lt_size he
    have li : it < s.heap.objs.size := by
      obtain ⟨_, q, _⟩ := hit
      exact Heap.lt_size q
    have hef : e ∉ [it, a] := by
      intro z
      rcases List.mem_cons.mp z with z | z
      · exact hne z
      · have z2 : e = a := by simpa using z
        exact hae z2.symm
    refine wpAny_pyNext_enum_itemD (Draws.tuple (A := X.A.in1) (by exact I.ok.hd hc) it a hai its.toArray) he ⟨hit, show s.heap.IsTuple a its.toArray from p⟩ hi hne hef fun y h' tk hy ho hs hT hsz hk => ?_
    have ey : y = u := by
      have q : its.toArray[i]? = some u := by simpa using hu
      rw [q] at hy
      exact (Option.some.inj hy).symm
    subst ey
    refine ⟨_, rfl, wpAny_letOwnedTupleGo_enum (s := { s with heap := h', toks := tk + 1 }) ho fun h2 he2 sb => ?_⟩
    have hT2 : h2.get? s.heap.objs.size = some { cls := .type "tuple", data := .seq #[.int i tk, y] } := (sb.2 _ (Nat.ne_of_gt le)).trans hT
    have new : ObjOk X.prog X.w (upd H s.heap.objs.size (.tup [.int (i : Nat), x])) h2 s.heap.objs.size (.tup [.int (i : Nat), x]) :=
      ⟨by show 2 ≤ sizeLine; decide, [.int i tk, y], .cons ⟨_, rfl⟩ (.cons ru .nil), ⟨_, hT2, rfl, _, rfl⟩⟩
    have keep : ∀ b ob, b ∉ [e, it] → s.heap.get? b = some ob → h2.get? b = some ob := fun b ob hb q => (sb.2 b (fun z => hb (by simp [z]))).trans (hk b ob (fun z => hb (by simp [z])) (fun z => hb (by simp [z])) q)
    have I1 : Inv X pins σ (upd H s.heap.objs.size (.tup [.int (i : Nat), x])) { s with heap := h2, toks := tk + 1 } := I.turnedNew (ch := [e, it]) keep hf (Nat.le_refl _) new
    refine ⟨.ref s.heap.objs.size, _, I1, rfl, ⟨_, x, rfl, I.hok.fresh (Nat.le_refl _), rfl, fun ys hy => by rw [I.tuple_inj hy hq]; exact hx⟩, ⟨⟨y, ?_⟩, hs.1.at fun o q => (sb.2 it (Ne.symm hne)).trans q, hne⟩, fun b hb => ?_⟩
    · rw [show ((i + 1 : Nat) : Int) = (i : Int) + 1 by omega]
      exact he2
    · have lb : b < s.heap.objs.size := by
        rcases List.mem_cons.mp hb with z | z
        · rw [z]; exact le
        · rw [show b = it by simpa using z]; exact li
      rw [upd_ne (Nat.ne_of_lt lb)]
      exact (hf b hb).1
  done := by
    intro X hP hw hK hc i
    intro pins s σ H E I hf st hg
    subst hP hw hK
    obtain ⟨⟨_, he⟩, hit, hne⟩ := st
    obtain ⟨xs, hq, hx⟩ := hg
    obtain ⟨its, rv, p, lz⟩ := I.tuple hq
    have ⟨f0, f1, f2, f3, f4, f5⟩ := hf it (List.mem_cons_of_mem _ List.mem_cons_self)
    have hl := rv.length
    have hTe : s.TypeIs (.ref e) "enumerate" := ⟨_, he, rfl⟩
    unfold pyNext
    refine wpAny_bind (wpAny_attempt (wpAny_callSpecial?_slot (name := Str.ofString "__next__") hTe F.slot_enumerate_next (wpAny_call_entry F.slot_enumerate_next hTe F.entry_enumerate_next ?_ (F.args_enumerate_next_1 _))))
    refine (show wpAny _ _ (field (.ref e) 2 >>= _) _ _ _ from ?_)
    refine wpAny_bind (wpAny_field he rfl (x := .ref it) rfl (wpAny_bind (wpAny_nextOf_tuple_end (I.ok.hd hc) hit (show s.heap.IsTuple a its.toArray from p) (by simp; omega) fun h' x hx1 hx2 => ?_)))
    obtain ⟨o, ho, hc2⟩ := hx2
    exact wpAny_bind (wpAny_isInstance (T := "StopIteration") (b := true) ⟨o, ho, hc2⟩ isSubtype_stop (wpAny_pure ⟨rfl, I.turned (t' := s.toks) (fun b o hb q => hx1 b o hb q) f0 f1 f3 f4 f5⟩))
  self := fun _ _ s Q E st h => by
    obtain ⟨⟨x, he⟩, _⟩ := st
    exact wpAny_pyIter_enum he h
def iEnT (K : PySem.W.Frag) (ta : TA) : TI := fun σ H R => ta σ H fun vs H1 => ∃ a xs, vs = [.ref a] ∧ SqT K H1 a xs ∧ R (Iet K a) H1
theorem pi_et {X : Cx} {e : Expr} {ta : TA} {p pos tpos : Pos} {elts : List Expr} {kk : Nat} (hg : Gl X "enumerate") (hm : X.mg "enumerate" = none) (ha : PA X [e] ta) (hs : starEach [e] X.env = [(false, eval e X.env)] := by rfl) : PI X (.Tuple elts kk tpos) (.Call (.Name "enumerate" p) [e] [] pos) (iEnT X.K ta) := by
  constructor
  intro pins s σ H R I h
  refine Call_ (ld_blt I hg hm boot_enumerate (PyProof.Rows.callWith_type1 (thn (ha.run pos pins s σ H _ I h) fun us s1 ⟨vs, H1, I1, r1, a, xs, ex, hq, q⟩ => ?_) hs rfl))
  subst ex
  cases r1 with
  | cons r rr =>
    cases rr
    cases r
    obtain ⟨its, rv, p', hz⟩ := I1.tuple hq
    have p2 : s1.heap.IsTuple a its.toArray := p'
    have la : a < s1.heap.objs.size := by
      obtain ⟨_, q, _⟩ := p2
      exact Heap.lt_size q
    refine en_call (begins_tuple a its.toArray) p2 fun u he hit hk => wpAny_pyIter_enum he ?_
    have I2 : Inv X pins σ H1 { s1 with heap := u } := I1.kept (t' := s1.toks) hk
    refine ⟨_, [s1.heap.objs.size + 1, s1.heap.objs.size], _, _, H1, rfl, I2, turn_et a (s1.heap.objs.size + 1) s1.heap.objs.size (Nat.ne_of_lt (Nat.lt_succ_of_lt la)) (Nat.ne_of_lt la), ⟨⟨.none, he⟩, ⟨_, hit, rfl, rfl⟩, Nat.succ_ne_self _⟩, fun b hb => ?_, q⟩
    have sb : s1.heap.objs.size ≤ b := by
      rcases List.mem_cons.mp hb with z | z
      · rw [z]; exact Nat.le_add_right _ _
      · rw [show b = s1.heap.objs.size by simpa using z]
        exact Nat.le_refl _
    exact I1.fpOk sb (I1.hok.fresh sb)
theorem walk_et {K : PySem.W.Frag} {a : Addr} {xs : List V} : Walk (Iet K a) xs.length (fun H => SqT K H a xs) (YPair (fun i => some (.int (i : Nat))) (fun i => xs[i]?)) where
  goes := fun i _ hi q => ⟨xs, xs[i], q, by simp [hi]⟩
  stops := fun _ q => ⟨xs, q, Nat.le_refl _⟩
  yields := fun i H v H' _ q y => by
    obtain ⟨T, x, h1, h2, h3, h4⟩ := y
    exact ⟨T, _, x, h1, h2, h3, rfl, h4 xs q⟩
end WP

end
section
set_option autoImplicit false
set_option Elab.async false
set_option linter.all false
set_option maxRecDepth 100000
set_option maxHeartbeats 4000000
/-! ## Way.__init__ for good rows: the pieces -/
namespace M
def tuns : List Step → List Way
  | [] => []
  | .tunnel w _ _ :: r => w :: tuns r
  | .road _ _ _ :: r => tuns r
  | .join _ :: r => tuns r
theorem tuns_app : ∀ (l m : List Step), tuns (l ++ m) = tuns l ++ tuns m
  | [], m => rfl
  | .tunnel w a b :: r, m => by
    show w :: tuns (r ++ m) = w :: tuns r ++ tuns m
    rw [tuns_app r m]; rfl
  | .road a b c :: r, m => tuns_app r m
  | .join a :: r, m => tuns_app r m
theorem tuns_len : ∀ l : List Step, (tuns l).length ≤ l.length
  | [] => Nat.le_refl _
  | .tunnel w a b :: r => by
    show (tuns r).length + 1 ≤ r.length + 1
    exact Nat.succ_le_succ (tuns_len r)
  | .road a b c :: r => Nat.le_succ_of_le (tuns_len r)
  | .join a :: r => Nat.le_succ_of_le (tuns_len r)
theorem inner_eq : ∀ st : List Step, Step.inner st = ((tuns st).map Way.size).sum
  | [] => by simp [Step.inner, tuns]
  | .tunnel w a b :: r => by
    unfold Step.inner tuns
    rw [inner_eq r, List.map_cons, List.sum_cons]
  | .road a b c :: r => by
    unfold Step.inner tuns
    exact inner_eq r
  | .join a :: r => by
    unfold Step.inner tuns
    exact inner_eq r
theorem deepest_eq : ∀ st : List Step, Step.deepest st = (tuns st).foldr (fun w d => max w.depth d) 0
  | [] => by simp [Step.deepest, tuns]
  | .tunnel w a b :: r => by
    unfold Step.deepest tuns
    rw [deepest_eq r, List.foldr_cons]
  | .road a b c :: r => by
    unfold Step.deepest tuns
    exact deepest_eq r
  | .join a :: r => by
    unfold Step.deepest tuns
    exact deepest_eq r
theorem fold_max : ∀ (l : List Int) (a b : Int), (l.foldl max (max a b)) = max a (l.foldl max b)
  | [], a, b => rfl
  | c :: r, a, b => by
    show r.foldl max (max (max a b) c) = max a (r.foldl max (max b c))
    rw [Int.max_assoc, fold_max r a (max b c)]
theorem deep_max (ws : List Way) : (match ws.map fun w => ((w.depth : Nat) : Int) with | [] => (0 : Int) | n :: r => r.foldl max n) = ((ws.foldr (fun w d => max w.depth d) 0 : Nat) : Int) := by
  induction ws with
  | nil => rfl
  | cons w r ih =>
    show ((r.map fun w => ((w.depth : Nat) : Int)).foldl max ((w.depth : Nat) : Int)) = _
    cases r with
    | nil => show ((w.depth : Nat) : Int) = ((max w.depth 0 : Nat) : Int); rw [Nat.max_zero]
    | cons v q =>
      show ((q.map fun w => ((w.depth : Nat) : Int)).foldl max (max ((w.depth : Nat) : Int) ((v.depth : Nat) : Int))) = _
      rw [fold_max]
      have e : ((q.map fun w => ((w.depth : Nat) : Int)).foldl max ((v.depth : Nat) : Int)) = (((v :: q).foldr (fun w d => max w.depth d) 0 : Nat) : Int) := ih
      rw [e]
      show _ = ((max w.depth ((v :: q).foldr (fun w d => max w.depth d) 0) : Nat) : Int)
      omega
theorem sum_cast (ws : List Way) : (ws.map fun w => ((w.size : Nat) : Int)).sum = (((ws.map Way.size).sum : Nat) : Int) := by
  induction ws with
  | nil => rfl
  | cons w r ih => rw [List.map_cons, List.sum_cons, ih, List.map_cons, List.sum_cons]; omega
end M
namespace WP
open PySem L2 G
section
variable {X : Cx} {tg it : Expr}
theorem pi_or {w1 w2 : TI} (h1 : PI X tg it w1) (h2 : PI X tg it w2) : PI X tg it (fun σ H R => w1 σ H R ∨ w2 σ H R) := ⟨fun pins s σ H R I h => h.elim (h1.run pins s σ H R I) (h2.run pins s σ H R I)⟩
def tDead : TS := fun _ _ _ => False
theorem ps_dead {b : List Stmt} : PSs X b tDead := ⟨fun _ _ _ _ _ _ h => h.elim⟩
end
def SAt (H : Hp) (l : Addr) (xs : List V) : Prop := H l = some (.lst xs) ∨ H l = some (.tup xs)
theorem SAt.mono {H H' : Hp} {l : Addr} {xs : List V} (s : Same H H') (h : SAt H l xs) : SAt H' l xs := h.elim (fun e => .inl (s _ _ e)) fun e => .inr (s _ _ e)
section
variable {K : PySem.W.Frag} {H : Hp} {σ : St} {l : Addr} {xs : List V}
theorem or_seq {te : TE} {R : It → Hp → Prop} (ht : ∀ Q : VK, Q (.ref l) H → te σ H Q) (hl : SAt H l xs) (k : ∀ (J : It) (Gd : Hp → Prop), (∀ H', Same H H' → Gd H') → Walk J xs.length Gd (YAt xs) → R J H) : iList K te σ H R ∨ iTup K te σ H R :=
  hl.elim (fun e => .inl (ht _ ⟨l, rfl, ⟨xs, SqL.of e⟩, k _ _ (fun H' s => SqL.of (s _ _ e)) walk_list⟩)) fun e => .inr (ht _ ⟨l, rfl, ⟨xs, SqT.of e⟩, k _ _ (fun H' s => SqT.of (s _ _ e)) walk_tup⟩)
theorem or_enum {ta : TA} {R : It → Hp → Prop} (ht : ∀ Q : List V → Hp → Prop, Q [.ref l] H → ta σ H Q) (hl : SAt H l xs) (k : ∀ (J : It) (Gd : Hp → Prop), (∀ H', Same H H' → Gd H') → Walk J xs.length Gd (YPair (fun i => some (.int (i : Nat))) (fun i => xs[i]?)) → R J H) : iEnum K ta σ H R ∨ iEnT K ta σ H R :=
  hl.elim (fun e => .inl (ht _ ⟨l, xs, rfl, SqL.of e, k _ _ (fun H' s => SqL.of (s _ _ e)) walk_enum⟩)) fun e => .inr (ht _ ⟨l, xs, rfl, SqT.of e, k _ _ (fun H' s => SqT.of (s _ _ e)) walk_et⟩)
end
/-- ways at addresses -/
inductive WaysAt (C : Addr) (H : Hp) : List M.Way → List V → Prop
  | nil : WaysAt C H [] []
  | cons {w : M.Way} {a : Addr} {ws : List M.Way} {vs : List V} (h : WayAt C H w a) (t : WaysAt C H ws vs) : WaysAt C H (w :: ws) (.ref a :: vs)
theorem WaysAt.mono {C : Addr} {H H' : Hp} (s : Same H H') {ws : List M.Way} {vs : List V} (h : WaysAt C H ws vs) : WaysAt C H' ws vs := by
  induction h with
  | nil => exact .nil
  | cons h _ ih => exact .cons (h.mono s) ih
theorem WaysAt.snoc {C : Addr} {H : Hp} {ws : List M.Way} {vs : List V} {w : M.Way} {a : Addr} (h : WaysAt C H ws vs) (hw : WayAt C H w a) : WaysAt C H (ws ++ [w]) (vs ++ [.ref a]) := by
  induction h with
  | nil => exact .cons hw .nil
  | cons h _ ih => exact .cons h ih
theorem WaysAt.len {C : Addr} {H : Hp} {ws : List M.Way} {vs : List V} (h : WaysAt C H ws vs) : vs.length = ws.length := by
  induction h with
  | nil => rfl
  | cons _ _ ih => simp [ih]
theorem WaysAt.get {C : Addr} {H : Hp} {ws : List M.Way} {vs : List V} (h : WaysAt C H ws vs) : ∀ {i : Nat} {v : V}, vs[i]? = some v → ∃ w a, ws[i]? = some w ∧ v = .ref a ∧ WayAt C H w a := by
  induction h with
  | nil => intro i v e; cases e
  | cons h t ih =>
    intro i v e
    cases i with
    | zero => cases e; exact ⟨_, _, rfl, rfl, h⟩
    | succ i => obtain ⟨w, a, e1, e2, e3⟩ := ih (i := i) e; exact ⟨w, a, e1, e2, e3⟩
end WP

end
section
set_option autoImplicit false
set_option Elab.async false
set_option linter.all false
set_option maxRecDepth 100000
set_option maxHeartbeats 4000000
/-! ## Way.__init__ for good rows -/
namespace WP
open PySem L2 G
section
variable {P : Program} {w : World} {K : PySem.W.Frag} {mg : Str → Option Value} {base : Heap} {C : Addr}
abbrev NI : List Str := ["self", "head", "steps", "position", "step", "inner_ways", "depth", "size", "inner"]
theorem scI : FnScope NI ["self", "head", "steps"] (defScope sInit) := ⟨rfl, rfl, rfl, by decide +kernel, rfl, by decide +kernel, by decide +kernel⟩
/-- the ways of the tunnels -/
def tTuns (K : PySem.W.Frag) : TE := tLc (fun σ H R => iList K (tVar 2) σ H R ∨ iTup K (tVar 2) σ H R) (gName 4) (tTest (tOp rEq (tOp (rIxT K) (tVar 4) (tC (.int 0))) (tC (.str "tunnel")))) (tOp (rIxT K) (tVar 4) (tC (.int 1))) [4]
theorem add_upd {H G : Hp} {D : Addr} {o : HO} (nD : H D = none) (s : Same H G) : Same H (upd G D o) := fun b u e => by
  rw [upd_ne (ne_of_none e nD)]
  exact s _ _ e
theorem take_snoc {α : Type} {l : List α} {i : Nat} {x : α} (h : l[i]? = some x) : l.take (i + 1) = l.take i ++ [x] := by
  rw [List.take_succ, h]
  rfl
theorem tuns_run {σ : St} {H : Hp} {a0 a1 p q a5 a6 a7 a8 : Option V} {l : Addr} {xs : List V} {st : List M.Step} {Q : VK} (hσ : σ = [a0, a1, some (.ref l), p, q, a5, a6, a7, a8]) (hl : SAt H l xs) (hs : StepsAt C H st xs) (hn : xs.length ≤ 1000)
    (k : ∀ D vs H', Same H H' → H' D = some (.lst vs) → WaysAt C H (M.tuns st) vs → Q (.ref D) H') : tTuns K σ H Q := by
  subst hσ
  have yes : ∀ {a : Str}, decide (V.str a = V.str a) = true := decide_eq_true rfl
  have no : ∀ {a b : Str}, a ≠ b → decide (V.str a = V.str b) = false := fun h => decide_eq_false fun z => h (V.str.inj z)
  refine or_seq (fun Q h => ⟨_, rfl, h⟩) hl fun J Gd hG wk D nD => ?_
  refine lc_it wk (fun i G => Same H G ∧ ∃ acc, acc.length ≤ i ∧ G D = some (.lst acc) ∧ WaysAt C H (M.tuns (st.take i)) acc) ⟨Same.of_upd nD, [], Nat.le_refl _, upd_same, .nil⟩ (fun i G _ p => hG G p.1) ?_ ?_
  · rintro i v G G' hi ⟨s, acc, hA, hD, hw⟩ ⟨rfl, hx⟩
    obtain ⟨sp, hsp, hst⟩ := hs.get hx
    have et := take_snoc hsp
    have la : acc.length < sizeLine := Nat.lt_of_lt_of_le (Nat.lt_of_le_of_lt hA hi) (Nat.le_trans hn (by decide))
    have z1 : ∀ {y0 : V} {ys : List V}, atI (y0 :: ys) (0 : Int) = some y0 := fun {y0 ys} => by exact atI_nat (xs := y0 :: ys) (j := 0) rfl
    refine ⟨rfl, ?_⟩
    have hst2 := hst
    cases sp with
    | road size ts lw =>
      unfold StepAt at hst
      obtain ⟨t, rfl, ht⟩ := hst
      refine ⟨_, rfl, t, _, _, _, rfl, rfl, SqT.of (s _ _ ht), z1, rfl, _, rfl, ?_⟩
      rw [no kinds.2.1]
      refine iteF ⟨s, acc, Nat.le_succ_of_le hA, hD, ?_⟩
      rw [et, M.tuns_app]
      exact (List.append_nil _).symm ▸ hw
    | join most =>
      unfold StepAt at hst
      obtain ⟨t, rfl, ht⟩ := hst
      refine ⟨_, rfl, t, _, _, _, rfl, rfl, SqT.of (s _ _ ht), z1, rfl, _, rfl, ?_⟩
      rw [no kinds.2.2.1]
      refine iteF ⟨s, acc, Nat.le_succ_of_le hA, hD, ?_⟩
      rw [et, M.tuns_app]
      exact (List.append_nil _).symm ▸ hw
    | tunnel wy most tw =>
      unfold StepAt at hst
      obtain ⟨t, a, rfl, ht, hway⟩ := hst
      refine ⟨_, rfl, t, _, _, _, rfl, rfl, SqT.of (s _ _ ht), z1, rfl, _, rfl, ?_⟩
      rw [yes]
      refine iteT ⟨_, rfl, t, _, _, _, rfl, rfl, SqT.of (s _ _ ht), (by exact atI_nat (xs := [V.str "tunnel", V.ref a, V.int (most : Int), V.str (twS tw)]) (j := 1) rfl), acc, hD, la, add_upd nD s, _, by simp; exact hA, upd_same, ?_⟩
      rw [et, M.tuns_app]
      exact hw.snoc hway
  · rintro G ⟨s, acc, hA, hD, hw⟩
    have e : st.take xs.length = st := by rw [hs.len]; exact List.take_length
    rw [e] at hw
    exact k D acc G s hD hw
/-- a field of each of the ways, ints -/
def tFlds (K : PySem.W.Frag) (f : Str) : TE := tLc (iList K (tVar 5)) (gName 8) tYes (tFld K (tVar 8) f) [8]
theorem flds_run {f : Str} {g : M.Way → Int} {σ : St} {H : Hp} {a0 a1 a2 p q a6 a7 a8 : Option V} {D0 : Addr} {vs : List V} {ws : List M.Way} {Q : VK} (T : Wt K mg C) (nf : NoAttr K C f) (hg : ∀ H wy a, WayAt C H wy a → ∃ dx fs, H a = some (.ins C dx fs) ∧ fs.lookup f = some (.int (g wy)))
    (hσ : σ = [a0, a1, a2, p, q, some (.ref D0), a6, a7, a8]) (hl : H D0 = some (.lst vs)) (hw : WaysAt C H ws vs) (hn : vs.length ≤ 1000) (k : ∀ D H', Same H H' → H' D = some (.lst ((ws.map g).map V.int)) → Q (.ref D) H') : tFlds K f σ H Q := by
  subst hσ
  refine ⟨_, rfl, D0, rfl, ⟨vs, SqL.of hl⟩, fun D nD => ?_⟩
  refine lc_it walk_list (fun i G => Same H G ∧ G D = some (.lst ((((ws.take i).map g)).map V.int))) ⟨Same.of_upd nD, upd_same⟩ (fun i G _ p => SqL.of (p.1 _ _ hl)) ?_ ?_
  · rintro i v G G' hi ⟨s, hD⟩ ⟨rfl, hx⟩
    obtain ⟨wy, a, hwi, rfl, hat⟩ := hw.get hx
    obtain ⟨dx, fs, h1, h2⟩ := hg H wy a hat
    refine ⟨rfl, _, rfl, a, C, dx, fs, _, rfl, s _ _ h1, T.cl, nf, h2, _, hD, ?_, add_upd nD s, ?_⟩
    · rw [List.length_map, List.length_map, List.length_take]
      exact Nat.lt_of_le_of_lt (Nat.le_trans (Nat.min_le_left _ _) (Nat.le_of_lt (Nat.lt_of_lt_of_le hi hn))) (by decide)
    · rw [take_snoc hwi, List.map_append, List.map_append, upd_same]
      rfl
  · rintro G ⟨s, hD⟩
    have e : ws.take vs.length = ws := by rw [hw.len]; exact List.take_length
    rw [e] at hD
    exact k D G s hD
theorem depth_fld (H : Hp) (wy : M.Way) (a : Addr) (h : WayAt C H wy a) : ∃ dx fs, H a = some (.ins C dx fs) ∧ fs.lookup ("depth" : Str) = some (.int ((wy.depth : Nat) : Int)) := by
  obtain ⟨wh, ws⟩ := wy
  unfold WayAt at h
  obtain ⟨dx, t, xs, h1, _, _⟩ := h
  refine ⟨dx, _, h1, ?_⟩
  rw [flds_depth]
  unfold M.Way.depth
  rfl
theorem size_fld (H : Hp) (wy : M.Way) (a : Addr) (h : WayAt C H wy a) : ∃ dx fs, H a = some (.ins C dx fs) ∧ fs.lookup ("size" : Str) = some (.int ((wy.size : Nat) : Int)) := by
  obtain ⟨wh, ws⟩ := wy
  unfold WayAt at h
  obtain ⟨dx, t, xs, h1, _, _⟩ := h
  refine ⟨dx, _, h1, ?_⟩
  rw [flds_size]
  unfold M.Way.size
  rfl
end
end WP

end
section
set_option autoImplicit false
set_option Elab.async false
set_option linter.all false
set_option maxRecDepth 100000
set_option maxHeartbeats 4000000
/-! ## Way.__init__ for good rows: the def -/
namespace WP
open PySem L2 G
theorem set_then {te : TE} {i : Nat} {t2 : TS} {D : Ends} {σ : St} {H : Hp} (h : te σ H fun v H1 => t2 D (σ.set i (some v)) H1) : tSeq (tAsg te (gName i)) t2 D σ H := h
theorem add_of {tb : TE} {i : Int} {σ : St} {H : Hp} {Q : VK} (h : tb σ H fun y H2 => ∃ a b, V.int i = .int a ∧ y = .int b ∧ Q (.int (a + b)) H2) : tOp (rI0 fun i j => .int (i + j)) (tC (.int i)) tb σ H Q := h
theorem maxID_at {K : PySem.W.Frag} {H : Hp} {Q : VK} {a : Addr} {ns : List Int} {n : Int} (e : (match ns with | [] => (0 : Int) | n :: r => r.foldl max n) = n) (hq : SqL K H a (ns.map V.int)) (q : Q (.int n) H) : G.rMaxID K [.ref a] [.int 0] H Q := by
  subst e
  refine ⟨a, ns, 0, rfl, rfl, hq, ?_⟩
  cases ns <;> exact q
theorem maxD_of {K : PySem.W.Frag} {tl : TE} {σ : St} {H : Hp} {Q : VK} (h : tl σ H fun x H1 => G.rMaxID K [x] [.int 0] H1 Q) : tCKw (G.rMaxID K) (tCons tl tNil) (tCons (tC (.int 0)) tNil) σ H Q := h
theorem sum_of {K : PySem.W.Frag} {tl : TE} {σ : St} {H : Hp} {Q : VK} (h : tl σ H fun x H1 => rSum K [x] H1 Q) : tCB (rSum K) (tCons tl tNil) σ H Q := h
theorem len_add {K : PySem.W.Frag} {tl : TE} {σ : St} {H : Hp} {Q : VK} {l : Addr} {xs : List V} (hσ : σ[2]? = some (some (.ref l))) (hl : SAt H l xs) (h : tl σ H fun x H1 => rSum K [x] H1 fun y H2 => ∃ a b, V.int (xs.length : Int) = .int a ∧ y = .int b ∧ Q (.int (a + b)) H2) :
    tOp (rI0 fun i j => .int (i + j)) (tCB (fun zs H Q => ∃ p ys, zs = [.ref p] ∧ (SqL K H p ys ∨ SqT K H p ys) ∧ Q (.int ys.length) H) (tCons (tVar 2) tNil)) (tCB (rSum K) (tCons tl tNil)) σ H Q :=
  ⟨_, hσ, l, xs, rfl, hl.elim (fun e => .inl (SqL.of e)) (fun e => .inr (SqT.of e)), h⟩
theorem tup_or {K : PySem.W.Frag} {H : Hp} {l : Addr} {xs : List V} {Q : VK} (hl : SAt H l xs) (k : ∀ t G, Same H G → G t = some (.tup xs) → Q (.ref t) G) : (SqL K H l xs ∧ ∀ q, H q = none → Q (.ref q) (upd H q (.tup xs))) ∨ (SqT K H l xs ∧ Q (.ref l) H) :=
  hl.elim (fun e => .inl ⟨SqL.of e, fun q hq => k _ _ (Same.of_upd hq) upd_same⟩) fun e => .inr ⟨SqT.of e, k _ _ (Same.refl _) e⟩
theorem len_put {f : Str} {v : V} {fs : List (Str × V)} {n : Nat} (h : fs.length < n) : (putF f v fs).length < n + 1 := by
  exact Nat.lt_of_le_of_lt (length_putF f v fs) (Nat.succ_lt_succ h)
section
variable {P : Program} {w : World} {K : PySem.W.Frag} {mg : Str → Option Value} {base : Heap} {C : Addr}
/-- at a new instance x: steps of a list or a tuple, as they stood before it was made -/
def spInit (C : Addr) : Sp := fun vs H Q _ => ∃ (x l dx : Addr) (h : Nat) (xs : List V) (st : List M.Step) (H0 : Hp), vs = [.ref x, .int (h : Int), .ref l] ∧ H x = some (.ins C dx []) ∧ H0 x = none ∧ Same H0 H ∧ SAt H0 l xs ∧ StepsAt C H0 st xs ∧ M.Way.fine (.mk h st) ∧
  ∀ H', Same H0 H' → WayAt C H' (.mk h st) x → Q .non H'
theorem ok_init {f : Addr} {fd : FuncData} (F : Fun K "__init__" "Way.__init__" sInit f fd) (B : Bn mg) (T : Wt K mg C) (W : Df P w K mg base 3 "is_head" ["value"] (spIn1 1 40)) (WL : Df P w K mg base 1 "is_step_list" ["value"] (spList K)) (WS : Df P w K mg base 5 "_is_step" ["value", "head"] (spStep C)) :
    FnOk P w K mg base CX0 6 f fd ["self", "head", "steps"] (spInit C) := by
  obtain ⟨fW, fdW, GW, gW, kW, bW⟩ := W.ex
  obtain ⟨fL, fdL, GL, gL, kL, bL⟩ := WL.ex
  obtain ⟨fS, fdS, GS, gS, kS, bS⟩ := WS.ex
  obtain ⟨t2, g2⟩ := T.gDepth
  obtain ⟨t3, g3⟩ := T.gSize
  refine F.ok scI (fun vs H Q E h => ?_) (fun cdv A outer s H vs Q E hr h => ?_)
  · obtain ⟨x, l, dx, h, xs, st, H0, rfl, _⟩ := h
    rfl
  · obtain ⟨x, l, dx, h, xs, st, H0, rfl, hx, hx0, s0, hl, hs, hf, k⟩ := h
    have r1 := hr.mono (by decide : 1 ≤ 5)
    have r0 := hr.mono (by decide : 3 ≤ 5)
    refine ⟨_, pss_cons (ps_if (pt_not (pt_val (pe_call GW r0 rfl gW kW bW .nil pass0 (pa_cons (pv 1) pa_nil)))) ps_dead pss_nil)
      (pss_cons (ps_if (pt_not (pt_val (pe_call GL r1 rfl gL kL bL .nil pass0 (pa_cons (pv 2) pa_nil)))) ps_dead pss_nil)
      (pss_cons (ps_for PassesOwn.never rfl (pi_or (pi_enum (by rfl) B.enum (pa_cons (pv 2) pa_nil)) (pi_et (by rfl) B.enum (pa_cons (pv 2) pa_nil))) (pg_tup (by rfl) (pgs_cons (pg_name (i := 3) scI.nd rfl (Or.inl rfl)) (pgs_cons (pg_name (i := 4) scI.nd rfl (Or.inl rfl)) pgs_nil)))
        (pss_one (ps_if (pt_not (pt_val (pe_call GS hr rfl gS kS bS .nil pass0 (pa_cons (pv 4) (pa_cons (pv 1) pa_nil))))) ps_dead pss_nil)))
      (pss_cons (ps_setLc (i := 5) (own := [("step", 4)]) (g := gName 4) (tt := tTest (tOp rEq (tOp (rIxT K) (tVar 4) (tC (.int 0))) (tC (.str "tunnel")))) (te := tOp (rIxT K) (tVar 4) (tC (.int 1))) rfl scI.nd rfl rfl (sw_true rfl rfl rfl (by decide +kernel)) (pi_or (pi_list (pv 2)) (pi_tup (pv 2))) (blkOk_by (N := NI) (sc := defScope sInit) (by decide +kernel))
          (fun _ _ _ _ _ => pg_name (i := 4) scI.nd rfl (Or.inl rfl)) (fun _ _ _ _ _ => pts_one (by exact pt_cmpR op_eq (pe_ix ix_tup (pv 4) pe_int (fun _ _ => rfl)) pe_str (nomark _))) (fun _ _ _ _ _ => by exact pe_ix ix_tup (pv 4) pe_int (fun _ _ => rfl)))
      (pss_cons (ps_set (i := 6) scI.nd rfl (Or.inl rfl) (pe_op op_add pe_int (pe_callBK (G.call_maxID rfl hr.units) (by rfl) B.max (by decide +kernel) (pa_cons (pe_lc (own := [("inner", 8)]) (g := gName 8) (tt := tYes) (te := tFld K (tVar 8) "depth") rfl scI.nd (pi_list (pv 5)) (blkOk_by (N := NI) (sc := defScope sInit) (by decide +kernel))
          (fun _ _ _ _ _ => pg_name (i := 8) scI.nd rfl (Or.inl rfl)) (fun _ _ _ _ _ => pts_nil) (fun _ _ _ _ _ => by exact pe_fld (pv 8) rfl)) pa_nil) (pk_cons pe_int pk_nil))))
      (pss_cons (ps_if (pt_cmpR op_gt (pv 6) (pe_glob (v := .int 3) rfl g2 ⟨_, rfl⟩) (nomark _)) ps_dead pss_nil)
      (pss_cons (ps_set (i := 7) scI.nd rfl (Or.inl rfl) (pe_op op_add (pe_callB call_len_seq (by rfl) B.len PySem.boot_len (pa_cons (pv 2) pa_nil)) (pe_callB (cr_sum rfl) (by rfl) B.sum (by decide +kernel) (pa_cons (pe_lc (own := [("inner", 8)]) (g := gName 8) (tt := tYes) (te := tFld K (tVar 8) "size") rfl scI.nd (pi_list (pv 5)) (blkOk_by (N := NI) (sc := defScope sInit) (by decide +kernel))
          (fun _ _ _ _ _ => pg_name (i := 8) scI.nd rfl (Or.inl rfl)) (fun _ _ _ _ _ => pts_nil) (fun _ _ _ _ _ => by exact pe_fld (pv 8) rfl)) pa_nil))))
      (pss_cons (ps_if (pt_cmpR op_gt (pv 7) (pe_glob (v := .int 40) rfl g3 ⟨_, rfl⟩) (nomark _)) ps_dead pss_nil)
      (pss_cons (ps_fld (pv 0) (pv 1) rfl)
      (pss_cons (ps_fld (pv 0) (pe_callTy call_tuple_of (by rfl) B.tuple (by decide +kernel) (pa_cons (pv 2) pa_nil)) rfl)
      (pss_cons (ps_fld (pv 0) (pv 6) rfl)
      (pss_one (ps_fld (pv 0) (pv 7) rfl)))))))))))), ?_⟩
    unfold M.Way.fine at hf
    obtain ⟨hh, hn, hall, hd, hz⟩ := hf
    have ln := hs.len
    refine ⟨_, rfl, (h : Int), rfl, ?_⟩
    rw [decide_eq_true (by omega)]
    refine ⟨_, rfl, iteF ⟨_, rfl, l, xs, rfl, hl.mono s0, by omega, by omega, fun H1 s1 => ⟨_, rfl, iteF ?_⟩⟩⟩
    have S1 := s0.trans s1
    have hx1 : H1 x = some (.ins C dx []) := s1 _ _ hx
    clear s1 hx s0
    refine or_enum (fun Q h => ⟨_, rfl, h⟩) (hl.mono S1) fun J Gd hG wk => ?_
    refine for_it wk (fun i σ G => Same H1 G ∧ ∃ p q, σ = [some (.ref x), some (.int (h : Int)), some (.ref l), p, q, none, none, none, none]) ⟨Same.refl _, _, _, rfl⟩ (fun i σ G _ z => hG G z.1) ?_ ?_
    · rintro i v σ G G' hi ⟨s, p, q, rfl⟩ ⟨t, a, b, rfl, nt, rfl, e1, hb⟩
      cases e1
      obtain ⟨sp, hsp, hst⟩ := hs.get hb
      have s2 : Same H1 (upd G t (.tup [V.int (i : Nat), b])) := s.trans (Same.of_upd nt)
      refine ⟨t, _, rfl, SqT.of upd_same, rfl, _, _, rfl, _, _, rfl, rfl, ?_⟩
      exact ⟨_, rfl, _, rfl, b, h, sp, rfl, hst.mono (S1.trans s2), fine_get hall hsp, _, rfl, iteF ⟨s2, _, _, rfl⟩⟩
    · rintro σ G ⟨s, p, q, rfl⟩
      have S2 := S1.trans s
      have hx2 := s _ _ hx1
      dsimp only
      refine set_then (te := tTuns K) (i := 5) ?_
      refine tuns_run (st := st) (xs := xs) rfl (hl.mono S2) (hs.mono S2) (by omega) fun D0 vs H2 s3 hD0 hW => ?_
      have lw : vs.length ≤ 1000 := by
        have e1 := hW.len
        have e2 := M.tuns_len st
        omega
      refine set_then (i := 6) ?_
      refine add_of (i := 1) (maxD_of (tl := tFlds K "depth") ?_)
      refine flds_run (f := "depth") (g := fun w => ((w.depth : Nat) : Int)) T T.nD (fun H wy a => depth_fld H wy a) rfl hD0 (hW.mono s3) lw fun D1 H3 s4 hD1 => ?_
      refine maxID_at (M.deep_max _) (SqL.of hD1) ⟨_, _, rfl, rfl, ?_⟩
      rw [← M.deepest_eq]
      refine ⟨_, rfl, _, _, rfl, rfl, _, rfl, ?_⟩
      rw [decide_eq_false (by omega)]
      refine iteF ?_
      unfold tNext
      dsimp only
      have s5 := s3.trans s4
      refine set_then (i := 7) (len_add (l := l) (xs := xs) (tl := tFlds K "size") rfl (hl.mono (S2.trans s5)) ?_)
      refine flds_run (f := "size") (g := fun w => ((w.size : Nat) : Int)) T T.nZ (fun H wy a => size_fld H wy a) rfl (s4 _ _ hD0) (hW.mono s5) lw fun D2 H4 s6 hD2 => ?_
      refine ⟨D2, _, rfl, SqL.of hD2, _, _, rfl, rfl, ?_⟩
      rw [M.sum_cast, ← M.inner_eq]
      refine ⟨_, rfl, _, _, rfl, rfl, _, rfl, ?_⟩
      rw [decide_eq_false (by omega)]
      refine iteF ?_
      dsimp only
      have S4 : Same H0 H4 := S2.trans (s5.trans s6)
      have hx4 : H4 x = some (.ins C dx []) := s6 _ _ (s5 _ _ hx2)
      refine ⟨_, rfl, _, rfl, x, C, dx, [], rfl, hx4, T.cl, T.nH, by decide, ?_⟩
      have S5 : Same H0 (upd H4 x (.ins C dx (putF "head" (.int (h : Int)) []))) := add_upd hx0 S4
      have e1 : (1 : Int) + ((M.Step.deepest st : Nat) : Int) = ((1 + M.Step.deepest st : Nat) : Int) := by omega
      have e2 : ((xs.length : Nat) : Int) + ((M.Step.inner st : Nat) : Int) = ((st.length + M.Step.inner st : Nat) : Int) := by omega
      have fin : ∀ (t : Addr) (G2 : Hp), Same (upd H4 x (.ins C dx (putF "head" (.int (h : Int)) []))) G2 → G2 t = some (.tup xs) → tSeq (sFld K (tVar 0) (tC (.ref t)) "steps") (tSeq (sFld K (tVar 0) (tVar 6) "depth") (sFld K (tVar 0) (tVar 7) "size")) { nx := fun _ H' => Q V.non H', rt := Q } [some (.ref x), some (.int (h : Int)), some (.ref l), p, q, some (.ref D0), some (.int (1 + ((M.Step.deepest st : Nat) : Int))), some (.int ((xs.length : Int) + ((M.Step.inner st : Nat) : Int))), none] G2 := fun t G2 sG ht => by
        have hx5 : G2 x = some (.ins C dx (putF "head" (.int (h : Int)) [])) := sG _ _ upd_same
        have tx : t ≠ x := fun z => by
          rw [z, hx5] at ht
          cases ht
        have S6 := S5.trans sG
        rw [e1, e2]
        refine ⟨_, rfl, x, C, dx, _, rfl, hx5, T.cl, T.nS, len_put (by decide), ?_⟩
        refine ⟨_, rfl, _, rfl, x, C, dx, _, rfl, upd_same, T.cl, T.nD, len_put (len_put (by decide)), ?_⟩
        refine ⟨_, rfl, _, rfl, x, C, dx, _, rfl, upd_same, T.cl, T.nZ, len_put (len_put (len_put (by decide))), ?_⟩
        have S7 := add_upd (o := .ins C dx (flds (h : Int) t ((1 + M.Step.deepest st : Nat) : Int) ((st.length + M.Step.inner st : Nat) : Int))) hx0 (add_upd (o := .ins C dx (putF "depth" (.int ((1 + M.Step.deepest st : Nat) : Int)) (putF "steps" (.ref t) (putF "head" (.int (h : Int)) [])))) hx0 (add_upd (o := .ins C dx (putF "steps" (.ref t) (putF "head" (.int (h : Int)) []))) hx0 S6))
        refine k _ S7 ?_
        unfold WayAt
        exact ⟨dx, t, xs, upd_same, by rw [upd_ne tx, upd_ne tx, upd_ne tx]; exact ht, hs.mono S7⟩
      rcases hl.mono S5 with e | e
      · exact ⟨_, rfl, l, xs, rfl, .inl ⟨SqL.of e, fun t nt => fin t _ (Same.of_upd nt) upd_same⟩⟩
      · exact ⟨_, rfl, l, xs, rfl, .inr ⟨SqT.of e, fin l _ (Same.refl _) e⟩⟩
end
end WP

end
section
set_option autoImplicit false
set_option Elab.async false
set_option linter.all false
set_option maxRecDepth 100000
set_option maxHeartbeats 4000000
/-! ## gates of ways: a mirror -/
namespace M
structure Gate where
  place : List Nat
  thr : Int
  ans : Option Int
/-- whether pieces with a greater stretch come from cuts -/
def leaves (cs : List Nat) (x : Int) : Bool := decide (cs = []) || decide (x < ((cs.getLastD 0 : Nat) : Int))
/-- the cuts behind a step -/
def nxC (se : Bool) (h : Nat) (cs : List Nat) : Step → List Nat
  | .join _ => []
  | .road size _ lw => if se = false ∧ lw = .cut then N.add cs [size - h] else cs
  | .tunnel _ _ _ => cs
/-- the cuts before each step, and at the end -/
def chB (se : Bool) (h : Nat) : List Step → List Nat → List (List Nat)
  | [], cs => [cs]
  | s :: r, cs => cs :: chB se h r (nxC se h cs s)
def chE (se : Bool) (h : Nat) : List Step → List Nat → List Nat
  | [], cs => cs
  | s :: r, cs => chE se h r (nxC se h cs s)
def roadG (se : Bool) (h size : Nat) (ts : Bool) (lw : LW) (cs : List Nat) : List Gate :=
  if (se = false ∧ lw = .cut) ∨ leaves cs ((size : Int) - (h : Int)) = false then []
  else [⟨[], (size : Int) - (h : Int), if (se = true ∧ ts = true) ∨ (se = false ∧ lw = .tell) then some (size : Int) else none⟩]
def mostG (most : Nat) (cs : List Nat) : List Gate := if cs = [] then [] else [⟨[], ((N.B cs most : Nat) : Int), none⟩]
def turnG (a : Option Int) (ih : Nat) (t : TW) : Option Int := match a with
  | some z => if t = .turn then some (z - (ih : Int)) else none
  | none => none
def tunG1 (h ih : Nat) (t : TW) (cs : List Nat) (g : Gate) : List Gate :=
  if leaves cs (g.thr - (h : Int)) = true then [⟨g.place, max (g.thr - (h : Int)) (-1), turnG g.ans ih t⟩] else []
def tunG (h ih : Nat) (t : TW) (cs : List Nat) (l : List Gate) : List Gate := l.flatMap (tunG1 h ih t cs)
def at_ (i : Nat) (g : Gate) : Gate := ⟨i :: g.place, g.thr, g.ans⟩
mutual
def Way.gates (se : Bool) : Way → List Gate
  | .mk h s => Step.gatesAll se h s 0 []
def Step.gatesAll (se : Bool) (h : Nat) : List Step → Nat → List Nat → List Gate
  | [], _, _ => []
  | s :: r, i, cs => (Step.gates se h s cs).map (at_ i) ++ Step.gatesAll se h r (i + 1) (nxC se h cs s)
def Step.gates (se : Bool) (h : Nat) : Step → List Nat → List Gate
  | .road size ts lw, cs => roadG se h size ts lw cs
  | .join most, cs => mostG most cs
  | .tunnel w most t, cs => tunG h w.head t cs (Way.gates se w ++ mostG most (chE se w.head w.steps []))
end
theorem gatesAll_cons (se : Bool) (h : Nat) (s : Step) (r : List Step) (i : Nat) (cs : List Nat) : Step.gatesAll se h (s :: r) i cs = (Step.gates se h s cs).map (at_ i) ++ Step.gatesAll se h r (i + 1) (nxC se h cs s) := by
  conv => lhs; unfold Step.gatesAll
theorem chB_len (se : Bool) (h : Nat) : ∀ (s : List Step) (cs : List Nat), (chB se h s cs).length = s.length + 1
  | [], _ => rfl
  | x :: s, cs => by
    show (chB se h s (nxC se h cs x)).length + 1 = _
    rw [chB_len se h s]
    rfl
/-- the cuts before the step with a number -/
def chA (se : Bool) (h : Nat) (s : List Step) (i : Nat) : List Nat := chE se h (s.take i) []
theorem chE_snoc (se : Bool) (h : Nat) : ∀ (s : List Step) (x : Step) (cs : List Nat), chE se h (s ++ [x]) cs = nxC se h (chE se h s cs) x
  | [], _, _ => rfl
  | y :: s, x, cs => chE_snoc se h s x (nxC se h cs y)
theorem chB_at (se : Bool) (h : Nat) : ∀ (s : List Step) (cs : List Nat) (i : Nat), i ≤ s.length → (chB se h s cs)[i]? = some (chE se h (s.take i) cs)
  | [], cs, i, hi => by
    have : i = 0 := by simpa using hi
    subst this
    rfl
  | x :: s, cs, 0, _ => rfl
  | x :: s, cs, i + 1, hi => by
    show (chB se h s (nxC se h cs x))[i]? = some (chE se h (s.take i) (nxC se h cs x))
    exact chB_at se h s _ i (by simpa using hi)
/-- cuts as chains take them -/
structure Ck (cs : List Nat) : Prop where
  fall : N.Fall cs
  le : ∀ c ∈ cs, c ≤ 1000
theorem ck_nil : Ck [] := ⟨trivial, fun c h => by cases h⟩
theorem ck_nx {se : Bool} {h : Nat} {cs : List Nat} {s : Step} (c : Ck cs) (f : Step.fine h s) : Ck (nxC se h cs s) := by
  cases s with
  | join most => exact ck_nil
  | tunnel w most t => exact c
  | road size ts lw =>
    unfold nxC
    dsimp only
    split
    · unfold Step.fine at f
      have f1 : N.Fall [size - h] := ⟨by omega, (fun d hd => by cases hd), trivial⟩
      have l1 : ∀ c ∈ [size - h], c ≤ 1000 := fun c hc => by
        rw [List.mem_singleton.mp hc]
        omega
      exact ⟨N.add_fall c.fall f1, N.add_le c.le l1⟩
    · exact c
theorem ck_all {se : Bool} {h : Nat} : ∀ {s : List Step} {cs : List Nat}, Ck cs → Step.fineAll h s → Ck (chE se h s cs)
  | [], cs, c, _ => c
  | x :: s, cs, c, f => by
    unfold Step.fineAll at f
    show Ck (chE se h s (nxC se h cs x))
    exact ck_all (ck_nx c f.1) f.2
theorem fine_take {h : Nat} : ∀ {s : List Step} (i : Nat), Step.fineAll h s → Step.fineAll h (s.take i)
  | [], i, f => by rw [List.take_nil]; exact f
  | x :: s, 0, f => by
    rw [List.take_zero]
    unfold Step.fineAll
    trivial
  | x :: s, i + 1, f => by
    rw [List.take_succ_cons]
    unfold Step.fineAll at f ⊢
    exact ⟨f.1, fine_take i f.2⟩
theorem nxC_len {se : Bool} {h : Nat} {cs : List Nat} {s : Step} : (nxC se h cs s).length ≤ cs.length + 1 := by
  cases s with
  | join most => exact Nat.zero_le _
  | tunnel w most t => exact Nat.le_succ _
  | road size ts lw =>
    unfold nxC
    dsimp only
    split
    · exact N.add_len cs [size - h]
    · exact Nat.le_succ _
theorem chE_len {se : Bool} {h : Nat} : ∀ (s : List Step) (cs : List Nat), (chE se h s cs).length ≤ cs.length + s.length
  | [], cs => Nat.le_refl _
  | x :: s, cs => by
    have a := chE_len (se := se) (h := h) s (nxC se h cs x)
    have b := nxC_len (se := se) (h := h) (cs := cs) (s := x)
    show (chE se h s (nxC se h cs x)).length ≤ cs.length + (s.length + 1)
    omega
/-! ### how many, how great -/
theorem most_len (most : Nat) (cs : List Nat) : (mostG most cs).length ≤ 1 := by
  unfold mostG
  split <;> simp
theorem road_len (se : Bool) (h size : Nat) (ts : Bool) (lw : LW) (cs : List Nat) : (roadG se h size ts lw cs).length ≤ 1 := by
  unfold roadG
  split <;> simp
theorem tun_len (h ih : Nat) (t : TW) (cs : List Nat) : ∀ l : List Gate, (tunG h ih t cs l).length ≤ l.length
  | [] => Nat.le_refl _
  | g :: l => by
    have := tun_len h ih t cs l
    have e : tunG h ih t cs (g :: l) = tunG1 h ih t cs g ++ tunG h ih t cs l := rfl
    have q : (tunG1 h ih t cs g).length ≤ 1 := by
      unfold tunG1
      split <;> simp
    rw [e, List.length_append, List.length_cons]
    omega
mutual
theorem Way.gates_len (se : Bool) : ∀ w : Way, (Way.gates se w).length ≤ 2 * w.size
  | .mk h s => by
    unfold Way.gates Way.size
    have := Step.gates_len se h s 0 []
    omega
theorem Step.gates_len (se : Bool) (h : Nat) : ∀ (s : List Step) (i : Nat) (cs : List Nat), (Step.gatesAll se h s i cs).length ≤ 2 * (s.length + Step.inner s)
  | [], i, cs => by
    unfold Step.gatesAll
    exact Nat.zero_le _
  | .road size ts lw :: r, i, cs => by
    rw [gatesAll_cons]
    have a := Step.gates_len se h r (i + 1) (nxC se h cs (.road size ts lw))
    have b : (Step.gates se h (.road size ts lw) cs).length ≤ 1 := by
      unfold Step.gates
      exact road_len _ _ _ _ _ _
    rw [List.length_append, List.length_map, List.length_cons]
    unfold Step.inner
    omega
  | .join most :: r, i, cs => by
    rw [gatesAll_cons]
    have a := Step.gates_len se h r (i + 1) (nxC se h cs (.join most))
    have b : (Step.gates se h (.join most) cs).length ≤ 1 := by
      unfold Step.gates
      exact most_len _ _
    rw [List.length_append, List.length_map, List.length_cons]
    unfold Step.inner
    omega
  | .tunnel w most t :: r, i, cs => by
    rw [gatesAll_cons]
    have a := Step.gates_len se h r (i + 1) (nxC se h cs (.tunnel w most t))
    have c := Way.gates_len se w
    have b : (Step.gates se h (.tunnel w most t) cs).length ≤ 2 * w.size + 1 := by
      unfold Step.gates
      refine Nat.le_trans (tun_len _ _ _ _ _) ?_
      have := most_len most (chE se w.head w.steps [])
      rw [List.length_append]
      omega
    rw [List.length_append, List.length_map, List.length_cons]
    unfold Step.inner
    omega
end
end M

end
section
set_option autoImplicit false
set_option Elab.async false
set_option linter.all false
set_option maxRecDepth 100000
set_option maxHeartbeats 4000000
/-! ## len, +, in, [] and != by a class's own methods -/
namespace WO
open PySem PySem.Spec PyProof.Rows L2
section
variable {X : Cx} {CX : CXT} {n : Nat} {f C : Addr} {fd : FuncData} {ps : List Str} {sp : Sp} {E : XK}
/-- an own method, run somewhere below the running body -/
theorem run_own {A : Around} {pins : List (Addr × Obj)} {s : Shared} {σ : L2.St} {H : Hp} {xs : List V} {us : List Value} {Z : VK} {G : Value → Shared → Prop} (F : FnOk X.prog X.w X.K X.mg X.base CX n f fd ps sp) (sb : Sub X n A) (hb : Binds X.K fd ps []) (hx : Passes CX X E)
    (I : Inv X pins σ H s) (r : Vals xs us) (hsp : sp xs H Z E) (k : ∀ z u H1 s1, Inv X pins σ H1 s1 → RelV z u → Z z H1 → G u s1) : wpAny (model X.prog X.w) A (call (.ref f) us) G X.xe s := by
  have hl := F.len _ _ _ _ hsp
  have lu : us.length = ps.length := by rw [← r.length]; exact hl
  have env : Env0 X.prog X.w X.K X.mg X.base A X.stack s H := by
    have e := I.env0
    exact ⟨by rw [sb.fr]; exact e.frames, e.mod, e.bs, e.bsz, e.funs, e.frf, e.hok, e.bare⟩
  refine wpAny_call (codeAny_mono (F.run A X.stack s H ⟨us, []⟩ us xs _ E sb.room env (by simpa using hb s us I.kIn (by simpa using lu)) r hsp) fun res s1 hq => ?_)
  match res, hq with
  | .error e, hq => exact hx pins σ H s e s1 I hq
  | .ok (.ret u), hq =>
    obtain ⟨z, H1, I1, rz, q⟩ := I.after hq
    exact k z u H1 s1 I1 rz q
  | .ok .next, hq => exact hq.elim
  | .ok .brk, hq => exact hq.elim
  | .ok .cont, hq => exact hq.elim
/-- an instance of the class at C -/
def InsC (C : Addr) (H : Hp) (a : Addr) : Prop := ∃ dx fs, H a = some (.ins C dx fs)
structure Own (K : PySem.W.Frag) (C f : Addr) (m : Str) : Prop where
  at' : PySem.W.findIn K (.ref C) m = some (some (.ref f))
  fn : PySem.W.isFn K (.ref f) = true
def rLenO (C : Addr) (sp : Sp) (E : XK) : List V → Hp → VK → Prop := fun xs H Q => ∃ a, xs = [.ref a] ∧ InsC C H a ∧ sp [.ref a] H (fun v H1 => ∃ k : Nat, v = .int k ∧ k < 1000000 ∧ Q (.int k) H1) E
theorem call_lenO (F : FnOk X.prog X.w X.K X.mg X.base CX n f fd ps sp) (hr : Room (n + 1) X.A) (O : Own X.K C f "__len__") (hb : Binds X.K fd ps []) (hx : Passes CX X E) : CallR X (.builtin "len") (rLenO C sp E) := by
  intro pins s σ H xs us Q I r h
  obtain ⟨a, rfl, ⟨dx, fs, ha⟩, hsp⟩ := h
  cases r with
  | cons ra rr =>
    cases rr
    cases ra
    obtain ⟨_, J, _⟩ := ins_get I.hok ha
    obtain ⟨od, J, _⟩ := J.look
    obtain ⟨m, hF⟩ := I.fr
    refine PySem.W.len_K hF I.ok.mod.kin J O.at' O.fn (run_own F (A := X.A.in1) (xs := [.ref a]) ⟨hr.in1, rfl⟩ hb hx I (.cons rfl .nil) hsp fun z u H1 s1 I1 rz q => ?_)
    obtain ⟨k, rfl, hk, q⟩ := q
    obtain ⟨t, rfl⟩ := rz
    exact ⟨⟨by omega, by omega⟩, .int k, H1, I1.tok _, ⟨_, rfl⟩, q⟩
def rAddO (C : Addr) (sp : Sp) (E : XK) : R2 := fun x y H Q => ∃ a b, x = .ref a ∧ y = .ref b ∧ InsC C H a ∧ InsC C H b ∧ sp [.ref a, .ref b] H (fun v H1 => ∃ c, v = .ref c ∧ Q (.ref c) H1) E
theorem op_addO (F : FnOk X.prog X.w X.K X.mg X.base CX n f fd ps sp) (hr : Room n X.A) (O : Own X.K C f "__add__") (hc : PySem.W.selfFirst X.K C = true) (hb : Binds X.K fd ps []) (hx : Passes CX X E) : OpR X (binaryOp .Add) (rAddO C sp E) := by
  intro pins s σ H x y v u Q I rx ry h
  obtain ⟨a, b, rfl, rfl, ⟨dx, fs, ha⟩, ⟨dy, gs, hb'⟩, hsp⟩ := h
  cases rx
  cases ry
  obtain ⟨_, J, _⟩ := ins_get I.hok ha
  obtain ⟨_, J', _⟩ := ins_get I.hok hb'
  obtain ⟨od, J, _⟩ := J.look
  obtain ⟨od', J', _⟩ := J'.look
  obtain ⟨m, hF⟩ := I.fr
  refine PySem.W.binop_K (op := .Add) hF I.ok.mod.kin J J'.type hc O.at' O.fn (run_own F (A := X.A) (xs := [.ref a, .ref b]) ⟨hr, rfl⟩ hb hx I (.cons rfl (.cons rfl .nil)) hsp fun z u H1 s1 I1 rz q => ?_)
  obtain ⟨c, rfl, q⟩ := q
  cases rz
  exact ⟨.ref c, H1, I1, rfl, q⟩
def rInO (C : Addr) (sp : Sp) (E : XK) : R2 := fun x y H Q => ∃ a, y = .ref a ∧ InsC C H a ∧ sp [.ref a, x] H (fun v H1 => ∃ b, v = .bl b ∧ Q (.bl b) H1) E
def rNotInO (C : Addr) (sp : Sp) (E : XK) : R2 := fun x y H Q => ∃ a, y = .ref a ∧ InsC C H a ∧ sp [.ref a, x] H (fun v H1 => ∃ b, v = .bl b ∧ Q (.bl (!b)) H1) E
theorem op_inO (F : FnOk X.prog X.w X.K X.mg X.base CX n f fd ps sp) (hr : Room n X.A) (O : Own X.K C f "__contains__") (hb : Binds X.K fd ps []) (hx : Passes CX X E) : OpR X (compareOp .In) (rInO C sp E) := by
  intro pins s σ H x y v u Q I rx ry h
  obtain ⟨a, rfl, ⟨dx, fs, ha⟩, hsp⟩ := h
  cases ry
  obtain ⟨_, J, _⟩ := ins_get I.hok ha
  obtain ⟨od, J, _⟩ := J.look
  obtain ⟨m, hF⟩ := I.fr
  refine PySem.W.in_K hF I.ok.mod.kin J O.at' O.fn (run_own F (A := X.A) (xs := [.ref a, x]) ⟨hr, rfl⟩ hb hx I (.cons rfl (.cons rx .nil)) hsp fun z u H1 s1 I1 rz q => ?_)
  obtain ⟨b, rfl, q⟩ := q
  cases rz
  exact wpAny_truthy_bool ⟨.bl b, H1, I1, rfl, q⟩
theorem op_notInO (F : FnOk X.prog X.w X.K X.mg X.base CX n f fd ps sp) (hr : Room n X.A) (O : Own X.K C f "__contains__") (hb : Binds X.K fd ps []) (hx : Passes CX X E) : OpR X (compareOp .NotIn) (rNotInO C sp E) := by
  intro pins s σ H x y v u Q I rx ry h
  obtain ⟨a, rfl, ⟨dx, fs, ha⟩, hsp⟩ := h
  cases ry
  obtain ⟨_, J, _⟩ := ins_get I.hok ha
  obtain ⟨od, J, _⟩ := J.look
  obtain ⟨m, hF⟩ := I.fr
  refine PySem.W.notIn_K hF I.ok.mod.kin J O.at' O.fn (run_own F (A := X.A) (xs := [.ref a, x]) ⟨hr, rfl⟩ hb hx I (.cons rfl (.cons rx .nil)) hsp fun z u H1 s1 I1 rz q => ?_)
  obtain ⟨b, rfl, q⟩ := q
  cases rz
  exact wpAny_truthy_bool ⟨.bl (!b), H1, I1, rfl, q⟩
/-- o[e] by the own __getitem__ -/
def rIxO (C : Addr) (sp : Sp) (E : XK) : R2 := fun x y H Q => ∃ a, x = .ref a ∧ InsC C H a ∧ sp [.ref a, y] H Q E
theorem pe_ixO {a b : Expr} {ta tb : TE} {pos : Pos} (F : FnOk X.prog X.w X.K X.mg X.base CX n f fd ps sp) (hr : Room (n + 1) X.A) (O : Own X.K C f "__getitem__") (hf : PySem.W.fnIn X.K f = true) (hb : Binds X.K fd ps []) (hx : Passes CX X E) (ha : PE X a ta) (hi : PE X b tb)
    (hs : ∀ v i, subscripted b true v i = runValue (.builtin "lifetime.subscript" ⟨[v, i], []⟩)) : PE X (.Subscript a b pos) (tOp (rIxO C sp E) ta tb) := by
  refine ⟨fun pins s σ H Q I h => ?_⟩
  refine Subscript_ (binT ha hi I h fun v u s2 x y H2 I2 rx ry q => ?_)
  obtain ⟨p, rfl, ⟨dx, fs, hp⟩, hsp⟩ := q
  cases rx
  obtain ⟨_, J, _⟩ := ins_get I2.hok hp
  obtain ⟨od, J, _⟩ := J.look
  obtain ⟨m, hF⟩ := I2.fr
  exact PySem.W.sub_K hF I2.ok.mod.kin J O.at' hf O.fn (run_own F (A := X.A.in1) (xs := [.ref p, y]) ⟨hr.in1, rfl⟩ hb hx I2 (.cons rfl (.cons ry .nil)) hsp fun z u H1 s1 I1 rz q => ⟨z, H1, I1, rz, q⟩) (hs _ _)
/-- == by the own __eq__, either answer -/
def rEqO (C : Addr) (sp : Sp) (E : XK) : R2 := fun x y H Q => ∃ a b, x = .ref a ∧ y = .ref b ∧ InsC C H a ∧ InsC C H b ∧ sp [.ref a, .ref b] H (fun v H1 => ∃ c, v = .bl c ∧ Q (.bl c) H1) E
theorem op_eqO (F : FnOk X.prog X.w X.K X.mg X.base CX n f fd ps sp) (hr : Room n X.A) (O : Own X.K C f "__eq__") (hb : Binds X.K fd ps []) (hx : Passes CX X E) : OpR X (compareOp .Eq) (rEqO C sp E) := by
  intro pins s σ H x y v u Q I rx ry h
  obtain ⟨a, b, rfl, rfl, ⟨dx, fs, ha⟩, ⟨dy, gs, hb'⟩, hsp⟩ := h
  cases rx
  cases ry
  obtain ⟨_, J, _⟩ := ins_get I.hok ha
  obtain ⟨_, J', _⟩ := ins_get I.hok hb'
  obtain ⟨od, J, _⟩ := J.look
  obtain ⟨od', J', _⟩ := J'.look
  obtain ⟨m, hF⟩ := I.fr
  show wpAny (model X.prog X.w) X.A (richCompare .Eq (.ref a) (.ref b)) (EP X pins σ Q) X.xe s
  refine PySem.W.cmp_K (op := .Eq) (tb := .ref C) hr.units0 hF I.ok.mod.kin J J'.type (by simp [PySem.W.notFirst]) O.at' O.fn (run_own F (A := X.A) (xs := [.ref a, .ref b]) ⟨hr, rfl⟩ hb hx I (.cons rfl (.cons rfl .nil)) hsp fun z u H1 s1 I1 rz q => ?_)
  obtain ⟨c, rfl, q⟩ := q
  cases rz
  exact ⟨.bl c, H1, I1, rfl, q⟩
end
end WO

end
section
set_option autoImplicit false
set_option Elab.async false
set_option linter.all false
set_option maxRecDepth 100000
set_option maxHeartbeats 4000000
/-! ## set(a list of hin), and sorted of it -/
namespace WS
open PySem PySem.Spec PyProof.Rows L2
abbrev empt (Wd : World) : Obj := { cls := .type "set", dict := none, data := .set #[] 0 (.fresh 0 0 (!Wd.params.followText "set-order")) }
abbrev walker (ls : Addr) : Obj := { cls := .type "list_iterator", data := .fields #[.ref ls, .int 0 0] }
section
variable {Pg : Program} {Wd : World} {Ar : Around} {Ex : Value → Shared → Prop} {sh : Shared}
/-- what is left of a new set, filled -/
def Filled (Wd : World) (sh : Shared) (zs : List Int) (s2 : Shared) : Prop := ∃ hp tk c, s2 = { sh with heap := hp, toks := tk } ∧ SetR Wd hp sh.heap.objs.size (fun j => decide (j ∈ zs)) c ∧ c ≤ zs.length ∧ ∀ b o, sh.heap.get? b = some o → hp.get? b = some o
set_option maxHeartbeats 3200000 in
/-- __init__ of the new set at the end of the heap -/
theorem init_list {ls : Addr} {arr : Array Value} {zs : List Int} (ok : Ar.handled = none) (at0 : sh.heap.IsList ls arr) (hin : IntsAre arr.toList zs) (few : zs.length + 1 < scanBound) (tS : Shared.TypeIs { sh with heap := sh.heap.push (empt Wd) } (.ref sh.heap.objs.size) "set") :
    codeAny (model Pg Wd) Ar (.call (.builtin "set.__init__") ⟨[.ref sh.heap.objs.size, .ref ls], []⟩) (wants (fun r s2 => r = .none ∧ Filled Wd sh zs s2) Ex) { sh with heap := sh.heap.push (empt Wd) } := by
  have size_eq : arr.size = zs.length := by
    have q := IntsAre.length hin
    rwa [Array.length_toList] at q
  refine codeAny_call_builtin (R := wants _ Ex) F.called_set.init.plain F.entry_set_init (check_set_init_1 tS ?_)
  obtain ⟨⟨oc, od, oda, osl⟩, gl, cl, nl, dl⟩ := at0
  simp only at cl dl
  subst cl; subst dl
  have gl2 : (sh.heap.push (empt Wd)).get? ls = some { cls := .type "list", dict := od, data := .seq arr nl, slots := osl } := Heap.get?_push_of_some _ gl
  have k1 := F.sub_list_set
  have k2 := F.sub_list_frozenset
  have k3 : (Value.type "list" == Value.type "dict") = false := by decide
  have il : (sh.heap.push (empt Wd)).IsList ls arr := ⟨_, gl2, rfl, nl, rfl⟩
  unfold Builtin.«set.__init__» noKeywords Builtin.Frozenset.updateFrom
  generalize eI : pyIter = IT
  wp_walk
  subst eI
  refine wpAny_pyIter_list il ?_
  refine wpAny_bind (wpAny_runValue ?_)
  have low : ls < sh.heap.objs.size := Heap.lt_size gl
  have sz : (sh.heap.push (empt Wd)).objs.size = sh.heap.objs.size + 1 := Heap.size_push ..
  have ne1 : ls ≠ (sh.heap.push (empt Wd)).objs.size := by rw [sz]; exact Nat.ne_of_lt (Nat.lt_succ_of_lt low)
  have ne2 : sh.heap.objs.size ∉ [(sh.heap.push (empt Wd)).objs.size, ls] := by
    rw [sz]
    intro z
    rcases List.mem_cons.mp z with e | e
    · exact absurd e (Nat.ne_of_lt (Nat.lt_succ_self _))
    · exact absurd (List.mem_singleton.mp e) (Nat.ne_of_gt low)
  have item : ∀ (i : Nat) (v : Value), arr[i]? = some v → ∃ k t, zs[i]? = some k ∧ v = .int k t := by
    intro i v hv
    have hi : i < zs.length := by rw [← size_eq]; exact (Array.getElem?_eq_some_iff.mp hv).1
    obtain ⟨t, e⟩ := PyProof.Rows.IntsAre.int_at hin i v (by rw [Array.getElem?_toList]; exact hv)
    refine ⟨zs[i], t, List.getElem?_eq_getElem hi, ?_⟩
    rw [e, List.getD_eq_getElem?_getD, List.getElem?_eq_getElem hi] <;> rfl
  refine set_update_ints ((Walks.list (by simp [ok]) _ ls ne1 arr).toS) sh.heap.objs.size ne2 zs size_eq few item (arr.size - 0) 0 _ (by omega) (Nat.zero_le _) ⟨⟨_, Heap.get?_push_size _ rfl, rfl, rfl⟩, (il.push _)⟩ ?first0 ?rest0
  case first0 =>
    have g : ((sh.heap.push (empt Wd)).push (walker ls)).get? sh.heap.objs.size = some (empt Wd) := Heap.get?_push_of_some _ (Heap.get?_push_size _ rfl)
    exact ⟨0, Nat.le_refl 0, setR_new_at g⟩
  case rest0 =>
    rintro ⟨hp, g2, d2, tk, os2⟩ c mv hc R
    have eg : g2 = sh.gens := mv.gens
    have ed : d2 = sh.drawn := mv.drawn
    have eo : os2 = sh.os := mv.os
    subst eg; subst ed; subst eo
    show wpAny _ _ _ _ _ _
    refine wpAny_pure ?_
    show wpAny _ _ (ret Value.none) _ _ _
    rw [size_eq] at hc
    refine wpAny_pure ⟨rfl, hp, tk, c, rfl, R, hc, fun b o e => ?_⟩
    have lb : b < sh.heap.objs.size := Heap.lt_size e
    refine mv.heap b o ?_ (Heap.get?_push_of_some _ (Heap.get?_push_of_some _ e))
    rw [sz]
    intro z
    rcases List.mem_cons.mp z with e | e
    · exact absurd e (Nat.ne_of_lt lb)
    · exact absurd (List.mem_singleton.mp e) (Nat.ne_of_lt (Nat.lt_succ_of_lt lb))
set_option maxHeartbeats 3200000 in
theorem set_of_list {ls : Addr} {arr : Array Value} (zs : List Int) {Qv : Value → Shared → Prop} (ok : Ar.handled = none) (at0 : sh.heap.IsList ls arr) (hin : IntsAre arr.toList zs) (few : zs.length + 1 < scanBound)
    (k : ∀ s2, Filled Wd sh zs s2 → Qv (.ref sh.heap.objs.size) s2) : wpAny (model Pg Wd) Ar (call (.type "set") [.ref ls]) Qv Ex sh := by
  obtain ⟨c0, tl0, mro0⟩ := F.called_set.mro
  have f1 := F.called_set.made
  have f2 := F.called_set.sub
  refine wpAny_call (codeAny_of_tree ?_)
  show wpAny _ _ (callAny (.type "set") _) _ _ _
  refine wpAny_pure ⟨Code.quiet_builtin _ (by decide +kernel), codeAny_builtin F.entry_type_call ?_⟩
  rw [Around.under_plain (weight_type_call_type "set" [.ref ls] []) rfl]
  have f3 := F.called_set.notType
  have f4 := F.called_set.canCreate
  have f5 := F.typeCall_set_1 (.ref ls)
  repeat (any_goals (first | assumption | wp_step))
  refine codeAny_mono (code_set_led1 (.ref ls) (E := Ex) (Q₁ := fun ob s1 => ob = .ref sh.heap.objs.size ∧ s1 = { sh with heap := sh.heap.push (empt Wd) }) ⟨rfl, rfl⟩) fun r s1 hr => ?_
  match r, hr with
  | .error e, hr => exact hr
  | .ok .next, hr => exact hr.elim
  | .ok .brk, hr => exact hr.elim
  | .ok .cont, hr => exact hr.elim
  | .ok (.ret ob), hr =>
    obtain ⟨rfl, rfl⟩ := hr
    have tS : Shared.TypeIs { sh with heap := sh.heap.push (empt Wd) } (.ref sh.heap.objs.size) "set" := ⟨_, Heap.get?_push_size _ rfl, rfl⟩
    have f6 := F.called_set.init.lookup
    have f7 := F.called_set.init.bind (.ref sh.heap.objs.size)
    repeat (any_goals (first | assumption | wp_step))
    refine codeAny_mono (init_list (zs := zs) (Ex := Ex) (by simp [ok]) at0 hin few tS) fun r2 s2 hr2 => ?_
    match r2, hr2 with
    | .error e, hr2 => exact hr2
    | .ok .next, hr2 => exact hr2.elim
    | .ok .brk, hr2 => exact hr2.elim
    | .ok .cont, hr2 => exact hr2.elim
    | .ok (.ret v), hr2 =>
      obtain ⟨rfl, hF⟩ := hr2
      obtain ⟨hp, tk, c, rfl, R, hc, hk⟩ := hF
      repeat (any_goals (first | assumption | wp_step))
      exact k _ ⟨hp, tk, c, rfl, R, hc, hk⟩
end
section
variable {X : Cx}
def rSetL (K : PySem.W.Frag) (Wd : World) : List V → Hp → VK → Prop := fun xs H Q => ∃ (l : Addr) (zs : List Int), xs = [.ref l] ∧ SqL K H l (zs.map V.int) ∧ zs.length ≤ 4000 ∧ ∀ (p : Addr) (c : Nat), H p = none → c ≤ zs.length → Q (.ref p) (upd H p (SetO Wd p (fun j => decide (j ∈ zs)) c))
theorem cr_setL (hc : X.calm = true) : CallR X (.type "set") (rSetL X.K X.w) := by
  intro pins s σ H xs us Q I r h
  obtain ⟨l, zs, rfl, hL, few, q⟩ := h
  rw [Vals.ref1 r]
  obtain ⟨its, rv, pl, _⟩ := I.list hL
  refine set_of_list zs (I.ok.hd hc) pl.isList (by simpa using ints_of_vals rv) (by unfold scanBound; omega) fun s2 hF => ?_
  obtain ⟨hp, tk, c, rfl, R, hc2, hk⟩ := hF
  exact ⟨.ref _, upd H s.heap.objs.size (SetO X.w s.heap.objs.size (fun j => decide (j ∈ zs)) c), I.laid (t' := tk) hk (Nat.le_refl _) (setO_new R), rfl, q _ c (I.hok.fresh (Nat.le_refl _)) hc2⟩
end
end WS

end
section
set_option autoImplicit false
set_option Elab.async false
set_option linter.all false
set_option maxRecDepth 100000
set_option maxHeartbeats 4000000
/-! ## pieces for any law -/
namespace Y
open PySem L2 G
theorem of_upd {H : Hp} {p : Addr} {o : HO} (h : H p = none) : Same H (upd H p o) := fun a u e => by
  rw [upd_ne (ne_of_none e h)]
  exact e
theorem add_upd {H G : Hp} {D : Addr} {o : HO} (nD : H D = none) (s : Same H G) : Same H (upd G D o) := fun b u e => by
  rw [upd_ne (ne_of_none e nD)]
  exact s _ _ e
/-- a def of the text that is called by its name, and keeps a promise -/
structure Df (P : Program) (w : World) (K : PySem.W.Frag) (mg : Str → Option Value) (base : Heap) (k : Nat) (x : Str) (ps : List Str) (sp : Sp) : Prop where
  ex : ∃ (f : Addr) (fd : FuncData), FnOk P w K mg base CX0 k f fd ps sp ∧ mg x = some (.ref f) ∧ PySem.W.keepIn K (.ref f) = true ∧ Binds K fd ps []
structure Fd (K : PySem.W.Frag) (mg : Str → Option Value) (x : Str) (st : Stmt) (ps : List Str) : Prop where
  ex : ∃ (f : Addr) (fd : FuncData), Fun K x x st f fd ∧ mg x = some (.ref f) ∧ PySem.W.keepIn K (.ref f) = true ∧ Binds K fd ps []
theorem Fd.df {P : Program} {w : World} {K : PySem.W.Frag} {mg : Str → Option Value} {base : Heap} {x : Str} {st : Stmt} {ps : List Str} {k : Nat} {sp : Sp} (h : Fd K mg x st ps) (ok : ∀ f fd, Fun K x x st f fd → FnOk P w K mg base CX0 k f fd ps sp) : Df P w K mg base k x ps sp := by
  obtain ⟨f, fd, h1, h2, h3, h4⟩ := h.ex
  exact ⟨f, fd, ok f fd h1, h2, h3, h4⟩
theorem set_then {te : TE} {i : Nat} {t2 : TS} {D : Ends} {σ : L2.St} {H : Hp} (h : te σ H fun v H1 => t2 D (σ.set i (some v)) H1) : tSeq (tAsg te (gName i)) t2 D σ H := h
theorem len_put {f : Str} {v : V} {fs : List (Str × V)} {n : Nat} (h : fs.length < n) : (putF f v fs).length < n + 1 := Nat.lt_of_le_of_lt (length_putF f v fs) (Nat.succ_lt_succ h)
theorem take_snoc {α : Type} {l : List α} {i : Nat} {x : α} (h : l[i]? = some x) : l.take (i + 1) = l.take i ++ [x] := by
  rw [List.take_succ, h]
  rfl
theorem drop_at {α : Type} {l : List α} {i : Nat} {x : α} (h : l[i]? = some x) : l.drop i = x :: l.drop (i + 1) := by
  obtain ⟨hi, ex⟩ := List.getElem?_eq_some_iff.mp h
  rw [← ex, ← List.drop_eq_getElem_cons hi]
section
variable {X : Cx} {tg it : Expr}
theorem pi_or {w1 w2 : TI} (h1 : PI X tg it w1) (h2 : PI X tg it w2) : PI X tg it (fun σ H R => w1 σ H R ∨ w2 σ H R) := ⟨fun pins s σ H R I h => h.elim (h1.run pins s σ H R I) (h2.run pins s σ H R I)⟩
def tDead : TS := fun _ _ _ => False
theorem ps_dead {b : List Stmt} : PSs X b tDead := ⟨fun _ _ _ _ _ _ h => h.elim⟩
end
def SAt (H : Hp) (l : Addr) (xs : List V) : Prop := H l = some (.lst xs) ∨ H l = some (.tup xs)
theorem SAt.mono {H H' : Hp} {l : Addr} {xs : List V} (s : Same H H') (h : SAt H l xs) : SAt H' l xs := h.elim (fun e => .inl (s _ _ e)) fun e => .inr (s _ _ e)
section
variable {K : PySem.W.Frag} {H : Hp} {σ : L2.St} {l : Addr} {xs : List V}
theorem or_seq {te : TE} {R : It → Hp → Prop} (ht : ∀ Q : VK, Q (.ref l) H → te σ H Q) (hl : SAt H l xs) (k : ∀ (J : It) (Gd : Hp → Prop), (∀ H', Same H H' → Gd H') → Walk J xs.length Gd (YAt xs) → R J H) : iList K te σ H R ∨ iTup K te σ H R :=
  hl.elim (fun e => .inl (ht _ ⟨l, rfl, ⟨xs, SqL.of e⟩, k _ _ (fun H' s => SqL.of (s _ _ e)) walk_list⟩)) fun e => .inr (ht _ ⟨l, rfl, ⟨xs, SqT.of e⟩, k _ _ (fun H' s => SqT.of (s _ _ e)) walk_tup⟩)
end
theorem at0 {y0 : V} {ys : List V} : atI (y0 :: ys) (0 : Int) = some y0 := by exact atI_nat (xs := y0 :: ys) (j := 0) rfl
def ni (l : List Nat) : List V := (l.map fun n => ((n : Nat) : Int)).map V.int
theorem ni_len (l : List Nat) : (ni l).length = l.length := by
  unfold ni
  rw [List.length_map, List.length_map]
theorem ni_get {l : List Nat} {i : Nat} {x : V} (h : (ni l)[i]? = some x) : ∃ b, l[i]? = some b ∧ x = .int ((b : Nat) : Int) := by
  unfold ni at h
  rw [List.getElem?_map, List.getElem?_map] at h
  cases e : l[i]? with
  | none => rw [e] at h; cases h
  | some b =>
    rw [e] at h
    cases h
    exact ⟨b, rfl, rfl⟩
theorem ni_at {l : List Nat} {i b : Nat} (h : l[i]? = some b) : (ni l)[i]? = some (.int ((b : Nat) : Int)) := by
  unfold ni
  rw [List.getElem?_map, List.getElem?_map, h]
  rfl
theorem ni_app (l m : List Nat) : ni (l ++ m) = ni l ++ ni m := by
  unfold ni
  rw [List.map_append, List.map_append]
theorem ni_drop (l : List Nat) (i : Nat) : (ni l).drop i = ni (l.drop i) := by
  unfold ni
  rw [← List.map_drop, ← List.map_drop]
theorem ni_take (l : List Nat) (i : Nat) : (ni l).take i = ni (l.take i) := by
  unfold ni
  rw [← List.map_take, ← List.map_take]
theorem line2 : 2 ≤ sizeLine ∧ 3 ≤ sizeLine ∧ 1 ≤ sizeLine ∧ 0 ≤ sizeLine := by decide
/-- xs[k:] -/
theorem cut_from (xs : List V) (k : Nat) : cutV xs (some (k : Int)) none = xs.drop k := by
  unfold cutV
  rw [HT.sIx_none, HT.sIx_nat]
  by_cases h : k ≤ xs.length
  · rw [Nat.min_eq_left h]
    exact List.take_of_length_le (by rw [List.length_drop]; omega)
  · rw [Nat.min_eq_right (by omega), List.drop_of_length_le (by omega), List.drop_of_length_le (by omega), List.take_nil]
theorem six_pos {n k : Nat} (h : 0 < k) (hn : 0 < n) (d : Nat) : HT.sIx n d (some (k : Int)) ≠ 0 := by
  rw [HT.sIx_nat]
  omega
structure Bn (mg : Str → Option Value) : Prop where
  isi : mg "isinstance" = none
  bool : mg "bool" = none
  int : mg "int" = none
  tuple : mg "tuple" = none
  list : mg "list" = none
  len : mg "len" = none
  range : mg "range" = none
  zip : mg "zip" = none
  min : mg "min" = none
  max : mg "max" = none
  sorted : mg "sorted" = none
  set : mg "set" = none
  enum : mg "enumerate" = none
end Y

end
section
set_option Elab.async false
set_option linter.all false
set_option maxRecDepth 100000
set_option maxHeartbeats 4000000
/-! ## where the law draws from -/
namespace S
open PySem L2
def top (i : Nat) : Stmt := PySem.Challenge.pw_roadsizes_k33_bodies_refused.main.body.getD i (.Pass ⟨0, 0, 0, 0⟩)
abbrev sSource : Stmt := top 56
abbrev sDraw : Stmt := top 57
abbrev sPick : Stmt := top 58
/-- the built-ins that these defs call -/
structure Bi (mg : Str → Option Value) : Prop where
  int : mg "int" = none
  len : mg "len" = none
/-- a source: two numbers that are not negative, the second one small -/
def Two (r m : Int) : List V := [.int r, .int m]
structure Fine (r m : Int) : Prop where
  r0 : 0 ≤ r
  m0 : 0 ≤ m
  m1 : m < 2147483648
def At (H : Hp) (p : Addr) : Prop := ∃ r m, H p = some (.lst (Two r m)) ∧ Fine r m
theorem bits_lt (x : Int) : x.natAbs < 2 ^ (Builtin.Int.intBits x) := by
  unfold Builtin.Int.intBits
  split
  · rename_i h
    have e : x = 0 := by simpa using h
    subst e
    decide
  · exact Nat.lt_log2_self
theorem bits_le {x : Int} {n : Nat} (h : x.natAbs < 2 ^ n) : Builtin.Int.intBits x ≤ n := by
  unfold Builtin.Int.intBits
  split
  · exact Nat.zero_le _
  · rename_i q
    have ne : x.natAbs ≠ 0 := fun e => q (by simp [Int.natAbs_eq_zero.mp e])
    exact (Nat.log2_lt ne).mpr h
theorem cube_ok {m z : Int} (h0 : 0 ≤ m) (h1 : m < 2147483648) (hz : Builtin.Int.intBits z ≤ 1048576) : (Builtin.Int.intBits (m * 40127 + z) : Int) * 3 ≤ 2 ^ 27 := by
  have b1 := bits_lt z
  have b2 : z.natAbs < 2 ^ 1048576 := Nat.lt_of_lt_of_le b1 (Nat.pow_le_pow_right (by decide) hz)
  have b3 : (m * 40127 + z).natAbs < 2 ^ 1048577 := by
    have e : (2 : Nat) ^ 1048577 = 2 ^ 1048576 * 2 := Nat.pow_succ ..
    have e2 : (2 : Nat) ^ 100 ≤ 2 ^ 1048576 := Nat.pow_le_pow_right (by decide) (by decide)
    have e3 : (2 : Nat) ^ 100 = 1267650600228229401496703205376 := by decide
    generalize (2 : Nat) ^ 1048576 = t at *
    rw [e]
    omega
  have b4 := bits_le b3
  have e27 : (2 : Int) ^ 27 = 134217728 := by decide
  rw [e27]
  omega
/-! ### promises -/
def spSource (K : PySem.W.Frag) : Sp := fun vs H Q _ => ∃ (a : Addr) (ns : List Int) (i : Nat), vs = [.ref a, .int i] ∧ i ≤ 1000 ∧ SqL K H a (ns.map V.int) ∧ ns.length ≤ 63 ∧ (∀ z ∈ ns, Builtin.Int.intBits z ≤ 1048576) ∧
  ∀ p r m, H p = none → Fine r m → Q (.ref p) (upd H p (.lst (Two r m)))
def spDraw : Sp := fun vs H Q _ => ∃ (p : Addr) (r m span : Int), vs = [.ref p, .int span] ∧ H p = some (.lst (Two r m)) ∧ Fine r m ∧ 1 ≤ span ∧ span.natAbs.log2 < 9000 ∧
  ∀ k r' m', Fine r' m' → 0 ≤ k → k < span → Q (.int k) (upd H p (.lst (Two r' m')))
def spPick (K : PySem.W.Frag) : Sp := fun vs H Q _ => ∃ (p l : Addr) (r m : Int) (xs : List V), vs = [.ref p, .ref l] ∧ H p = some (.lst (Two r m)) ∧ Fine r m ∧ l ≠ p ∧ SqL K H l xs ∧ 1 ≤ xs.length ∧ xs.length ≤ 1000 ∧
  ∀ (j : Nat) (x : V) (r' m' : Int), Fine r' m' → xs[j]? = some x → Q x (upd H p (.lst (Two r' m')))
section
variable {P : Program} {w : World} {K : PySem.W.Frag} {mg : Str → Option Value} {base : Heap}
theorem sc1 : FnScope ["script", "start", "seed", "cell", "digits"] ["script", "start"] (defScope sSource) := ⟨rfl, rfl, rfl, by decide +kernel, rfl, by decide +kernel, by decide +kernel⟩
theorem ints_at {ns : List Int} {i : Nat} {x : V} (h : (ns.map V.int)[i]? = some x) : ∃ z, x = .int z ∧ z ∈ ns ∧ ns[i]? = some z := by
  rw [List.getElem?_map] at h
  cases e : ns[i]? with
  | none => rw [e] at h; cases h
  | some z => rw [e] at h; exact ⟨z, (Option.some.inj h).symm, List.mem_of_getElem? e, rfl⟩
theorem ok_source {f : Addr} {fd : FuncData} (F : Fun K "_law_stream" "_law_stream" sSource f fd) (B : Bi mg) : FnOk P w K mg base CX0 1 f fd ["script", "start"] (spSource K) := by
  refine F.ok sc1 (fun vs H Q E h => ?_) (fun cdv A outer s H vs Q E hr h => ?_)
  · obtain ⟨a, ns, i, rfl, _⟩ := h
    rfl
  · obtain ⟨a, ns, st, rfl, hst, hS, hl, hb, k⟩ := h
    refine ⟨_, pss_cons (ps_set (i := 2) sc1.nd rfl (Or.inl rfl) (pe_op op_add pe_int (pv 1)))
      (pss_cons (ps_for PassesOwn.never rfl (pi_list (pv 0)) (pg_name (i := 3) sc1.nd rfl (Or.inl rfl))
        (pss_one (ps_set (i := 2) sc1.nd rfl (Or.inl rfl) (pe_op op_add (pe_op op_mod
          (pe_op G.op_powN (pe_callTy call_int1 (by rfl) B.int (by decide +kernel) (pa_cons (pe_op op_add (pe_op op_mul (pv 2) pe_int) (pv 3)) pa_nil)) pe_int) pe_int) pe_int))))
      (pss_cons (ps_set (i := 4) sc1.nd rfl (Or.inl rfl) pe_int)
      (pss_cons (ps_if (PW.pt (pw_and (pt_cmpR op_lt (pv 1) (pe_callB call_len_seq (by rfl) B.len PySem.boot_len (pa_cons (pv 0) pa_nil)) (nomark _))
          (pw_and1 (pt_cmpR op_ge (pe_ix ix_list (pv 0) (pv 1) (fun _ _ => rfl)) (pe_op op_pow pe_int pe_int) (nomark _)))))
        (pss_one (ps_set (i := 4) sc1.nd rfl (Or.inl rfl) (pe_op op_sub (pe_ix ix_list (pv 0) (pv 1) (fun _ _ => rfl)) (pe_op op_pow pe_int pe_int)))) pss_nil)
      (pss_one (ps_ret (pe_lst (pa_cons (pv 4) (pa_cons (pv 2) pa_nil)))))))), ?_⟩
    -- mixed = 97 + start
    refine ⟨_, rfl, _, _, rfl, rfl, ?_⟩
    -- for cell in script
    refine ⟨_, rfl, a, rfl, ⟨_, hS⟩, for_list (K := K) (a := a) (xs := ns.map V.int) (fun i σ H2 => ∃ (m : Int) (c : Option V), σ = [some (.ref a), some (.int st), some (.int m), c, none] ∧ H2 = H ∧ (0 ≤ m ∧ m < 2147483648))
      ⟨_, none, rfl, rfl, by omega, by omega⟩ (fun i σ H2 _ ⟨_, _, _, e, _⟩ => by rw [e]; exact hS) ?_ ?_⟩
    · rintro i y σ H2 hi ⟨m, c, rfl, rfl, h0, h1⟩
      obtain ⟨z, rfl, hz, _⟩ := ints_at hi
      refine ⟨_, rfl, _, _, rfl, rfl, .inl ⟨by omega, by omega⟩, _, rfl, _, _, rfl, rfl, .inl ⟨_, rfl, _, _, rfl, rfl, ⟨by decide, cube_ok h0 h1 (hb z hz)⟩, _, _, rfl, rfl, (by show (0 : Int) < 2147483629; decide), _, _, rfl, rfl, ?_⟩⟩
      refine ⟨_, _, rfl, rfl, ?_⟩
      have e1 := Int.emod_nonneg ((m * 40127 + z) ^ (3 : Int).toNat) (b := 2147483629) (by decide)
      have e2 := Int.emod_lt_of_pos ((m * 40127 + z) ^ (3 : Int).toNat) (b := 2147483629) (by decide)
      exact ⟨Int.add_nonneg e1 (by decide), Int.lt_of_lt_of_le (Int.add_lt_add_right e2 1) (by decide)⟩
    · rintro σ H2 ⟨m, c, rfl, rfl, h0, h1⟩
      -- rest = 0; if start < len(script) and script[start] >= 10 ** 18
      refine ⟨_, rfl, _, rfl, a, _, rfl, .inl hS, _, _, rfl, rfl, _, rfl, ?_⟩
      have fin : ∀ r : Int, 0 ≤ r → tRet (tLst (tCons (tVar 4) (tCons (tVar 2) tNil))) { nx := fun _ H' => Q .non H', rt := Q } [some (.ref a), some (.int st), some (.int m), c, some (.int r)] H2 := fun r hr =>
        ⟨_, rfl, _, rfl, (by show 2 ≤ sizeLine; decide), fun p hp => k p r m hp ⟨hr, h0, h1⟩⟩
      by_cases hlt : st < ns.length
      · have e : decide ((st : Int) < ((ns.map V.int).length : Int)) = true := by
          rw [List.length_map]
          exact decide_eq_true (by omega)
        rw [e]
        refine iteT ?_
        have hit : (ns.map V.int)[st]? = some (V.int ns[st]) := by rw [List.getElem?_map, List.getElem?_eq_getElem hlt]; rfl
        refine ⟨_, rfl, _, rfl, a, _, _, _, rfl, rfl, hS, atI_nat hit, _, _, rfl, rfl, ⟨by decide, by decide, by decide⟩, _, _, rfl, rfl, _, rfl, ?_⟩
        refine ite2 (fun hge => ?_) (fun _ => fin 0 (by decide))
        refine ⟨_, rfl, _, rfl, a, _, _, _, rfl, rfl, hS, atI_nat hit, _, _, rfl, rfl, ⟨by decide, by decide, by decide⟩, _, _, rfl, rfl, ?_⟩
        exact fin _ (Int.sub_nonneg_of_le (of_decide_eq_true hge))
      · have e : decide ((st : Int) < ((ns.map V.int).length : Int)) = false := by
          rw [List.length_map]
          exact decide_eq_false (by omega)
        rw [e]
        exact iteF (iteF (fin 0 (by decide)))
theorem fits {a : Int} {n : Nat} (h : 0 ≤ a) (h1 : a < 2 ^ n) : a.natAbs < 2 ^ n := by
  have e : ((2 : Int) ^ n) = ((2 ^ n : Nat) : Int) := by rw [Int.natCast_pow]; rfl
  rw [e] at h1
  omega
theorem sc2 : FnScope ["stream", "size", "found"] ["stream", "size"] (defScope sDraw) := ⟨rfl, rfl, rfl, by decide +kernel, rfl, by decide +kernel, by decide +kernel⟩
theorem ok_draw {f : Addr} {fd : FuncData} (F : Fun K "_law_draw" "_law_draw" sDraw f fd) (B : Bi mg) : FnOk P w K mg base CX0 1 f fd ["stream", "size"] spDraw := by
  refine F.ok sc2 (fun vs H Q E h => ?_) (fun cdv A outer s H vs Q E hr h => ?_)
  · obtain ⟨p, r, m, span, rfl, _⟩ := h
    rfl
  · obtain ⟨p, r, m, span, rfl, hp, ⟨r0, m0, m1⟩, s1, s2, k⟩ := h
    refine ⟨_, pss_cons (ps_if (pt_cmpR op_ge (pe_ix ix_list (pv 0) pe_int (fun _ _ => rfl)) (pv 1) (nomark _))
        (pss_cons (ps_set (i := 2) sc2.nd rfl (Or.inl rfl) (pe_op op_mod (pe_callTy call_int1 (by rfl) B.int (by decide +kernel) (pa_cons (pe_ix ix_list (pv 0) pe_int (fun _ _ => rfl)) pa_nil)) (pv 1)))
        (pss_cons (ps_asg (pe_op op_fdivW (pe_ix ix_list (pv 0) pe_int (fun _ _ => rfl)) (pv 1)) (pg_sub (pv 0) pe_int set_list))
        (pss_one (ps_ret (pv 2))))) pss_nil)
      (pss_cons (ps_asg (pe_op op_mod (pe_callTy call_int1 (by rfl) B.int (by decide +kernel) (pa_cons (pe_op op_add (pe_op op_mul (pe_ix ix_list (pv 0) pe_int (fun _ _ => rfl)) pe_int) pe_int) pa_nil)) pe_int) (pg_sub (pv 0) pe_int set_list))
      (pss_one (ps_ret (pe_op op_mod (pe_op op_fdiv (pe_op op_mod (pe_op op_pow (pe_op op_mod (pe_op op_pow (pe_callTy call_int1 (by rfl) B.int (by decide +kernel) (pa_cons (pe_ix ix_list (pv 0) pe_int (fun _ _ => rfl)) pa_nil)) pe_int) pe_int) pe_int) pe_int) pe_int) (pv 1))))), ?_⟩
    have g0 : atI (Two r m) 0 = some (.int r) := rfl
    refine ⟨_, rfl, p, _, _, _, rfl, rfl, SqL.of hp, g0, _, rfl, _, _, rfl, rfl, _, rfl, ?_⟩
    refine ite2 (fun hge => ?_) (fun hlt => ?_)
    · have hge' : span ≤ r := of_decide_eq_true hge
      have q0 : 0 ≤ r / span := Int.ediv_nonneg r0 (by omega)
      refine ⟨_, rfl, p, _, _, _, rfl, rfl, SqL.of hp, g0, .inl ⟨_, rfl, _, rfl, _, _, rfl, rfl, (by show 0 < span; omega), ?_⟩⟩
      refine ⟨_, rfl, p, _, _, _, rfl, rfl, SqL.of hp, g0, _, rfl, _, _, rfl, rfl, ⟨(by omega), s2⟩, ?_⟩
      refine ⟨_, rfl, p, _, _, _, rfl, rfl, hp, rfl, ?_⟩
      exact ⟨_, rfl, k (r % span) (r / span) m ⟨q0, m0, m1⟩ (Int.emod_nonneg _ (by omega)) (Int.emod_lt_of_pos _ (by omega))⟩
    · have g1 : atI (Two r m) 1 = some (.int m) := rfl
      have e1 := Int.emod_nonneg (m * 48271 + 12345) (b := 2147483647) (by decide)
      have e2 := Int.emod_lt_of_pos (m * 48271 + 12345) (b := 2147483647) (by decide)
      refine ⟨_, rfl, p, _, _, _, rfl, rfl, SqL.of hp, g1, _, _, rfl, rfl, .inl ⟨by omega, by omega⟩, _, _, rfl, rfl, .inl ⟨_, rfl, _, _, rfl, rfl, (by show (0 : Int) < 2147483647; decide), ?_⟩⟩
      refine ⟨_, rfl, p, _, _, _, rfl, rfl, hp, rfl, ?_⟩
      have hp2 : (upd H p (.lst (Two r ((m * 48271 + 12345) % 2147483647)))) p = some (.lst (Two r ((m * 48271 + 12345) % 2147483647))) := upd_same
      have g2 : atI (Two r ((m * 48271 + 12345) % 2147483647)) 1 = some (.int ((m * 48271 + 12345) % 2147483647)) := rfl
      have f1 := Int.emod_nonneg (((m * 48271 + 12345) % 2147483647) ^ (3 : Int).toNat) (b := 2147483629) (by decide)
      have f2 := Int.emod_lt_of_pos (((m * 48271 + 12345) % 2147483647) ^ (3 : Int).toNat) (b := 2147483629) (by decide)
      refine ⟨_, rfl, p, _, _, _, rfl, rfl, SqL.of hp2, g2, .inl ⟨_, rfl, _, _, rfl, rfl, ⟨by decide, by decide, by omega⟩, _, _, rfl, rfl, (by show (0 : Int) < 2147483629; decide), ?_⟩⟩
      generalize (((m * 48271 + 12345) % 2147483647) ^ (3 : Int).toNat) % 2147483629 = u at f1 f2 ⊢
      refine ⟨_, _, rfl, rfl, ⟨by decide, by decide, by omega⟩, _, _, rfl, rfl, (by show (0 : Int) < 1000000007; decide), _, _, rfl, rfl, ⟨by decide, by decide⟩, _, rfl, _, _, rfl, rfl, (by show 0 < span; omega), ?_⟩
      exact k _ r _ ⟨r0, e1, by omega⟩ (Int.emod_nonneg _ (by omega)) (Int.emod_lt_of_pos _ (by omega))
end
end S

end
section
set_option autoImplicit false
set_option Elab.async false
set_option linter.all false
set_option maxRecDepth 100000
set_option maxHeartbeats 4000000
/-! ## the program's chains -/
namespace CP
open PySem L2 G Y
abbrev sInteger : Stmt := S.top 2
abbrev sWithin : Stmt := S.top 3
abbrev sCInit : Stmt := inClass (S.top 20) 0
abbrev sCHas : Stmt := inClass (S.top 20) 1
abbrev sCGet : Stmt := inClass (S.top 20) 2
abbrev sCPieces : Stmt := inClass (S.top 20) 6
abbrev sCDigits : Stmt := inClass (S.top 20) 7
abbrev sCStretch : Stmt := inClass (S.top 20) 8
abbrev sCBoundary : Stmt := inClass (S.top 20) 10
abbrev sAreCuts : Stmt := S.top 21
abbrev sCounts : Stmt := S.top 22
abbrev sPieces : Stmt := S.top 23
/-- cuts: falling, at most 1000 -/
structure Cuts (l : List Nat) : Prop where
  fall : N.Fall l
  le : ∀ c ∈ l, c ≤ 1000
  len : l.length ≤ 1000
theorem Cuts.at {l : List Nat} (h : Cuts l) {i c : Nat} (e : l[i]? = some c) : 0 < c ∧ c ≤ 1000 := ⟨h.fall.pos c (List.mem_of_getElem? e), h.le c (List.mem_of_getElem? e)⟩
theorem Cuts.drop {l : List Nat} (h : Cuts l) (i : Nat) : Cuts (l.drop i) := ⟨h.fall.drop i, fun c hc => h.le c (List.mem_of_mem_drop hc), by rw [List.length_drop]; have := h.len; omega⟩
section
variable {P : Program} {w : World} {K : PySem.W.Frag} {mg : Str → Option Value} {base : Heap} {C : Addr}
def spInteger : Sp := fun vs H Q _ => ∃ v : Int, vs = [.int v] ∧ Q (.bl true) H
theorem scIn : FnScope ["value"] ["value"] (defScope sInteger) := ⟨rfl, rfl, rfl, by decide +kernel, rfl, by decide +kernel, by decide +kernel⟩
theorem ok_integer {f : Addr} {fd : FuncData} (F : Fun K "is_integer" "is_integer" sInteger f fd) (B : Bn mg) : FnOk P w K mg base CX0 1 f fd ["value"] spInteger := by
  refine F.ok scIn (fun vs H Q E h => ?_) (fun cdv A outer s H vs Q E hr h => ?_)
  · obtain ⟨v, rfl, _⟩ := h
    rfl
  · obtain ⟨v, rfl, k⟩ := h
    refine ⟨_, pss_one (ps_ret (pe_and (pe_callB call_isi (by rfl) B.isi (by decide +kernel) (pa_cons (pv 0) (pa_cons (pe_bltn (v := .ty "int") (by rfl) B.int (by decide +kernel) rfl) pa_nil)))
      (pe_one (pe_not (pe_callB call_isi (by rfl) B.isi (by decide +kernel) (pa_cons (pv 0) (pa_cons (pe_bltn (v := .ty "bool") (by rfl) B.bool (by decide +kernel) rfl) pa_nil))))))), ?_⟩
    exact ⟨_, rfl, _, _, _, _, _, rfl, .ty _, .base (.int _), kit_ty (r := true) (by decide +kernel), _, rfl, iteT ⟨_, rfl, _, _, _, _, _, rfl, .ty _, .base (.int _), kit_ty (r := false) (by decide +kernel), _, rfl, k⟩⟩
def spWithin : Sp := fun vs H Q _ => ∃ v a b : Int, vs = [.int v, .int a, .int b] ∧ Q (.bl (decide (a ≤ v ∧ v ≤ b))) H
theorem sc3 : FnScope ["value", "least", "greatest"] ["value", "least", "greatest"] (defScope sWithin) := ⟨rfl, rfl, rfl, by decide +kernel, rfl, by decide +kernel, by decide +kernel⟩
theorem ok_within {f : Addr} {fd : FuncData} (F : Fun K "is_within" "is_within" sWithin f fd) (DI : Df P w K mg base 1 "is_integer" ["value"] spInteger) : FnOk P w K mg base CX0 2 f fd ["value", "least", "greatest"] spWithin := by
  obtain ⟨fI, fdI, GI, gI, kI, bI⟩ := DI.ex
  refine F.ok sc3 (fun vs H Q E h => ?_) (fun cdv A outer s H vs Q E hr h => ?_)
  · obtain ⟨v, a, b, rfl, _⟩ := h
    rfl
  · obtain ⟨v, a, b, rfl, k⟩ := h
    refine ⟨_, pss_one (ps_ret (pe_and (pe_call GI hr rfl gI kI bI .nil pass0 (pa_cons (pv 0) pa_nil)) (pe_one (pe_chain op_le op_le (pv 1) (pv 0) (pv 2))))), ?_⟩
    refine ⟨_, rfl, v, rfl, _, rfl, iteT ⟨_, rfl, _, rfl, _, _, rfl, rfl, _, rfl, ?_⟩⟩
    refine ite2 (fun h1 => ⟨_, rfl, _, _, rfl, rfl, ?_⟩) (fun h1 => ?_)
    · have e1 : a ≤ v := of_decide_eq_true h1
      rw [show decide (a ≤ v ∧ v ≤ b) = decide (v ≤ b) by
        by_cases z : v ≤ b
        · rw [decide_eq_true z, decide_eq_true ⟨e1, z⟩]
        · rw [decide_eq_false z, decide_eq_false fun q => z q.2]] at k
      exact k
    · rw [show decide (a ≤ v ∧ v ≤ b) = false from decide_eq_false fun q => h1 (decide_eq_true q.1)] at k
      exact k
/-- _pieces -/
def spPieces (K : PySem.W.Frag) : Sp := fun vs H Q _ => ∃ (b : Nat) (l : List Nat) (t u : Addr), vs = [.int (b : Int), .ref t, .ref u] ∧ SqT K H t (ni l) ∧ SqT K H u (ni (N.cn l)) ∧ Cuts l ∧ ∀ H', Same H H' → Q (.int ((N.PC l b : Nat) : Int)) H'
abbrev NPc : List Str := ["body", "cuts", "counts", "pieces", "rest", "cut", "count"]
theorem scPc : FnScope NPc ["body", "cuts", "counts"] (defScope sPieces) := ⟨rfl, rfl, rfl, by decide +kernel, rfl, by decide +kernel, by decide +kernel⟩
theorem sqT_same {H H' : Hp} {a : Addr} {xs : List V} (s : Same H H') (h : SqT K H a xs) : SqT K H' a xs := h.elim (fun h => .inl (h.elim (fun h => .inl (s _ _ h)) fun ⟨o, h⟩ => .inr ⟨o, s _ _ h⟩)) .inr
theorem ok_pieces {f : Addr} {fd : FuncData} (F : Fun K "_pieces" "_pieces" sPieces f fd) (B : Bn mg) : FnOk P w K mg base CX0 1 f fd ["body", "cuts", "counts"] (spPieces K) := by
  refine F.ok scPc (fun vs H Q E h => ?_) (fun cdv A outer s H vs Q E hr h => ?_)
  · obtain ⟨b, l, t, u, rfl, _⟩ := h
    rfl
  · obtain ⟨b, l, t, u, rfl, hT, hU, hl, k⟩ := h
    refine ⟨_, pss_cons (ps_set (i := 3) scPc.nd rfl (Or.inl rfl) pe_int)
      (pss_cons (ps_set (i := 4) scPc.nd rfl (Or.inl rfl) (pv 0))
      (pss_cons (ps_for PassesOwn.never rfl (RZ.pi_zipA (by rfl) B.zip (pa_cons (pv 1) (pa_cons (pv 2) pa_nil))) (pg_tup (by rfl) (pgs_cons (pg_name (i := 5) scPc.nd rfl (.inl rfl)) (pgs_cons (pg_name (i := 6) scPc.nd rfl (.inl rfl)) pgs_nil)))
        (pss_cons (ps_set (i := 3) scPc.nd rfl (Or.inl rfl) (pe_op op_add (pv 3) (pe_op op_mul (pe_op op_fdiv (pv 4) (pv 5)) (pv 6))))
        (pss_one (ps_set (i := 4) scPc.nd rfl (Or.inl rfl) (pe_op op_mod (pv 4) (pv 5))))))
      (pss_cons (ps_if (PW.pt (pw_or (pt_cmpR op_gt (pv 4) pe_int (nomark _)) (pw_or1 (pt_cmpR op_eq (pv 0) pe_int (nomark _))))) (pss_one (ps_set (i := 3) scPc.nd rfl (Or.inl rfl) (pe_op op_add (pv 3) pe_int))) pss_nil)
      (pss_one (ps_ret (pv 3)))))), ?_⟩
    refine ⟨_, rfl, _, rfl, _, rfl, t, u, _, _, rfl, .inr ⟨hT, hU, ?_⟩⟩
    refine RZ.for_zipT (by rw [ni_len, ni_len, N.cn_len]) (fun i σ G => Same H G ∧ ∃ (p r : Nat) (q1 q2 : Option V), σ = [some (.int (b : Int)), some (.ref t), some (.ref u), some (.int (p : Int)), some (.int (r : Int)), q1, q2] ∧ p + N.sm (l.drop i) r = N.sm l b ∧ N.rem (l.drop i) r = N.rem l b)
      ⟨Same.refl H, 0, b, _, _, rfl, by rw [List.drop_zero, Nat.zero_add], by rw [List.drop_zero]⟩ (fun i σ G z => ⟨sqT_same z.1 hT, sqT_same z.1 hU⟩) ?_ ?_
    · rintro i x y T σ G hx hy ⟨s1, p, r, q1, q2, rfl, e1, e2⟩ hT0
      obtain ⟨c, hc, rfl⟩ := ni_get hx
      obtain ⟨n, hn, rfl⟩ := ni_get hy
      obtain ⟨c2, hc2, en⟩ := N.cn_at hn
      rw [hc] at hc2
      cases hc2
      have pc := hl.at hc
      have nle := N.L_le (hl.drop (i + 1)).fall pc.1
      rw [← en] at nle
      refine ⟨T, _, rfl, SqT.of upd_same, rfl, _, _, rfl, _, _, rfl, rfl, ?_⟩
      refine ⟨_, rfl, _, rfl, _, rfl, _, _, rfl, rfl, ⟨by omega, by omega⟩, _, rfl, _, _, rfl, rfl, .inr ⟨by omega, by omega⟩, _, _, rfl, rfl, ?_⟩
      refine ⟨_, rfl, _, rfl, _, _, rfl, rfl, by show (0 : Int) < (c : Int); omega, ?_⟩
      refine ⟨s1.trans (of_upd hT0), p + r / c * n, r % c, _, _, rfl, ?_, ?_⟩
      · rw [drop_at hc] at e1
        rw [N.sm_cons, ← en] at e1
        omega
      · rw [drop_at hc, N.rem_cons] at e2
        exact e2
    · rintro σ G ⟨s1, p, r, q1, q2, rfl, e1, e2⟩
      rw [ni_len, List.drop_length] at e1 e2
      rw [N.sm_nil] at e1
      rw [N.rem_nil] at e2
      have fin : ∀ z : Nat, z = N.PC l b → Q (.int (z : Int)) G := fun z e => by rw [e]; exact k G s1
      refine ⟨_, rfl, _, _, rfl, rfl, _, rfl, ite2 (fun c => ?_) (fun c => ⟨_, rfl, rfl, _, rfl, ite2 (fun d => ?_) (fun d => ?_)⟩)⟩
      · refine ⟨_, rfl, _, _, rfl, rfl, _, rfl, fin (p + 1) ?_⟩
        have c2 : (0 : Int) < (r : Int) := of_decide_eq_true c
        rw [N.PC_sm, if_pos (.inl (by omega))]
        omega
      · refine ⟨_, rfl, _, _, rfl, rfl, _, rfl, fin (p + 1) ?_⟩
        have d2 : V.int (b : Int) = V.int 0 := of_decide_eq_true d
        injection d2 with d2
        rw [N.PC_sm, if_pos (.inr (by omega))]
        omega
      · refine ⟨_, rfl, fin p ?_⟩
        have c2 : ¬ (0 : Int) < (r : Int) := fun z => c (decide_eq_true z)
        have d2 : b ≠ 0 := fun z => d (decide_eq_true (by rw [z]; rfl))
        rw [N.PC_sm, if_neg (by omega)]
        omega
end
end CP

end
section
set_option autoImplicit false
set_option Elab.async false
set_option linter.all false
set_option maxRecDepth 100000
set_option maxHeartbeats 4000000
namespace CP
open PySem L2 G Y
section
variable {P : Program} {w : World} {K : PySem.W.Frag} {mg : Str → Option Value} {base : Heap} {C : Addr}
/-- _piece_counts -/
def spCounts (K : PySem.W.Frag) : Sp := fun vs H Q _ => ∃ (l : List Nat) (t : Addr), vs = [.ref t] ∧ SqT K H t (ni l) ∧ Cuts l ∧ ∀ u H', Same H H' → H' u = some (.tup (ni (N.cn l))) → Q (.ref u) H'
theorem scCn : FnScope ["cuts", "counts", "at"] ["cuts"] (defScope sCounts) := ⟨rfl, rfl, rfl, by decide +kernel, rfl, by decide +kernel, by decide +kernel⟩
theorem ok_counts {f : Addr} {fd : FuncData} (F : Fun K "_piece_counts" "_piece_counts" sCounts f fd) (B : Bn mg) (DP : Df P w K mg base 1 "_pieces" ["body", "cuts", "counts"] (spPieces K)) : FnOk P w K mg base CX0 2 f fd ["cuts"] (spCounts K) := by
  obtain ⟨fP, fdP, GP, gP, kP, bP⟩ := DP.ex
  refine F.ok scCn (fun vs H Q E h => ?_) (fun cdv A outer s H vs Q E hr h => ?_)
  · obtain ⟨l, t, rfl, _⟩ := h
    rfl
  · obtain ⟨l, t, rfl, hT, hl, k⟩ := h
    refine ⟨_, pss_cons (ps_set (i := 1) scCn.nd rfl (Or.inl rfl) (pe_tup pa_nil))
      (pss_cons (ps_for PassesOwn.never rfl (pi_range3 (by rfl) B.range (pa_cons (pe_op op_sub (pe_callB call_len_seq (by rfl) B.len PySem.boot_len (pa_cons (pv 0) pa_nil)) pe_int) (pa_cons (pe_un un_neg pe_int) (pa_cons (pe_un un_neg pe_int) pa_nil)))) (pg_name (i := 2) scCn.nd rfl (Or.inl rfl))
        (pss_one (ps_set (i := 1) scCn.nd rfl (Or.inl rfl) (pe_tup (pa_cons (pe_call GP hr rfl gP kP bP .nil pass0 (pa_cons (pe_ix ix_tup (pv 0) (pv 2) (fun _ _ => rfl)) (pa_cons (pe_slice sl_tup (pv 0) (po_some (pe_op op_add (pv 2) pe_int)) po_none) (pa_cons (pv 1) pa_nil)))) (StX.pa_star (pv 1) pa_nil))))))
      (pss_one (ps_ret (pv 1)))), ?_⟩
    have ln := hl.len
    refine ⟨line2.2.2.2, fun u0 h0 => ?_⟩
    have s0 : Same H (upd H u0 (.tup [])) := of_upd h0
    refine ⟨_, rfl, t, _, rfl, .inr (sqT_same s0 hT), _, _, rfl, rfl, 1, rfl, 1, rfl, _, _, _, _, rfl, RgC.neg (by rw [ni_len]; omega) (by rw [ni_len]; omega) (by decide) (by decide), ?_⟩
    rw [ni_len]
    refine for_rangeC (n := ((l.length : Int) - 1 - -1).toNat) (fun i σ G => Same H G ∧ ∃ u q, σ = [some (.ref t), some (.ref u), q] ∧ G u = some (.tup (ni (N.cn (l.drop (l.length - i))))))
      ⟨s0, u0, _, rfl, by rw [Nat.sub_zero, List.drop_length]; exact upd_same⟩ ?_ ?_
    · rintro i σ G hi ⟨s1, u, q, rfl, hu⟩
      have hi2 : i < l.length := by omega
      obtain ⟨c, hc⟩ : ∃ c, l[l.length - 1 - i]? = some c := ⟨_, List.getElem?_eq_getElem (by omega)⟩
      have pc := hl.at hc
      have ei : (l.length : Int) - 1 + (i : Int) * -1 = ((l.length - 1 - i : Nat) : Int) := by omega
      have e2 : l.length - 1 - i + 1 = l.length - i := by omega
      have e3 : l.length - (i + 1) = l.length - 1 - i := by omega
      dsimp only
      rw [ei]
      refine ⟨_, rfl, _, rfl, t, _, _, _, rfl, rfl, sqT_same s1 hT, atI_nat (ni_at hc), _, rfl, _, rfl, _, _, rfl, rfl, _, rfl, t, _, rfl, sqT_same s1 hT, ?_, fun a ha => ?_⟩
      · intro z
        have e4 : ((l.length - 1 - i : Nat) : Int) + 1 = ((l.length - i : Nat) : Int) := by omega
        rw [e4] at z
        exact six_pos (by omega) (by rw [ni_len]; omega) 0 z.1
      have e4 : cutV (ni l) (some (((l.length - 1 - i : Nat) : Int) + 1)) none = ni (l.drop (l.length - i)) := by
        rw [show ((l.length - 1 - i : Nat) : Int) + 1 = ((l.length - i : Nat) : Int) by omega, cut_from, ni_drop]
      rw [e4]
      have s2 : Same G (upd G a (.tup (ni (l.drop (l.length - i))))) := of_upd ha
      refine ⟨_, rfl, c, l.drop (l.length - i), a, u, rfl, SqT.of upd_same, SqT.of (s2 _ _ hu), hl.drop _, fun G2 s3 => ?_⟩
      have hu2 := s3 _ _ (s2 _ _ hu)
      refine ⟨_, rfl, u, _, rfl, .inl (SqT.of hu2), ?_, fun v hv => ?_⟩
      · rw [List.append_nil]
        show (ni (N.cn (l.drop (l.length - i)))).length + 1 ≤ sizeLine
        rw [ni_len, N.cn_len, List.length_drop]
        exact Nat.le_trans (show l.length - (l.length - i) + 1 ≤ 1001 by omega) (by decide)
      · refine ⟨(s1.trans s2).trans (s3.trans (of_upd hv)), v, _, rfl, ?_⟩
        rw [upd_same, e3, drop_at hc, e2, List.append_nil]
        have e5 : N.PC (l.drop (l.length - i)) c = N.L (l.drop (l.length - i)) c := if_neg (by omega)
        rw [e5]
        rfl
    · rintro σ G ⟨s1, u, q, rfl, hu⟩
      rw [show l.length - ((l.length : Int) - 1 - -1).toNat = 0 by omega, List.drop_zero] at hu
      exact ⟨_, rfl, k u G s1 hu⟩
/-- _are_cuts of cuts -/
def spAre : Sp := fun vs H Q _ => ∃ (l : List Nat) (t : Addr), vs = [.ref t] ∧ SAt H t (ni l) ∧ Cuts l ∧ ∀ H', Same H H' → Q (.bl true) H'
theorem scAre : FnScope ["value", "before", "cut"] ["value"] (defScope sAreCuts) := ⟨rfl, rfl, rfl, by decide +kernel, rfl, by decide +kernel, by decide +kernel⟩
theorem ok_are {f : Addr} {fd : FuncData} (F : Fun K "_are_cuts" "_are_cuts" sAreCuts f fd) (B : Bn mg) (gC : ∃ t, mg "GREATEST_CUT" = some (.int 1000 t)) (DW : Df P w K mg base 2 "is_within" ["value", "least", "greatest"] spWithin) : FnOk P w K mg base CX0 3 f fd ["value"] spAre := by
  obtain ⟨fW, fdW, GW, gW, kW, bW⟩ := DW.ex
  obtain ⟨tkC, gC⟩ := gC
  refine F.ok scAre (fun vs H Q E h => ?_) (fun cdv A outer s H vs Q E hr h => ?_)
  · obtain ⟨l, t, rfl, _⟩ := h
    rfl
  · obtain ⟨l, t, rfl, hT, hl, k⟩ := h
    refine ⟨_, pss_cons (ps_if (pt_not (pt_val (pe_callB call_isiT (by rfl) B.isi (by decide +kernel) (pa_cons (pv 0) (pa_cons (pe_tup (pa_cons (pe_bltn (v := .ty "list") (by rfl) B.list (by decide +kernel) rfl) (pa_cons (pe_bltn (v := .ty "tuple") (by rfl) B.tuple (by decide +kernel) rfl) pa_nil))) pa_nil))))) ps_dead pss_nil)
      (pss_cons (ps_set (i := 1) scAre.nd rfl (Or.inl rfl) (pe_op op_add (pe_glob (v := .int 1000) rfl gC ⟨_, rfl⟩) pe_int))
      (pss_cons (ps_for PassesOwn.never rfl (pi_or (pi_list (pv 0)) (pi_tup (pv 0))) (pg_name (i := 2) scAre.nd rfl (Or.inl rfl))
        (pss_cons (ps_if (pt_not (pt_val (pe_call GW hr rfl gW kW bW .nil pass0 (pa_cons (pv 2) (pa_cons pe_int (pa_cons (pe_op op_sub (pv 1) pe_int) pa_nil)))))) ps_dead pss_nil)
        (pss_one (ps_set (i := 1) scAre.nd rfl (Or.inl rfl) (pv 2)))))
      (pss_one (ps_ret pe_bl)))), ?_⟩
    refine ⟨_, rfl, line2.1, fun p hp => ?_⟩
    have sp : Same H (upd H p (.tup [.ty "list", .ty "tuple"])) := of_upd hp
    have hT2 := hT.mono sp
    have rest : (tSeq (tAsg (tOp (rI0 fun i j => .int (i + j)) (tC (.int 1000)) (tC (.int 1))) (gName 1)) (tSeq (tFor (fun σ H R => iList K (tVar 0) σ H R ∨ iTup K (tVar 0) σ H R) (gName 2) (tSeq (tIfS (tNot (tB (tCall spWithin [] E0 (tCons (tVar 2) (tCons (tC (.int 1)) (tCons (tOp (rI0 fun i j => .int (i - j)) (tVar 1) (tC (.int 1))) tNil)))))) tDead tNext) (tAsg (tVar 2) (gName 1)))) (tRet (tC (.bl true)))))
        { nx := fun _ H' => Q .non H', rt := Q } [some (.ref t), none, none] (upd H p (.tup [.ty "list", .ty "tuple"])) := by
      refine ⟨_, _, rfl, rfl, ?_⟩
      refine or_seq (fun Q2 h => ⟨_, rfl, h⟩) hT2 fun J Gd hG wk => ?_
      refine for_it wk (fun i σ G => Same H G ∧ Same (upd H p (.tup [.ty "list", .ty "tuple"])) G ∧ ∃ (b : Int) (q : Option V), σ = [some (.ref t), some (.int b), q] ∧ ∀ c ∈ l.drop i, (c : Int) < b)
        ⟨sp, Same.refl _, 1001, _, rfl, fun c hc => by have := hl.le c (List.mem_of_mem_drop hc); omega⟩ (fun i σ G _ z => hG G z.2.1) ?_ ?_
      · rintro i x σ G G' hi ⟨s1, s2, b, q, rfl, hb⟩ ⟨rfl, hx⟩
        obtain ⟨c, hc, rfl⟩ := ni_get hx
        have pc := hl.at hc
        have lt := hb c (by rw [drop_at hc]; exact List.mem_cons_self)
        have fl := (hl.drop i).fall
        rw [drop_at hc] at fl
        dsimp only
        refine ⟨_, rfl, _, rfl, _, _, rfl, rfl, (c : Int), 1, b - 1, rfl, ?_⟩
        rw [decide_eq_true (by omega)]
        exact ⟨_, rfl, iteF ⟨_, rfl, s1, s2, (c : Int), _, rfl, fun d hd => by have := fl.2.1 d hd; omega⟩⟩
      · rintro σ G ⟨s1, s2, b, q, rfl, hb⟩
        exact k G s1
    have kl : PySem.W.kitAny K (.type "list") [.type "list", .type "tuple"] = some true := by
      unfold PySem.W.kitAny
      rw [kit_ty (r := true) (by decide +kernel)]
    have kt : PySem.W.kitAny K (.type "tuple") [.type "list", .type "tuple"] = some true := by
      unfold PySem.W.kitAny
      rw [kit_ty (r := false) (by decide +kernel)]
      unfold PySem.W.kitAny
      rw [kit_ty (r := true) (by decide +kernel)]
    rcases hT2 with e | e
    · exact ⟨_, p, _, _, _, _, rfl, upd_same, .cons (.ty _) (.cons (.ty _) .nil), .base (.lst e), kl, _, rfl, iteF rest⟩
    · exact ⟨_, p, _, _, _, _, rfl, upd_same, .cons (.ty _) (.cons (.ty _) .nil), .base (.tup e), kt, _, rfl, iteF rest⟩
end
end CP

end
section
set_option autoImplicit false
set_option Elab.async false
set_option linter.all false
set_option maxRecDepth 100000
set_option maxHeartbeats 4000000
namespace CP
open PySem L2 G Y
theorem nk : ¬ (("cuts" : Str) = "_counts") := by decide +kernel
def cfl (t u : Addr) : List (Str × V) := putF "_counts" (.ref u) (putF "cuts" (.ref t) [])
theorem cfl_cuts (t u : Addr) : (cfl t u).lookup ("cuts" : Str) = some (.ref t) := by
  unfold cfl
  rw [lookup_putF, if_neg nk, lookup_putF, if_pos rfl]
theorem cfl_counts (t u : Addr) : (cfl t u).lookup ("_counts" : Str) = some (.ref u) := by
  unfold cfl
  rw [lookup_putF, if_pos rfl]
/-- a chain stands at a -/
def ChAt (C : Addr) (H : Hp) (l : List Nat) (a : Addr) : Prop := ∃ dx t u, H a = some (.ins C dx (cfl t u)) ∧ H t = some (.tup (ni l)) ∧ H u = some (.tup (ni (N.cn l)))
theorem ChAt.mono {C : Addr} {H H' : Hp} (s : Same H H') {l : List Nat} {a : Addr} (h : ChAt C H l a) : ChAt C H' l a := by
  obtain ⟨dx, t, u, h1, h2, h3⟩ := h
  exact ⟨dx, t, u, s _ _ h1, s _ _ h2, s _ _ h3⟩
structure Ct (K : PySem.W.Frag) (mg : Str → Option Value) (C : Addr) : Prop where
  g : mg "Chain" = some (.ref C)
  cl : Cls K C
  nC : NoAttr K C "cuts"
  nK : NoAttr K C "_counts"
section
variable {P : Program} {w : World} {K : PySem.W.Frag} {mg : Str → Option Value} {base : Heap} {C : Addr}
def spCInit (C : Addr) : Sp := fun vs H Q _ => ∃ (x l dx : Addr) (cs : List Nat) (H0 : Hp), vs = [.ref x, .ref l] ∧ H x = some (.ins C dx []) ∧ H0 x = none ∧ Same H0 H ∧ SAt H0 l (ni cs) ∧ Cuts cs ∧ ∀ H', Same H0 H' → ChAt C H' cs x → Q .non H'
theorem scCI : FnScope ["self", "cuts"] ["self", "cuts"] (defScope sCInit) := ⟨rfl, rfl, rfl, by decide +kernel, rfl, by decide +kernel, by decide +kernel⟩
theorem ok_cinit {f : Addr} {fd : FuncData} (F : Fun K "__init__" "Chain.__init__" sCInit f fd) (B : Bn mg) (T : Ct K mg C) (DA : Df P w K mg base 3 "_are_cuts" ["value"] spAre) (DC : Df P w K mg base 2 "_piece_counts" ["cuts"] (spCounts K)) : FnOk P w K mg base CX0 4 f fd ["self", "cuts"] (spCInit C) := by
  obtain ⟨fA, fdA, GA, gA, kA, bA⟩ := DA.ex
  obtain ⟨fC, fdC, GC, gC, kC, bC⟩ := DC.ex
  refine F.ok scCI (fun vs H Q E h => ?_) (fun cdv A outer s H vs Q E hr h => ?_)
  · obtain ⟨x, l, dx, cs, H0, rfl, _⟩ := h
    rfl
  · obtain ⟨x, l, dx, cs, H0, rfl, hx, hx0, s0, hl, hc, k⟩ := h
    refine ⟨_, pss_cons (ps_if (pt_not (pt_val (pe_call GA hr rfl gA kA bA .nil pass0 (pa_cons (pv 1) pa_nil)))) ps_dead pss_nil)
      (pss_cons (ps_fld (pv 0) (pe_callTy call_tuple_of (by rfl) B.tuple (by decide +kernel) (pa_cons (pv 1) pa_nil)) rfl)
      (pss_one (ps_fld (pv 0) (pe_call GC (hr.mono (by decide)) rfl gC kC bC .nil pass0 (pa_cons (pe_fld (pv 0) rfl) pa_nil)) rfl))), ?_⟩
    refine ⟨_, rfl, cs, l, rfl, hl.mono s0, hc, fun G1 s1 => ⟨_, rfl, iteF ?_⟩⟩
    have s01 := s0.trans s1
    have hx1 := s1 _ _ hx
    have fin : ∀ (t : Addr) (G2 : Hp), Same G1 G2 → G2 t = some (.tup (ni cs)) → sFld K (tVar 0) (tC (.ref t)) "cuts" { nx := fun σ H => sFld K (tVar 0) (tCall (spCounts K) [] E0 (tCons (tFld K (tVar 0) "cuts") tNil)) "_counts" { nx := fun _ H' => Q .non H', rt := Q } σ H, rt := Q } [some (.ref x), some (.ref l)] G2 := fun t G2 s2 ht => by
      have hx2 := s2 _ _ hx1
      have s02 := s01.trans s2
      have tx : t ≠ x := fun z => by
        rw [z, hx2] at ht
        cases ht
      refine ⟨_, rfl, x, C, dx, _, rfl, hx2, T.cl, T.nC, by decide, ?_⟩
      have s3 : Same H0 (upd G2 x (.ins C dx (putF "cuts" (.ref t) []))) := add_upd hx0 s02
      have ht3 : (upd G2 x (.ins C dx (putF "cuts" (.ref t) []))) t = some (.tup (ni cs)) := by rw [upd_ne tx]; exact ht
      refine ⟨_, rfl, x, C, dx, _, _, rfl, upd_same, T.cl, T.nC, by rw [lookup_putF, if_pos rfl], cs, t, rfl, SqT.of ht3, hc, fun u G3 s4 hu => ?_⟩
      refine ⟨_, rfl, x, C, dx, _, rfl, s4 _ _ upd_same, T.cl, T.nK, len_put (by decide), ?_⟩
      have ux : u ≠ x := fun z => by
        rw [z, s4 _ _ upd_same] at hu
        cases hu
      refine k _ (add_upd hx0 (s3.trans s4)) ⟨dx, t, u, upd_same, ?_, ?_⟩
      · rw [upd_ne tx]
        exact s4 _ _ ht3
      · rw [upd_ne ux]
        exact hu
    rcases (hl.mono s0).mono s1 with e | e
    · exact ⟨_, rfl, l, _, rfl, .inl ⟨SqL.of e, fun t nt => fin t _ (of_upd nt) upd_same⟩⟩
    · exact ⟨_, rfl, l, _, rfl, .inr ⟨SqT.of e, fin l _ (Same.refl _) e⟩⟩
/-- Chain(cuts) -/
theorem made_ch {H : Hp} {Z : VK} {E : XK} {l x dx : Addr} {cs : List Nat} (hx : H x = none) (hdx : H dx = none) (ne : dx ≠ x) (hl : SAt H l (ni cs)) (hc : Cuts cs) (k : ∀ H', Same H H' → ChAt C H' cs x → Z .non H') :
    spCInit C (.ref x :: ([.ref l] ++ [])) (upd (upd H dx (.own x)) x (.ins C dx [])) Z E :=
  ⟨x, l, dx, cs, H, rfl, upd_same, hx, (of_upd hdx).trans (of_upd (by rw [upd_ne ne.symm]; exact hx)), hl, hc, k⟩
/-- pieces -/
def spCPieces (C : Addr) : Sp := fun vs H Q _ => ∃ (a : Addr) (b : Nat) (cs : List Nat), vs = [.ref a, .int (b : Int)] ∧ ChAt C H cs a ∧ Cuts cs ∧ ∀ H', Same H H' → Q (.int ((N.PC cs b : Nat) : Int)) H'
theorem scCP : FnScope ["self", "body"] ["self", "body"] (defScope sCPieces) := ⟨rfl, rfl, rfl, by decide +kernel, rfl, by decide +kernel, by decide +kernel⟩
theorem ok_cpieces {f : Addr} {fd : FuncData} (F : Fun K "pieces" "Chain.pieces" sCPieces f fd) (T : Ct K mg C) (DP : Df P w K mg base 1 "_pieces" ["body", "cuts", "counts"] (spPieces K)) : FnOk P w K mg base CX0 2 f fd ["self", "body"] (spCPieces C) := by
  obtain ⟨fP, fdP, GP, gP, kP, bP⟩ := DP.ex
  refine F.ok scCP (fun vs H Q E h => ?_) (fun cdv A outer s H vs Q E hr h => ?_)
  · obtain ⟨a, b, cs, rfl, _⟩ := h
    rfl
  · obtain ⟨a, b, cs, rfl, ⟨dx, t, u, h1, h2, h3⟩, hc, k⟩ := h
    exact ⟨_, pss_one (ps_ret (pe_call GP hr rfl gP kP bP .nil pass0 (pa_cons (pv 1) (pa_cons (pe_fld (pv 0) rfl) (pa_cons (pe_fld (pv 0) rfl) pa_nil))))), _, rfl, _, rfl, a, C, dx, _, _, rfl, h1, T.cl, T.nC, cfl_cuts t u, _, rfl, a, C, dx, _, _, rfl, h1, T.cl, T.nK, cfl_counts t u, b, cs, t, u, rfl, SqT.of h2, SqT.of h3, hc, k⟩
/-- digits -/
def spCDigits (C : Addr) : Sp := fun vs H Q _ => ∃ (a : Addr) (p : Nat) (cs : List Nat), vs = [.ref a, .int (p : Int)] ∧ ChAt C H cs a ∧ Cuts cs ∧ ∀ t H', Same H H' → H' t = some (.tup (ni (N.dig cs p))) → Q (.ref t) H'
theorem scCD : FnScope ["self", "place", "told", "rest", "cut"] ["self", "place"] (defScope sCDigits) := ⟨rfl, rfl, rfl, by decide +kernel, rfl, by decide +kernel, by decide +kernel⟩
theorem ok_cdigits {f : Addr} {fd : FuncData} (F : Fun K "digits" "Chain.digits" sCDigits f fd) (T : Ct K mg C) : FnOk P w K mg base CX0 1 f fd ["self", "place"] (spCDigits C) := by
  refine F.ok scCD (fun vs H Q E h => ?_) (fun cdv A outer s H vs Q E hr h => ?_)
  · obtain ⟨a, p, cs, rfl, _⟩ := h
    rfl
  · obtain ⟨a, p, cs, rfl, ⟨dx, t, u, h1, h2, h3⟩, hc, k⟩ := h
    refine ⟨_, pss_cons (ps_set (i := 2) scCD.nd rfl (Or.inl rfl) (pe_lst pa_nil))
      (pss_cons (ps_set (i := 3) scCD.nd rfl (Or.inl rfl) (pv 1))
      (pss_cons (ps_for PassesOwn.never rfl (pi_tup (pe_fld (pv 0) rfl)) (pg_name (i := 4) scCD.nd rfl (Or.inl rfl))
        (pss_cons (ps_expr (pe_bm PySem.F.plainAttrs_list PySem.F.slot_list_append PySem.F.type_list_append mt_append (pv 2) (pa_cons (pe_op op_fdiv (pv 3) (pv 4)) pa_nil)))
        (pss_one (ps_set (i := 3) scCD.nd rfl (Or.inl rfl) (pe_op op_mod (pv 3) (pv 4))))))
      (pss_one (ps_ret (pe_tup (StX.pa_star (pv 2) (pa_cons (pv 3) pa_nil))))))), ?_⟩
    have ln := hc.len
    refine ⟨line2.2.2.2, fun D hD => ?_⟩
    have s0 : Same H (upd H D (.lst [])) := of_upd hD
    refine ⟨_, rfl, _, rfl, a, C, dx, _, _, rfl, s0 _ _ h1, T.cl, T.nC, cfl_cuts t u, ?_⟩
    refine ⟨t, rfl, ⟨_, SqT.of (s0 _ _ h2)⟩, for_it walk_tup (fun i σ G => Same H G ∧ ∃ (ds : List Nat) (r : Nat) (q : Option V), σ = [some (.ref a), some (.int (p : Int)), some (.ref D), some (.int (r : Int)), q] ∧ G D = some (.lst (ni ds)) ∧ ds.length = i ∧ ds ++ N.dig (cs.drop i) r = N.dig cs p)
      ⟨s0, [], p, _, rfl, upd_same, rfl, rfl⟩ (fun i σ G _ z => SqT.of (z.1 _ _ h2)) ?_ ?_⟩
    · rintro i x σ G G' hi ⟨s1, ds, r, q, rfl, hG, hd, ed⟩ ⟨rfl, hx⟩
      obtain ⟨c, hcc, rfl⟩ := ni_get hx
      have pc := hc.at hcc
      rw [ni_len] at hi
      dsimp only
      refine ⟨_, rfl, .inl ⟨rfl, _, SqL.of hG⟩, _, rfl, _, rfl, _, _, rfl, rfl, ⟨by omega, by omega⟩, D, _, _, rfl, rfl, hG, by rw [ni_len]; exact small1000 (by omega), ?_⟩
      refine ⟨_, rfl, _, rfl, _, _, rfl, rfl, by show (0 : Int) < (c : Int); omega, ?_⟩
      refine ⟨add_upd hD s1, ds ++ [r / c], r % c, _, rfl, ?_, by simp; exact hd, ?_⟩
      · rw [upd_same, ni_app]
        rfl
      · rw [drop_at hcc] at ed
        rw [List.append_assoc]
        exact ed
    · rintro σ G ⟨s1, ds, r, q, rfl, hG, hd, ed⟩
      rw [ni_len, List.drop_length] at ed
      refine ⟨_, rfl, D, _, rfl, .inr (SqL.of hG), _, rfl, ?_, fun v hv => ?_⟩
      · rw [ni_len] at hd
        rw [List.length_append, ni_len]
        exact Nat.le_trans (show ds.length + 1 ≤ 1001 by omega) (by decide)
      · refine k v _ (s1.trans (of_upd hv)) ?_
        rw [upd_same, ← ed, ni_app]
        rfl
/-- _boundary -/
def spCBound (C : Addr) : Sp := fun vs H Q _ => ∃ (a : Addr) (n : Nat) (cs : List Nat), vs = [.ref a, .int (n : Int)] ∧ ChAt C H cs a ∧ Cuts cs ∧ ∀ H', Same H H' → Q (.int ((N.B cs n : Nat) : Int)) H'
abbrev NBo : List Str := ["self", "number", "place", "rest", "cut", "count"]
theorem scCB : FnScope NBo ["self", "number"] (defScope sCBoundary) := ⟨rfl, rfl, rfl, by decide +kernel, rfl, by decide +kernel, by decide +kernel⟩
theorem ok_cbound {f : Addr} {fd : FuncData} (F : Fun K "_boundary" "Chain._boundary" sCBoundary f fd) (B : Bn mg) (T : Ct K mg C) : FnOk P w K mg base CX0 1 f fd ["self", "number"] (spCBound C) := by
  refine F.ok scCB (fun vs H Q E h => ?_) (fun cdv A outer s H vs Q E hr h => ?_)
  · obtain ⟨a, n, cs, rfl, _⟩ := h
    rfl
  · obtain ⟨a, n, cs, rfl, ⟨dx, t, u, h1, h2, h3⟩, hl, k⟩ := h
    refine ⟨_, pss_cons (ps_set (i := 2) scCB.nd rfl (Or.inl rfl) pe_int)
      (pss_cons (ps_set (i := 3) scCB.nd rfl (Or.inl rfl) (pv 1))
      (pss_cons (ps_for PassesOwn.never rfl (RZ.pi_zipA (by rfl) B.zip (pa_cons (pe_fld (pv 0) rfl) (pa_cons (pe_fld (pv 0) rfl) pa_nil))) (pg_tup (by rfl) (pgs_cons (pg_name (i := 4) scCB.nd rfl (.inl rfl)) (pgs_cons (pg_name (i := 5) scCB.nd rfl (.inl rfl)) pgs_nil)))
        (pss_cons (ps_set (i := 2) scCB.nd rfl (Or.inl rfl) (pe_op op_add (pv 2) (pe_op op_mul (pe_op op_fdiv (pv 3) (pv 5)) (pv 4))))
        (pss_one (ps_set (i := 3) scCB.nd rfl (Or.inl rfl) (pe_op op_mod (pv 3) (pv 5))))))
      (pss_one (ps_ret (pv 2))))), ?_⟩
    refine ⟨_, rfl, _, rfl, a, C, dx, _, _, rfl, h1, T.cl, T.nC, cfl_cuts t u, _, rfl, a, C, dx, _, _, rfl, h1, T.cl, T.nK, cfl_counts t u, t, u, _, _, rfl, .inr ⟨SqT.of h2, SqT.of h3, ?_⟩⟩
    refine RZ.for_zipT (by rw [ni_len, ni_len, N.cn_len]) (fun i σ G => Same H G ∧ ∃ (p r : Nat) (q1 q2 : Option V), σ = [some (.ref a), some (.int (n : Int)), some (.int (p : Int)), some (.int (r : Int)), q1, q2] ∧ p + N.B (cs.drop i) r = N.B cs n)
      ⟨Same.refl H, 0, n, _, _, rfl, by rw [List.drop_zero, Nat.zero_add]⟩ (fun i σ G z => ⟨SqT.of (z.1 _ _ h2), SqT.of (z.1 _ _ h3)⟩) ?_ ?_
    · rintro i x y Tt σ G hx hy ⟨s1, p, r, q1, q2, rfl, e1⟩ hT0
      obtain ⟨c, hc, rfl⟩ := ni_get hx
      obtain ⟨m, hn, rfl⟩ := ni_get hy
      obtain ⟨c2, hc2, en⟩ := N.cn_at hn
      rw [hc] at hc2
      cases hc2
      have pc := hl.at hc
      have nle := N.L_le (hl.drop (i + 1)).fall pc.1
      have npos := N.L_pos (cs.drop (i + 1)) (hl.drop (i + 1)).fall c pc.1
      rw [← en] at nle npos
      refine ⟨Tt, _, rfl, SqT.of upd_same, rfl, _, _, rfl, _, _, rfl, rfl, ?_⟩
      refine ⟨_, rfl, _, rfl, _, rfl, _, _, rfl, rfl, ⟨by omega, by omega⟩, _, rfl, _, _, rfl, rfl, .inr ⟨by omega, by omega⟩, _, _, rfl, rfl, ?_⟩
      refine ⟨_, rfl, _, rfl, _, _, rfl, rfl, by show (0 : Int) < (m : Int); omega, ?_⟩
      refine ⟨s1.trans (of_upd hT0), p + r / m * c, r % m, _, _, rfl, ?_⟩
      rw [drop_at hc, N.B_cons, ← en] at e1
      omega
    · rintro σ G ⟨s1, p, r, q1, q2, rfl, e1⟩
      rw [ni_len, List.drop_length] at e1
      have e2 : p = N.B cs n := e1
      rw [← e2] at k
      exact ⟨_, rfl, k G s1⟩
end
end CP

end
section
set_option autoImplicit false
set_option Elab.async false
set_option linter.all false
set_option maxRecDepth 100000
set_option maxHeartbeats 4000000
namespace CP
open PySem L2 G Y
theorem nk2 : (¬ (("pieces" : Str) = "cuts") ∧ ¬ (("pieces" : Str) = "_counts")) ∧ (¬ (("_boundary" : Str) = "cuts") ∧ ¬ (("_boundary" : Str) = "_counts")) ∧ (¬ (("digits" : Str) = "cuts") ∧ ¬ (("digits" : Str) = "_counts")) ∧ (¬ (("stretch" : Str) = "cuts") ∧ ¬ (("stretch" : Str) = "_counts")) := by decide +kernel
theorem no_fld {m : Str} (t u : Addr) (h : ¬ (m = "cuts") ∧ ¬ (m = "_counts")) : (cfl t u).lookup m = none := by
  unfold cfl
  rw [lookup_putF, if_neg h.2, lookup_putF, if_neg h.1]
  rfl
/-- a method, and what it promises -/
structure Me (P : Program) (w : World) (K : PySem.W.Frag) (mg : Str → Option Value) (base : Heap) (C : Addr) (k : Nat) (m : Str) (ps : List Str) (sp : Sp) : Prop where
  ex : ∃ (f : Addr) (fd : FuncData), FnOk P w K mg base CX0 k f fd ps sp ∧ Meth K C m f ∧ Binds K fd ps []
section
variable {P : Program} {w : World} {K : PySem.W.Frag} {mg : Str → Option Value} {base : Heap} {C : Addr}
theorem ChAt.ins {H : Hp} {l : List Nat} {a : Addr} (h : ChAt C H l a) {m : Str} (hm : ¬ (m = "cuts") ∧ ¬ (m = "_counts")) : ∃ dx fs, H a = some (.ins C dx fs) ∧ fs.lookup m = none := by
  obtain ⟨dx, t, u, h1, _, _⟩ := h
  exact ⟨dx, _, h1, no_fld t u hm⟩
def stretchZ (cs : List Nat) (b n : Nat) : Int := (if n = N.PC cs b then (b : Int) else ((N.B cs n : Nat) : Int)) - ((N.B cs (n - 1) : Nat) : Int)
def spCStretch (C : Addr) : Sp := fun vs H Q _ => ∃ (a : Addr) (b n : Nat) (cs : List Nat), vs = [.ref a, .int (b : Int), .int (n : Int)] ∧ ChAt C H cs a ∧ Cuts cs ∧ 1 ≤ n ∧ n ≤ N.PC cs b ∧ ∀ H', Same H H' → Q (.int (stretchZ cs b n)) H'
theorem scCS : FnScope ["self", "body", "number", "pieces", "end"] ["self", "body", "number"] (defScope sCStretch) := ⟨rfl, rfl, rfl, by decide +kernel, rfl, by decide +kernel, by decide +kernel⟩
theorem ok_cstretch {f : Addr} {fd : FuncData} (F : Fun K "stretch" "Chain.stretch" sCStretch f fd) (T : Ct K mg C) (DW : Df P w K mg base 2 "is_within" ["value", "least", "greatest"] spWithin) (MP : Me P w K mg base C 2 "pieces" ["self", "body"] (spCPieces C)) (MB : Me P w K mg base C 1 "_boundary" ["self", "number"] (spCBound C)) : FnOk P w K mg base CX0 3 f fd ["self", "body", "number"] (spCStretch C) := by
  obtain ⟨fW, fdW, GW, gW, kW, bW⟩ := DW.ex
  obtain ⟨fP, fdP, GP, mP, bP⟩ := MP.ex
  obtain ⟨fB, fdB, GB, mB, bB⟩ := MB.ex
  refine F.ok scCS (fun vs H Q E h => ?_) (fun cdv A outer s H vs Q E hr h => ?_)
  · obtain ⟨a, b, n, cs, rfl, _⟩ := h
    rfl
  · obtain ⟨a, b, n, cs, rfl, hc, hl, n1, n2, k⟩ := h
    have r1 := hr.mono (by decide : 1 ≤ 2)
    refine ⟨_, pss_cons (ps_set (i := 3) scCS.nd rfl (Or.inl rfl) (pe_meth (pv 0) T.cl mP GP hr bP .nil pass0 (pa_cons (pv 1) pa_nil)))
      (pss_cons (ps_if (pt_not (pt_val (pe_call GW hr rfl gW kW bW .nil pass0 (pa_cons (pv 2) (pa_cons pe_int (pa_cons (pv 3) pa_nil)))))) ps_dead pss_nil)
      (pss_cons (ps_set (i := 4) scCS.nd rfl (Or.inl rfl) (pe_ifExp (pt_cmpR op_eq (pv 2) (pv 3) (nomark _)) (pv 1) (pe_meth (pv 0) T.cl mB GB r1 bB .nil pass0 (pa_cons (pv 2) pa_nil))))
      (pss_one (ps_ret (pe_op op_sub (pv 4) (pe_meth (pv 0) T.cl mB GB r1 bB .nil pass0 (pa_cons (pe_op op_sub (pv 2) pe_int) pa_nil))))))), ?_⟩
    obtain ⟨dx, fs, i1, i2⟩ := hc.ins nk2.1
    refine ⟨_, rfl, a, dx, fs, rfl, i1, i2, _, rfl, a, b, cs, rfl, hc, hl, fun G1 s1 => ?_⟩
    refine ⟨_, rfl, _, rfl, (n : Int), 1, ((N.PC cs b : Nat) : Int), rfl, ?_⟩
    rw [decide_eq_true (by omega)]
    refine ⟨_, rfl, iteF ?_⟩
    have hc1 := hc.mono s1
    have last : ∀ (G2 : Hp) (e : Int), Same G1 G2 → e = (if n = N.PC cs b then (b : Int) else ((N.B cs n : Nat) : Int)) → tRet (tOp (rI0 fun i j => .int (i - j)) (tVar 4) (tMeth C "_boundary" (spCBound C) [] E0 (tVar 0) (tCons (tOp (rI0 fun i j => .int (i - j)) (tVar 2) (tC (.int 1))) tNil))) { nx := fun _ H' => Q .non H', rt := Q } [some (.ref a), some (.int (b : Int)), some (.int (n : Int)), some (.int ((N.PC cs b : Nat) : Int)), some (.int e)] G2 := fun G2 e s2 he => by
      have hc2 := hc1.mono s2
      obtain ⟨dx, fs, i1, i2⟩ := hc2.ins nk2.2.1
      refine ⟨_, rfl, _, rfl, a, dx, fs, rfl, i1, i2, _, rfl, _, _, rfl, rfl, a, n - 1, cs, ?_, hc2, hl, fun G3 s3 => ⟨_, _, rfl, rfl, ?_⟩⟩
      · show [V.ref a, V.int ((n : Int) - 1)] = _
        rw [show (n : Int) - 1 = ((n - 1 : Nat) : Int) by omega]
      · have := k G3 ((s1.trans s2).trans s3)
        unfold stretchZ at this
        rw [← he] at this
        exact this
    refine ⟨_, rfl, _, rfl, rfl, _, rfl, ite2 (fun e => ?_) (fun e => ?_)⟩
    · have e2 : V.int (n : Int) = V.int ((N.PC cs b : Nat) : Int) := of_decide_eq_true e
      injection e2 with e2
      exact ⟨_, rfl, last G1 _ (Same.refl _) (by rw [if_pos (by omega)])⟩
    · have e2 : n ≠ N.PC cs b := fun z => e (decide_eq_true (by rw [← z]))
      obtain ⟨dx, fs, i1, i2⟩ := hc1.ins nk2.2.1
      exact ⟨_, rfl, a, dx, fs, rfl, i1, i2, _, rfl, a, n, cs, rfl, hc1, hl, fun G2 s2 => last G2 _ s2 (by rw [if_neg e2])⟩
/-- place in chain -/
def spCHas (C : Addr) : Sp := fun vs H Q _ => ∃ (a : Addr) (p : Nat) (cs : List Nat), vs = [.ref a, .int (p : Int)] ∧ ChAt C H cs a ∧ Cuts cs ∧ ∀ H', Same H H' → Q (.bl (decide (0 < p ∧ N.rem cs p = 0))) H'
theorem scCHs : FnScope ["self", "place"] ["self", "place"] (defScope sCHas) := ⟨rfl, rfl, rfl, by decide +kernel, rfl, by decide +kernel, by decide +kernel⟩
theorem ok_chas {f : Addr} {fd : FuncData} (F : Fun K "__contains__" "Chain.__contains__" sCHas f fd) (T : Ct K mg C) (DI : Df P w K mg base 1 "is_integer" ["value"] spInteger) (MD : Me P w K mg base C 1 "digits" ["self", "place"] (spCDigits C)) : FnOk P w K mg base CX0 2 f fd ["self", "place"] (spCHas C) := by
  obtain ⟨fI, fdI, GI, gI, kI, bI⟩ := DI.ex
  obtain ⟨fD, fdD, GD, mD, bD⟩ := MD.ex
  refine F.ok scCHs (fun vs H Q E h => ?_) (fun cdv A outer s H vs Q E hr h => ?_)
  · obtain ⟨a, p, cs, rfl, _⟩ := h
    rfl
  · obtain ⟨a, p, cs, rfl, hc, hl, k⟩ := h
    refine ⟨_, pss_one (ps_ret (pe_and (pe_call GI hr rfl gI kI bI .nil pass0 (pa_cons (pv 1) pa_nil)) (pe_and (pe_cmpR op_gt (pv 1) pe_int (nomark _)) (pe_one (pe_cmpR op_eq (pe_ix ix_tup (pe_meth (pv 0) T.cl mD GD hr bD .nil pass0 (pa_cons (pv 1) pa_nil)) (pe_un un_neg pe_int) (fun _ _ => rfl)) pe_int (nomark _)))))), ?_⟩
    refine ⟨_, rfl, (p : Int), rfl, _, rfl, iteT ⟨_, rfl, _, _, rfl, rfl, _, rfl, ite2 (fun c => ?_) (fun c => ?_)⟩⟩
    · have c2 : (0 : Int) < (p : Int) := of_decide_eq_true c
      obtain ⟨dx, fs, i1, i2⟩ := hc.ins nk2.2.2.1
      refine ⟨_, rfl, a, dx, fs, rfl, i1, i2, _, rfl, a, p, cs, rfl, hc, hl, fun t G s1 ht => ?_⟩
      obtain ⟨ds, ed⟩ := N.dig_rem cs p
      rw [ed] at ht
      refine ⟨1, rfl, t, _, _, .int ((N.rem cs p : Nat) : Int), rfl, rfl, SqT.of ht, ?_, rfl, ?_⟩
      · rw [ni_app]
        exact atI_last _ _
      · have e : decide (V.int ((N.rem cs p : Nat) : Int) = V.int 0) = decide (0 < p ∧ N.rem cs p = 0) := by
          by_cases z : N.rem cs p = 0
          · rw [decide_eq_true (by rw [z]; rfl), decide_eq_true ⟨by omega, z⟩]
          · rw [decide_eq_false (fun q => by injection q with q; omega), decide_eq_false fun q => z q.2]
        rw [e]
        exact k G s1
    · have c2 : ¬ (0 : Int) < (p : Int) := fun z => c (decide_eq_true z)
      have := k H (Same.refl H)
      rw [decide_eq_false (by omega)] at this
      exact this
/-- chain[number] -/
def spCGet (C : Addr) : Sp := fun vs H Q _ => ∃ (a : Addr) (n : Nat) (cs : List Nat), vs = [.ref a, .int (n : Int)] ∧ ChAt C H cs a ∧ Cuts cs ∧ 1 ≤ n ∧ cs ≠ [] ∧ ∀ H', Same H H' → Q (.int ((N.B cs n : Nat) : Int)) H'
theorem scCG : FnScope ["self", "at"] ["self", "at"] (defScope sCGet) := ⟨rfl, rfl, rfl, by decide +kernel, rfl, by decide +kernel, by decide +kernel⟩
theorem ok_cget {f : Addr} {fd : FuncData} (F : Fun K "__getitem__" "Chain.__getitem__" sCGet f fd) (B : Bn mg) (T : Ct K mg C) (DI : Df P w K mg base 1 "is_integer" ["value"] spInteger) (MB : Me P w K mg base C 1 "_boundary" ["self", "number"] (spCBound C)) : FnOk P w K mg base CX0 2 f fd ["self", "at"] (spCGet C) := by
  obtain ⟨fI, fdI, GI, gI, kI, bI⟩ := DI.ex
  obtain ⟨fB, fdB, GB, mB, bB⟩ := MB.ex
  refine F.ok scCG (fun vs H Q E h => ?_) (fun cdv A outer s H vs Q E hr h => ?_)
  · obtain ⟨a, n, cs, rfl, _⟩ := h
    rfl
  · obtain ⟨a, n, cs, rfl, hc, hl, n1, ne, k⟩ := h
    refine ⟨_, pss_cons (ps_if (PW.pt (pw_or (pt_not (pt_val (pe_call GI hr rfl gI kI bI .nil pass0 (pa_cons (pv 1) pa_nil)))) (pw_or (pt_cmpR op_lt (pv 1) pe_int (nomark _)) (pw_or1 (pt_cmpR op_eq (pe_callB call_len_seq (by rfl) B.len PySem.boot_len (pa_cons (pe_fld (pv 0) rfl) pa_nil)) pe_int (nomark _)))))) ps_dead pss_nil)
      (pss_one (ps_ret (pe_meth (pv 0) T.cl mB GB hr bB .nil pass0 (pa_cons (pv 1) pa_nil)))), ?_⟩
    obtain ⟨dx, t, u, h1, h2, h3⟩ := id hc
    refine ⟨_, rfl, (n : Int), rfl, _, rfl, iteF ⟨_, rfl, _, _, rfl, rfl, _, rfl, ?_⟩⟩
    rw [decide_eq_false (by omega)]
    refine iteF ⟨_, rfl, a, C, dx, _, _, rfl, h1, T.cl, T.nC, cfl_cuts t u, t, _, rfl, .inr (SqT.of h2), rfl, _, rfl, ?_⟩
    rw [decide_eq_false (fun z => by
      injection z with z
      rw [ni_len] at z
      exact ne (List.length_eq_zero_iff.mp (by omega)))]
    obtain ⟨dx, fs, i1, i2⟩ := hc.ins nk2.2.1
    exact iteF ⟨_, rfl, a, dx, fs, rfl, i1, i2, _, rfl, a, n, cs, rfl, hc, hl, k⟩
end
end CP

end
section
set_option autoImplicit false
set_option Elab.async false
set_option linter.all false
set_option maxRecDepth 100000
set_option maxHeartbeats 4000000
/-! ## for in a generator's body -/
namespace GF
open PySem PySem.Spec PyProof.Rows L2 GenW
section
variable {M : Model} {c : Code} {fs : List Frame} {A : Around} {R : GenEnd} {Y : Protocol} {n : Nat} {s₀ s : Shared} {env : Env}
variable {K : Flow → Sem PySem.Fin} {J : Value → Sem PySem.Fin} {lv : List Value → List Value} {gd : Bool → Bool}
theorem seg_For {tg iter : Expr} {body : List Stmt} {pos : Pos}
    (h : wpAny M (A.over c fs) (eval iter env) (fun x s1 => wpAny M (A.over c fs) (pyIter x) (fun it s2 => ∀ p, Seg M A R Y n s₀ (.forLoop tg it body [] env) (M.den (.forLoop tg it body [] env))
      (.ret (fun r => ((match r with | .ok f => (.pure f : Sem Flow) | .error e => .raise e).onRaise (cameBack env)).wrap K J gd lv) none (gd false) (lv []) c p [] :: fs) s2)
      (fun x s' => Seg M A R Y n s₀ c (J x) fs s') s1) (fun x s' => Seg M A R Y n s₀ c (J x) fs s') s)
    (hs : ∀ x, foldedSetIterable iter env x = pure x) : Seg M A R Y n s₀ c ((exec (.For tg iter body [] pos) env).wrap K J gd lv) fs s := by
  rw [exec_For]
  refine seg_bind_wrap (wpAny_standAt (seg_bind_wrap (wpAny_mono h (fun x s1 h1 => ?_) fun _ _ x => x)))
  refine seg_bind_wrap (wpAny_of_eq (hs x) (seg_bind_wrap (wpAny_standAt ?_)))
  refine seg_bind_wrap (wpAny_holding (wpAny_mono h1 (fun it s2 h2 => ?_) fun _ _ x => x))
  exact seg_call h2
end
section
variable {prog : Program} {w : World} {fs : List Frame} {A : Around} {R : GenEnd} {Y : Protocol} {n : Nat} {s₀ s : Shared} {env : Env}
theorem seg_forLoop {tg : Expr} {it : Value} {body : List Stmt} {EE : Value → Shared → Prop}
    (hE : ∀ x s', EE x s' → Seg (model prog w) A R Y n s₀ (.forLoop tg it body [] env) ((do noteFrame x env; theTreesLotGoes x : Sem Unit).wrap (fun _ => .raise x) .raise id id) fs s')
    (h : wpAny (model prog w) (A.over (.forLoop tg it body [] env) fs) (pyNext it) (fun r s' => match r with
      | none => Seg (model prog w) A R Y n s₀ (.forLoop tg it body [] env) (.pure (.again (.block [] env))) fs s'
      | some v => wpAny (model prog w) (A.over (.forLoop tg it body [] env) fs) (letOwnedTupleGo tg it v) (fun _ s1 => wpAny (model prog w) (A.over (.forLoop tg it body [] env) fs) (assign tg env v) (fun _ s2 =>
          Seg (model prog w) A R Y n s₀ (.forLoop tg it body [] env) ((execs body env).wrap (fun f => match f with
            | .next | .cont => .pure (.again (.forLoop tg it body [] env))
            | .brk => .pure (.done .next)
            | .ret v => .pure (.done (.ret v))) (fun e => (do noteFrame e env; theTreesLotGoes e : Sem Unit).wrap (fun _ => .raise e) .raise id id) id id) fs s2) EE s1) EE s') EE s) :
    Seg (model prog w) A R Y n s₀ (.forLoop tg it body [] env) ((model prog w).den (.forLoop tg it body [] env)) fs s := by
  have hE2 : ∀ x s', EE x s' → Seg (model prog w) A R Y n s₀ (.forLoop tg it body [] env) ((do noteFrame x env; theTreesLotGoes x : Sem Unit).bind (fun _ => .raise x)) fs s' := fun x s' hx => by
    rw [Sem.bind_eq_wrap]
    exact hE x s' hx
  show Seg _ A R Y n s₀ _ ((forTurn tg it body [] env).onRaise (fun x => do noteFrame x env; theTreesLotGoes x)) fs s
  unfold forTurn
  rw [Sem.onRaise_eq_wrap]
  refine seg_bind_wrap (wpAny_standAt (?_)); refine seg_bind_wrap (wpAny_onRaise (wpAny_mono h (fun r s1 h1 => ?_) fun x s' hx => wpAny_standAt (hE2 x s' hx)))
  cases r with
  | none => exact h1
  | some v =>
    refine seg_bind_wrap (wpAny_mono h1 (fun _ s1' h1' => ?_) fun x s' hx => hE2 x s' hx)
    refine seg_bind_wrap (wpAny_mono h1' (fun _ s2 h2 => ?_) fun x s' hx => hE2 x s' hx)
    rw [Sem.bind_eq_wrap', Sem.wrap_wrap]
    rw [Sem.wrap_congr (execs body env) _ _ (K' := fun fl => match fl with
      | .next | .cont => .pure (.again (.forLoop tg it body [] env))
      | .brk => .pure (.done .next)
      | .ret x => .pure (.done (.ret x)))
      (H' := fun x => (do noteFrame x env; theTreesLotGoes x : Sem Unit).wrap (fun _ => .raise x) .raise id id) (fun fl => by cases fl <;> rfl)
      (fun x => by first | exact Sem.bind_eq_wrap _ _ | (show (do noteFrame x env; theTreesLotGoes x : Sem Unit).bind (fun _ => .raise x) = _; rw [Sem.bind_eq_wrap]))]
    exact h2
end
section
variable {X : Cx}
def tGFor (wi : TI) (g : TG) (tb : TGn) : TGn := fun D ys σ H => wi σ H fun J H1 => ∃ W : Nat → Nat → List V → L2.St → Hp → Prop, (∃ m, W 0 m ys σ H1) ∧ ∀ i m ys σ H, W i m ys σ H →
  (J.stop i H ∧ D.nx ys σ H) ∨ (J.go i H ∧ ∃ N : List V → L2.St → Hp → Prop, (∀ ys' σ' H', N ys' σ' H' → ∃ m', m' < m ∧ W (i + 1) m' ys' σ' H') ∧ ∀ x H', J.yld i H x H' → g x σ H' fun σ2 H2 => tb { D with nx := N, ct := N, bk := D.nx } ys σ2 H2)
theorem gs_for {tg iter : Expr} {body : List Stmt} {wi : TI} {gg : TG} {tb : TGn} {pos : Pos} (hp : PassesOwn (model X.prog X.w) X.A X.env X.xe) (hc : X.calm = true) (hi : PI X tg iter wi) (hg : PG X tg gg) (hb : GSs X body tb)
    (hs : ∀ x, foldedSetIterable iter X.env x = pure x := by intro _; rfl) : GS X (.For tg iter body [] pos) (tGFor wi gg tb) := by
  refine ⟨fun A S ip R n ys s₀ c fs K J gd lv s σ H D g hn k I0 ht => ?_⟩
  have hI := I0
  obtain ⟨acc, cc, r, I⟩ := hI
  refine seg_For ?_ hs
  rw [g.over]
  refine wpAny_mono (hi.run _ s σ H _ I ht) (fun v s1 h1 => wpAny_mono h1 (fun itv s2 h2 p => ?_) fun x s' hx => k.exc n s₀ x s' hx) fun x s' hx => k.exc n s₀ x s' hx
  obtain ⟨it, fp, tn, Jt, H2, e, I2, T, st2, f2, W, ⟨m0, w0⟩, turn⟩ := h2
  subst e
  have gl := fun (kk : Result → Sem PySem.Fin) => gc_loop (k := kk) (c' := .forLoop tg (.ref it) body [] X.env) (l := lv []) (kp := []) (p := p) g rfl rfl
  have stat : ∀ {H' : Hp} {a2 : Array Value} {c2 : Nat}, (∀ b ∈ fp, H' b = none) → ∀ b ∈ fp, FpOk X ((S, lstObj a2 c2) :: ip) H' b := fun {H' a2 c2} hn b hb => by
    obtain ⟨_, q1, q2, q3, q4, q5⟩ := f2 b hb
    refine ⟨hn b hb, q1, q2, q3, q4, fun p hp => ?_⟩
    rcases List.mem_append.mp hp with z | z
    · exact q5 p (List.mem_append_left _ z)
    · rcases List.mem_cons.mp z with z | z
      · rw [z]
        exact q5 (S, lstObj acc cc) (List.mem_append_right _ List.mem_cons_self)
      · exact q5 p (List.mem_append_right _ (List.mem_cons_of_mem _ z))
  have neS : ∀ b ∈ fp, b ≠ S := fun b hb z => by
    obtain ⟨_, _, _, _, _, q5⟩ := f2 b hb
    exact q5 (S, lstObj acc cc) (List.mem_append_right _ List.mem_cons_self) z.symm
  have loop : ∀ (m i n : Nat) (ys : List V) (s₀ s : Shared) (σ : L2.St) (H : Hp), n + ys.length = sizeLine → W i m ys σ H → GI X S ip ys σ H s → tn i s.heap → (∀ b ∈ fp, H b = none) →
      Seg (model X.prog X.w) A R (GY X S) n s₀ (.forLoop tg (.ref it) body [] X.env) ((model X.prog X.w).den (.forLoop tg (.ref it) body [] X.env))
        (.ret (fun rr => ((match rr with | .ok fl => (.pure fl : Sem Flow) | .error x => .raise x).onRaise (cameBack X.env)).wrap K J gd lv) none (gd false) (lv []) c p [] :: fs) s := by
    intro m
    induction m using Nat.strongRecOn with
    | ind m ih =>
      intro i n ys s₀ s σ H hn w hI st fr
      have ee : ∀ (n : Nat) (s₀ : Shared) (x : Value) (s' : Shared), X.xe x s' → Seg (model X.prog X.w) A R (GY X S) n s₀ (.forLoop tg (.ref it) body [] X.env)
          ((do noteFrame x X.env; theTreesLotGoes x : Sem Unit).wrap (fun _ => .raise x) .raise id id) (.ret (fun rr => ((match rr with | .ok fl => (.pure fl : Sem Flow) | .error x => .raise x).onRaise (cameBack X.env)).wrap K J gd lv) none (gd false) (lv []) c p [] :: fs) s' := fun n s₀ x s' hx => by
        refine seg_wrap ?_
        rw [(gl _).over]
        exact wpAny_bind (wpAny_mono (hp x s' hx) (fun _ _ cb => wpAny_theTreesLotGoes (seg_leaf (.error x) (seg_cameBack g k cb))) fun y _ cb => seg_leaf (.error y) (seg_cameBack g k cb))
      refine seg_forLoop (EE := X.xe) (ee n s₀) ?_
      rw [(gl _).over]
      obtain ⟨acc, cc, r, I⟩ := hI
      rcases turn i m ys σ H w with ⟨stop, qn⟩ | ⟨go, N, hN, step⟩
      · refine wpAny_mono (T.done X rfl rfl rfl hc i _ s σ H X.xe I (stat fr) st stop) (fun r4 s4 h4 => ?_) fun _ _ x => x
        obtain ⟨hr4, I4⟩ := h4
        subst hr4
        refine seg_again rfl ?_
        exact seg_leaf (.ok .next) (k.ok n ys s₀ s4 .next hn ⟨σ, H, ⟨acc, cc, r, I4⟩, qn⟩)
      · refine wpAny_mono (T.item X rfl rfl rfl hc i _ s σ H X.xe I (stat fr) st go) (fun r4 s4 h4 => ?_) fun _ _ x => x
        obtain ⟨u, hr4, h4⟩ := h4
        subst hr4
        refine wpAny_mono h4 (fun _ s5 h5 => ?_) fun _ _ x => x
        obtain ⟨x, H5, I5, r5, y5, st5, fr5⟩ := h5
        have J5 := I5.pinned (stat fr5) (T.obj _ _ st5)
        refine wpAny_mono (hg.run _ s5 σ H5 x u _ J5 r5 (step x H5 y5)) (fun _ s6 h6 => ?_) fun _ _ x => x
        obtain ⟨σ6, H6, I6, q6⟩ := h6
        have gl2 : ∀ kk : Result → Sem PySem.Fin, GC X S (ip ++ pinsAt fp s5.heap) A (.forLoop tg (.ref it) body [] X.env) (.ret kk none (gd false) (lv []) c p [] :: fs) id := fun kk => { gl kk with
          ip := fun p hp => by
            rcases List.mem_append.mp hp with z | z
            · exact g.ip p z
            · exact neS p.1 (of_pinsAt z).1 }
        have back : ∀ {ys7 : List V} {σ7 : L2.St} {H7 : Hp} {s7 : Shared}, GI X S (ip ++ pinsAt fp s5.heap) ys7 σ7 H7 s7 → GI X S ip ys7 σ7 H7 s7 ∧ tn (i + 1) s7.heap ∧ ∀ b ∈ fp, H7 b = none := fun {ys7 σ7 H7 s7} h7 => by
          obtain ⟨acc7, cc7, r7, I7⟩ := h7
          have I7' : Inv X (((S, lstObj acc7 cc7) :: ip) ++ pinsAt fp s5.heap) σ7 H7 s7 := I7
          refine ⟨⟨acc7, cc7, r7, I7'.unpinned⟩, T.keep _ _ _ st5 fun b hb o e => (I7'.pin (b, o) (List.mem_append_right _ (List.mem_append_right _ (mem_pinsAt hb e)))).1, fun b hb => ?_⟩
          obtain ⟨o, e, dd⟩ := T.obj _ _ st5 b hb
          exact (I7'.pin (b, o) (List.mem_append_right _ (List.mem_append_right _ (mem_pinsAt hb e)))).2.1
        refine hb.run A S (ip ++ pinsAt fp s5.heap) R n ys s₀ _ _ _ _ id id s6 σ6 H6 { D with nx := N, ct := N, bk := D.nx } (gl2 _) hn ⟨fun n' ys' s₀' s7 f hn' hs => ?_, fun n' s₀' x s3 hx => ee n' s₀' x s3 hx⟩ ⟨acc, cc, r, I6⟩ q6
        cases f with
        | next =>
          obtain ⟨σ7, H7, I7, n7⟩ := hs
          obtain ⟨m', hm, w7⟩ := hN ys' σ7 H7 n7
          obtain ⟨b1, b2, b3⟩ := back I7
          exact seg_again rfl (ih m' hm (i + 1) n' ys' s₀' s7 σ7 H7 hn' w7 b1 b2 b3)
        | cont =>
          obtain ⟨σ7, H7, I7, n7⟩ := hs
          obtain ⟨m', hm, w7⟩ := hN ys' σ7 H7 n7
          obtain ⟨b1, b2, b3⟩ := back I7
          exact seg_again rfl (ih m' hm (i + 1) n' ys' s₀' s7 σ7 H7 hn' w7 b1 b2 b3)
        | brk =>
          obtain ⟨σ7, H7, I7, q7⟩ := hs
          exact seg_leaf (.ok .next) (k.ok n' ys' s₀' s7 .next hn' ⟨σ7, H7, (back I7).1, q7⟩)
        | ret v =>
          obtain ⟨x7, σ7, H7, I7, r7, q7⟩ := hs
          exact seg_leaf (.ok (.ret v)) (k.ok n' ys' s₀' s7 (.ret v) hn' ⟨x7, σ7, H7, (back I7).1, r7, q7⟩)
  exact loop m0 0 n ys s₀ s2 σ H2 hn w0 ⟨acc, cc, r, I2⟩ st2 fun b hb => (f2 b hb).1
end
end GF

end
section
set_option autoImplicit false
set_option Elab.async false
set_option linter.all false
set_option maxRecDepth 100000
set_option maxHeartbeats 4000000
namespace CP
open PySem L2 G Y
abbrev sCPart : Stmt := inClass (S.top 20) 9
def dI (n : Nat) : PyData := .int ((n : Nat) : Int)
theorem dp_ints {K : PySem.W.Frag} {H : Hp} : ∀ l : List Nat, DpAll K H (ni l) (l.map dI)
  | [] => .nil
  | x :: l => .cons (.int _) (dp_ints l)
theorem lay_ints : ∀ l : List Nat, PyData.canLayAll0 (l.map dI) = true
  | [] => rfl
  | x :: l => lay_ints l
theorem deep_ints : ∀ l : List Nat, PyData.depthAll (l.map dI) = 0
  | [] => by simp only [List.map_nil, PyData.depthAll]
  | x :: l => by simp only [List.map_cons, PyData.depthAll, dI, PyData.depth, deep_ints l, Nat.max_self]
theorem shp_list (l : List Nat) : SeqAt.shaped (.list (l.map dI)) = true := by
  unfold SeqAt.shaped
  rw [show (PyData.list (l.map dI)).canLay0 = true by simp only [PyData.canLay0, lay_ints], Bool.true_and]
  refine decide_eq_true ?_
  simp only [PyData.depth, deep_ints]
  decide
theorem shp_tup (l : List Nat) : SeqAt.shaped (.tuple (l.map dI)) = true := by
  unfold SeqAt.shaped
  rw [show (PyData.tuple (l.map dI)).canLay0 = true by simp only [PyData.canLay0, lay_ints], Bool.true_and]
  refine decide_eq_true ?_
  simp only [PyData.depth, deep_ints]
  decide
theorem eqv_nil : ∀ l : List Nat, PyData.eqv (.list (l.map dI)) (.list []) = decide (l = [])
  | [] => by simp [PyData.eqv, PyData.eqvAll]
  | x :: l => by simp [PyData.eqv, PyData.eqvAll]
theorem eqv_tup (l : List Nat) : PyData.eqv (.tuple (l.map dI)) (.tuple (l.map dI)) = true := SeqAt.eqv_refl _ (by simp only [PyData.canLay0, lay_ints])
/-- a list beside a new empty one -/
theorem eq_nil {K : PySem.W.Frag} {H : Hp} {Q : VK} {D e : Addr} {l : List Nat} (hD : SqL K H D (ni l)) (he : SqL K H e []) (q : Q (.bl (decide (l = []))) H) : rEqD K (.ref D) (.ref e) H Q :=
  ⟨_, _, .lst hD (dp_ints l), .lst he .nil, shp_list l, by decide +kernel, by rw [eqv_nil]; exact q⟩
theorem ne_nil {K : PySem.W.Frag} {H : Hp} {Q : VK} {D e : Addr} {l : List Nat} (hD : SqL K H D (ni l)) (he : SqL K H e []) (q : Q (.bl (!decide (l = []))) H) : rNeD K (.ref D) (.ref e) H Q :=
  ⟨_, _, .lst hD (dp_ints l), .lst he .nil, shp_list l, by decide +kernel, by rw [eqv_nil]; exact q⟩
theorem ne_tups {K : PySem.W.Frag} {H : Hp} {Q : VK} {t u : Addr} {l : List Nat} (ht : SqT K H t (ni l)) (hu : SqT K H u (ni l)) (q : Q (.bl false) H) : rNeD K (.ref t) (.ref u) H Q :=
  ⟨_, _, .tup ht (dp_ints l), .tup hu (dp_ints l), shp_tup l, shp_tup l, by rw [eqv_tup]; exact q⟩
structure Mw (P : Program) (w : World) (K : PySem.W.Frag) (mg : Str → Option Value) (base : Heap) (C : Addr) : Prop where
  ex : ∃ (f : Addr) (fd : FuncData), FnOk P w K mg base CX0 4 f fd ["self", "cuts"] (spCInit C) ∧ Mk K C f ∧ Binds K fd ["self", "cuts"] []
structure Op (P : Program) (w : World) (K : PySem.W.Frag) (mg : Str → Option Value) (base : Heap) (C : Addr) (k : Nat) (m : Str) (ps : List Str) (sp : Sp) : Prop where
  ex : ∃ (f : Addr) (fd : FuncData), FnOk P w K mg base CX0 k f fd ps sp ∧ WO.Own K C f m ∧ Binds K fd ps [] ∧ PySem.W.fnIn K f = true
end CP

end
section
set_option autoImplicit false
set_option Elab.async false
set_option linter.all false
set_option maxRecDepth 100000
set_option maxHeartbeats 4000000
/-! ## min of a tuple with default= -/
namespace GF
open PySem PySem.Spec PyProof.Rows L2 PySem.W
theorem ints_reads {h : Heap} : ∀ {ns : List Int} {us : List Value}, Vals (ns.map V.int) us → ReadsAll h us (ns.map PyData.int) []
  | [], _, r => by cases r; exact .nil
  | n :: ns, _, r => by
    cases r with
    | cons a b =>
      obtain ⟨t, rfl⟩ := a
      exact .cons (as := []) (bs := []) (.int n t) (ints_reads b)
theorem ints_alike : ∀ ns : List Int, AlikeAll (ns.map PyData.int) := by
  intro ns
  refine ⟨fun x hx y hy => ?_, fun x hx => ?_⟩
  · obtain ⟨a, _, rfl⟩ := List.mem_map.mp hx
    obtain ⟨b, _, rfl⟩ := List.mem_map.mp hy
    rfl
  · obtain ⟨a, _, rfl⟩ := List.mem_map.mp hx
    intro z
    cases z
theorem ints_depth : ∀ ns : List Int, PyData.depthAll (ns.map PyData.int) = 0
  | [] => by simp only [List.map_nil, PyData.depthAll]
  | n :: ns => by simp only [List.map_cons, PyData.depthAll, PyData.depth, ints_depth ns, Nat.max_self]
theorem int_reads {h : Heap} {v : Value} {n : Int} {bs : List Addr} (r : Reads h v (.int n) bs) : RelV (.int n) v := by
  cases r
  exact ⟨_, rfl⟩
def rMinTD (K : PySem.W.Frag) : List V → List V → Hp → VK → Prop := fun xs zs H Q => ∃ (a : Addr) (ns : List Int) (d : Int), xs = [.ref a] ∧ zs = [.int d] ∧ SqT K H a (ns.map V.int) ∧ (ns = [] → Q (.int d) H) ∧ (∀ n r, ns = n :: r → Q (.int (r.foldl min n)) H)
section
variable {X : Cx}
theorem call_minTD (hc : X.calm = true) (hu : X.A.units + 64 < cLine) : CallRK X (.builtin "min") ["default"] (rMinTD X.K) := by
  intro pins s σ H xs zs us ws Q I r rz h
  obtain ⟨a, ns, d, rfl, rfl, hL, q0, q1⟩ := h
  cases r with
  | cons rx rr =>
    cases rr
    cases rx
    cases rz with
    | cons ra rb =>
      cases rb
      obtain ⟨td, rfl⟩ := ra
      obtain ⟨its, rv, pl, _⟩ := I.tuple hL
      have hr := ints_reads (h := s.heap) rv
      refine min_tuple_default (xs := ns.map .int) (d := .int d td) (I.ok.hd hc) (show s.heap.IsTuple a its.toArray from pl) (by simpa using hr) (ints_alike ns) (by rw [ints_depth]; omega) (fun e h' tk k => ?_) fun y ys i v h' tk bs e hv hR k => ?_
      · cases ns with
        | nil => exact ⟨.int d, H, I.kept (t' := tk) k, ⟨td, rfl⟩, q0 rfl⟩
        | cons n r => cases e
      · cases ns with
        | nil => cases e
        | cons n r =>
          injection e with e1 e2
          subst e1 e2
          rw [minD_ints] at hR
          exact ⟨.int _, H, I.kept (t' := tk) k, int_reads hR, q1 n r rfl⟩
end
end GF
/-! ## sums of chains -/
namespace CP
open PySem L2 G Y
abbrev sCAdd : Stmt := inClass (S.top 20) 5
structure Oq (P : Program) (w : World) (K : PySem.W.Frag) (mg : Str → Option Value) (base : Heap) (C : Addr) (k : Nat) (m : Str) (ps : List Str) (sp : Sp) : Prop where
  ex : ∃ (f : Addr) (fd : FuncData), FnOk P w K mg base CX0 k f fd ps sp ∧ WO.Own K C f m ∧ Binds K fd ps []
theorem fold_cast : ∀ (l : List Nat) (n : Nat), (l.map fun n => ((n : Nat) : Int)).foldl min (n : Int) = ((l.foldl min n : Nat) : Int)
  | [], n => rfl
  | x :: l, n => by
    rw [List.map_cons, List.foldl_cons, List.foldl_cons, ← fold_cast l (min n x)]
    congr 1
    omega
section
variable {P : Program} {w : World} {K : PySem.W.Frag} {mg : Str → Option Value} {base : Heap} {C : Addr}
/-- first + second -/
def spCAdd (C : Addr) : Sp := fun vs H Q _ => ∃ (a b : Addr) (l m : List Nat), vs = [.ref a, .ref b] ∧ ChAt C H l a ∧ ChAt C H m b ∧ Cuts l ∧ Cuts m ∧ l.length + m.length ≤ 1000 ∧ ∀ c H', Same H H' → ChAt C H' (N.add l m) c → Q (.ref c) H'
theorem cuts_add {l m : List Nat} (hl : Cuts l) (hm : Cuts m) (h : l.length + m.length ≤ 1000) : Cuts (N.add l m) := ⟨N.add_fall hl.fall hm.fall, N.add_le hl.le hm.le, Nat.le_trans (N.add_len l m) h⟩
abbrev NAd : List Str := ["self", "other", "least", "cut"]
theorem scAd : FnScope NAd ["self", "other"] (defScope sCAdd) := ⟨rfl, rfl, rfl, by decide +kernel, rfl, by decide +kernel, by decide +kernel⟩
theorem ok_cadd {f : Addr} {fd : FuncData} (F : Fun K "__add__" "Chain.__add__" sCAdd f fd) (B : Bn mg) (T : Ct K mg C) (gC : ∃ t, mg "GREATEST_CUT" = some (.int 1000 t)) (MW : Mw P w K mg base C) : FnOk P w K mg base CX0 6 f fd ["self", "other"] (spCAdd C) := by
  obtain ⟨fI, fdI, GI, MK, bI⟩ := MW.ex
  obtain ⟨tkC, gC⟩ := gC
  refine F.ok scAd (fun vs H Q E h => ?_) (fun cdv A outer s H vs Q E hr h => ?_)
  · obtain ⟨a, b, l, m, rfl, _⟩ := h
    rfl
  · obtain ⟨a, b, l, m, rfl, ha, hb, hl, hm, hlen, k⟩ := h
    refine ⟨_, pss_cons (ps_set (i := 2) scAd.nd rfl (Or.inr rfl) (pe_callBK (GF.call_minTD rfl hr.units) (by rfl) B.min (by decide +kernel) (pa_cons (pe_fld (pv 0) rfl) pa_nil) (pk_cons (pe_op op_add (pe_glob (v := .int 1000) rfl gC ⟨_, rfl⟩) pe_int) pk_nil)))
      (pss_one (ps_ret (pe_make MK GI hr rfl T.g bI .nil pass0 (pa_cons (pe_op op_catA (pe_fld (pv 0) rfl) (pe_callTy call_tuple_of (by rfl) B.tuple (by decide +kernel) (pa_cons
        (pe_lc (own := [("cut", 3)]) (g := gName 3) (tt := tTest (tOp (rI0 fun i j => .bl (decide (i < j))) (tVar 3) (tVar 2))) (te := tVar 3) rfl scAd.nd (pi_tup (pe_fld (pv 1) rfl)) (blkOk_by (N := NAd) (sc := defScope sCAdd) (by decide +kernel))
          (fun _ _ _ _ _ => pg_name (i := 3) scAd.nd rfl (Or.inl rfl)) (fun _ _ _ _ _ => pts_one (by exact pt_cmpR op_lt (pv 3) (pv 2) (nomark _))) (fun _ _ _ _ _ => by exact pv 3)) pa_nil))) pa_nil)))), ?_⟩
    obtain ⟨dx, t, u, h1, h2, h3⟩ := id ha
    obtain ⟨dy, t', u', g1, g2, g3⟩ := id hb
    have fin : ∀ (c0 : Addr) (G2 : Hp), Same H G2 → G2 c0 = some (.tup (ni (N.add l m))) → ∀ x dx, G2 x = none → G2 dx = none → dx ≠ x → spCInit C (.ref x :: ([.ref c0] ++ [])) (upd (upd G2 dx (.own x)) x (.ins C dx [])) (fun v H2 => v = .non ∧ Q (.ref x) H2) E0 :=
      fun c0 G2 s2 hc0 x dx hx hdx ne => made_ch hx hdx ne (.inr hc0) (cuts_add hl hm hlen) fun G3 s3 hch => ⟨rfl, k x G3 (s2.trans s3) hch⟩
    have rest : tRet (tMake C (spCInit C) [] E0 (tCons (tOp (rCatA K) (tFld K (tVar 0) "cuts") (tCB (fun xs H Q => ∃ p ys, xs = [V.ref p] ∧ ((SqL K H p ys ∧ ∀ l, H l = none → Q (.ref l) (upd H l (.tup ys))) ∨ (SqT K H p ys ∧ Q (.ref p) H))) (tCons (tLc (iTup K (tFld K (tVar 1) "cuts")) (gName 3) (tTest (tOp (rI0 fun i j => .bl (decide (i < j))) (tVar 3) (tVar 2))) (tVar 3) [3]) tNil))) tNil)) { nx := fun _ H' => Q .non H', rt := Q } [some (.ref a), some (.ref b), some (.int ((N.lo l : Nat) : Int)), none] H := by
      refine ⟨_, rfl, a, C, dx, _, _, rfl, h1, T.cl, T.nC, cfl_cuts t u, ?_⟩
      refine ⟨_, rfl, b, C, dy, _, _, rfl, g1, T.cl, T.nC, cfl_cuts t' u', t', rfl, ⟨_, SqT.of g2⟩, fun D hD => ?_⟩
      refine lc_it walk_tup (fun i G => Same H G ∧ G D = some (.lst (ni ((m.take i).filter fun d => decide (d < N.lo l))))) ⟨of_upd hD, upd_same⟩ (fun i G _ z => SqT.of (z.1 _ _ g2)) ?_ ?_
      · rintro i x G G' hi ⟨s1, hG⟩ ⟨rfl, hx⟩
        obtain ⟨c, hc, rfl⟩ := ni_get hx
        have e : m.take (i + 1) = m.take i ++ [c] := take_snoc hc
        refine ⟨rfl, _, rfl, _, rfl, _, _, rfl, rfl, _, rfl, ite2 (fun c1 => ?_) (fun c1 => ?_)⟩
        · have c2 : (c : Int) < ((N.lo l : Nat) : Int) := of_decide_eq_true c1
          refine ⟨_, rfl, _, hG, ?_, add_upd hD s1, ?_⟩
          · rw [ni_len] at hi ⊢
            have := List.length_filter_le (fun d => decide (d < N.lo l)) (m.take i)
            have := List.length_take_le i m
            have := hm.len
            exact small1000 (by omega)
          · rw [upd_same, e, List.filter_append, ni_app, List.filter_cons_of_pos (by simpa using (by omega : c < N.lo l))]
            rfl
        · have c2 : ¬ (c : Int) < ((N.lo l : Nat) : Int) := fun z => c1 (decide_eq_true z)
          refine ⟨s1, ?_⟩
          rw [hG, e, List.filter_append, List.filter_cons_of_neg (by simpa using (by omega : ¬ c < N.lo l)), List.filter_nil, List.append_nil]
      · rintro G ⟨s1, hG⟩
        rw [ni_len, List.take_length] at hG
        refine ⟨D, _, rfl, .inl ⟨SqL.of hG, fun t2 ht2 => ?_⟩⟩
        have s2 : Same G (upd G t2 (.tup (ni (m.filter fun d => decide (d < N.lo l))))) := of_upd ht2
        have h2' := s2 _ _ (s1 _ _ h2)
        have el : ni (N.add l m) = ni l ++ ni (m.filter fun d => decide (d < N.lo l)) := by
          unfold N.add
          rw [ni_app]
        refine ⟨t, t2, _, _, rfl, rfl, SqT.of h2', SqT.of upd_same, ?_, fun e => ?_, fun _ e => ?_, fun _ _ v hv => ?_⟩
        · rw [ni_len, ni_len]
          have := List.length_filter_le (fun d => decide (d < N.lo l)) m
          exact Nat.le_trans (show _ ≤ 1000 by omega) (by decide)
        · refine fin t2 _ (s1.trans s2) ?_
          rw [upd_same, el, e, List.nil_append]
        · refine fin t _ (s1.trans s2) ?_
          rw [h2', el, e, List.append_nil]
        · refine fin v _ ((s1.trans s2).trans (of_upd hv)) ?_
          rw [upd_same, el]
    refine ⟨_, rfl, a, C, dx, _, _, rfl, h1, T.cl, T.nC, cfl_cuts t u, _, _, rfl, rfl, ?_⟩
    refine ⟨t, l.map fun n => ((n : Nat) : Int), _, rfl, rfl, SqT.of h2, fun e => ?_, fun n r e => ?_⟩
    · have el : l = [] := List.map_eq_nil_iff.mp e
      have e2 : (1000 : Int) + 1 = ((N.lo l : Nat) : Int) := by
        rw [el]
        rfl
      rw [e2]
      exact rest
    · have e2 : r.foldl min n = ((N.lo l : Nat) : Int) := by
        cases l with
        | nil => cases e
        | cons c l =>
          rw [List.map_cons] at e
          injection e with e1 e3
          subst e1 e3
          rw [fold_cast]
          have := hl.le c List.mem_cons_self
          show ((l.foldl min c : Nat) : Int) = ((l.foldl min (min 1001 c) : Nat) : Int)
          rw [show min 1001 c = c by omega]
      rw [e2]
      exact rest
end
end CP

end
section
set_option autoImplicit false
set_option linter.all false
/-! ## periods of beginnings -/
namespace N
/-- f i = f (i + q) for n places from i on -/
def per (f : Nat → Bool) (q : Nat) : Nat → Nat → Bool
  | 0, _ => true
  | n + 1, i => (f i == f (i + q)) && per f q n (i + 1)
/-- q is a period of the first k places -/
def Pd (f : Nat → Bool) (k q : Nat) : Bool := per f q (k - q) 0
def lpF (f : Nat → Bool) (k : Nat) : Nat → Nat → Nat
  | 0, q => q
  | s + 1, q => if Pd f k q = true then q else lpF f k s (q + 1)
/-- the least period of the first k places -/
def lp (f : Nat → Bool) (k : Nat) : Nat := lpF f k (k - 1) 1
def nrmF (f : Nat → Bool) : Nat → Nat → List Nat
  | 0, _ => []
  | s + 1, n => if lp f n < n then lp f n :: nrmF f s (lp f n) else []
/-- the least period, that of the places below it, and so on -/
def nrm (f : Nat → Bool) (n : Nat) : List Nat := nrmF f n n
theorem per_iff {f : Nat → Bool} {q : Nat} : ∀ n i, per f q n i = true ↔ ∀ j, i ≤ j → j < i + n → f j = f (j + q)
  | 0, i => ⟨fun _ j h1 h2 => by omega, fun _ => rfl⟩
  | n + 1, i => by
    unfold per
    rw [Bool.and_eq_true, per_iff n (i + 1), beq_iff_eq]
    constructor
    · rintro ⟨a, b⟩ j h1 h2
      by_cases e : j = i
      · rw [e]
        exact a
      · exact b j (by omega) (by omega)
    · exact fun h => ⟨h i (Nat.le_refl _) (by omega), fun j h1 h2 => h j (by omega) (by omega)⟩
theorem pd_iff {f : Nat → Bool} {k q : Nat} : Pd f k q = true ↔ ∀ i, i + q < k → f i = f (i + q) := by
  unfold Pd
  rw [per_iff]
  exact ⟨fun h i hi => h i (Nat.zero_le _) (by omega), fun h i _ hi => h i (by omega)⟩
theorem pd_self (f : Nat → Bool) (k q : Nat) (h : k ≤ q) : Pd f k q = true := pd_iff.mpr fun i hi => by omega
theorem lpF_spec {f : Nat → Bool} {k : Nat} : ∀ s q, q ≤ lpF f k s q ∧ lpF f k s q ≤ q + s ∧ (∀ j, q ≤ j → j < lpF f k s q → Pd f k j = false) ∧ (lpF f k s q < q + s → Pd f k (lpF f k s q) = true)
  | 0, q => ⟨Nat.le_refl _, Nat.le_refl _, fun j h1 h2 => absurd (show j < q from h2) (by omega), fun h => absurd (show q < q + 0 from h) (by omega)⟩
  | s + 1, q => by
    unfold lpF
    by_cases c : Pd f k q = true
    · rw [if_pos c]
      exact ⟨Nat.le_refl _, by omega, fun j h1 h2 => by omega, fun _ => c⟩
    · rw [if_neg c]
      obtain ⟨h1, h2, h3, h4⟩ := lpF_spec (f := f) (k := k) s (q + 1)
      refine ⟨by omega, by omega, fun j j1 j2 => ?_, fun h => h4 (by omega)⟩
      by_cases e : j = q
      · rw [e]
        simpa using c
      · exact h3 j (by omega) j2
theorem lp_spec {f : Nat → Bool} {k : Nat} (h : 0 < k) : 1 ≤ lp f k ∧ lp f k ≤ k ∧ Pd f k (lp f k) = true ∧ ∀ q, 1 ≤ q → Pd f k q = true → lp f k ≤ q := by
  obtain ⟨h1, h2, h3, h4⟩ := lpF_spec (f := f) (k := k) (k - 1) 1
  refine ⟨h1, by unfold lp; omega, ?_, fun q q1 hq => ?_⟩
  · by_cases c : lpF f k (k - 1) 1 < 1 + (k - 1)
    · exact h4 c
    · exact pd_self f k _ (by unfold lp; omega)
  · by_cases c : lp f k ≤ q
    · exact c
    · have := h3 q q1 (by unfold lp at c; omega)
      rw [hq] at this
      cases this
theorem lp_zero (f : Nat → Bool) : lp f 0 = 1 := rfl
theorem lp_eq {f : Nat → Bool} {k r : Nat} (h : 0 < k) (r1 : 1 ≤ r) (hr : Pd f k r = true) (least : ∀ q, 1 ≤ q → q ≤ k → Pd f k q = true → r ≤ q) : lp f k = r := by
  obtain ⟨h1, h2, h3, h4⟩ := lp_spec (f := f) h
  exact Nat.le_antisymm (h4 r r1 hr) (least _ h1 h2 h3)
/-- what stands at the k-th place of the borders -/
def bd (f : Nat → Bool) (k : Nat) : Int := (k : Int) - (lp f k : Int)
/-- a candidate for the border behind k places -/
structure Cand (f : Nat → Bool) (k : Nat) (b : Int) : Prop where
  ok : b = -1 ∨ ∃ j : Nat, b = (j : Int) ∧ j < k ∧ Pd f k (k - j) = true
  all : ∀ j, j < k → Pd f k (k - j) = true → f j = f k → (j : Int) ≤ b
theorem cand_first (f : Nat → Bool) (k : Nat) : Cand f k (bd f k) := by
  by_cases h : k = 0
  · subst h
    exact ⟨.inl (by unfold bd; rw [lp_zero]; rfl), fun j hj => by omega⟩
  · obtain ⟨h1, h2, h3, h4⟩ := lp_spec (f := f) (k := k) (by omega)
    refine ⟨.inr ⟨k - lp f k, by unfold bd; omega, by omega, by rw [show k - (k - lp f k) = lp f k by omega]; exact h3⟩, fun j hj hp _ => ?_⟩
    have := h4 (k - j) (by omega) hp
    unfold bd
    omega
theorem cand_next {f : Nat → Bool} {k j : Nat} (h : Cand f k (j : Int)) (hne : f j ≠ f k) : j < k ∧ Cand f k (bd f j) := by
  obtain ⟨j', ej, hj, hp⟩ : ∃ j' : Nat, (j : Int) = (j' : Int) ∧ j' < k ∧ Pd f k (k - j') = true := by
    rcases h.ok with h | h
    · omega
    · exact h
  have e : j' = j := by omega
  subst e
  have hp := pd_iff.mp hp
  refine ⟨hj, ⟨?_, fun i hi hq he => ?_⟩⟩
  · by_cases z : j' = 0
    · left
      rw [z]
      unfold bd
      rw [lp_zero]
      rfl
    · obtain ⟨h1, h2, h3, h4⟩ := lp_spec (f := f) (k := j') (by omega)
      have h3 := pd_iff.mp h3
      refine .inr ⟨j' - lp f j', by unfold bd; omega, by omega, pd_iff.mpr fun i hi => ?_⟩
      have a := h3 i (by omega)
      have b := hp (i + lp f j') (by omega)
      rw [a, b]
      congr 1
      omega
  · have le := h.all i hi hq he
    have ne : i ≠ j' := fun z => hne (by rw [← z]; exact he)
    have hq := pd_iff.mp hq
    have per : Pd f j' (j' - i) = true := pd_iff.mpr fun x hx => by
      have a := hq x (by omega)
      have b := hp (x + (j' - i)) (by omega)
      rw [a, b]
      congr 1
      omega
    have := (lp_spec (f := f) (k := j') (by omega)).2.2.2 (j' - i) (by omega) per
    unfold bd
    omega
theorem cand_end {f : Nat → Bool} {k : Nat} {b : Int} (h : Cand f k b) (stop : b < 0 ∨ ∃ j : Nat, b = (j : Int) ∧ f j = f k) : b + 1 = bd f (k + 1) := by
  have key : ∀ r : Nat, 1 ≤ r → (b : Int) = (k : Int) - r → Pd f (k + 1) r = true → (∀ q, 1 ≤ q → q ≤ k + 1 → Pd f (k + 1) q = true → r ≤ q) → b + 1 = bd f (k + 1) := fun r r1 e hr hl => by
    unfold bd
    rw [lp_eq (Nat.succ_pos _) r1 hr hl]
    omega
  have low : ∀ q, 1 ≤ q → q ≤ k → Pd f (k + 1) q = true → ((k - q : Nat) : Int) ≤ b := fun q q1 q2 hq => by
    have hq := pd_iff.mp hq
    refine h.all (k - q) (by omega) (pd_iff.mpr fun i hi => ?_) ?_
    · rw [show k - (k - q) = q by omega]
      exact hq i (by omega)
    · rw [hq (k - q) (by omega)]
      congr 1
      omega
  rcases stop with stop | ⟨j, rfl, he⟩
  · have e : b = -1 := by
      rcases h.ok with h | ⟨j, h, _⟩
      · exact h
      · omega
    refine key (k + 1) (by omega) (by omega) (pd_self f _ _ (Nat.le_refl _)) fun q q1 q2 hq => ?_
    by_cases c : q ≤ k
    · have := low q q1 c hq
      omega
    · omega
  · rcases h.ok with h' | ⟨j', ej, hj, hp⟩
    · omega
    · have e : j' = j := by omega
      subst e
      have hp := pd_iff.mp hp
      refine key (k - j') (by omega) (by omega) (pd_iff.mpr fun i hi => ?_) fun q q1 q2 hq => ?_
      · by_cases c : i + (k - j') < k
        · exact hp i c
        · have e : i = j' := by omega
          subst e
          rw [he]
          congr 1
          omega
      · by_cases c : q ≤ k
        · have := low q q1 c hq
          omega
        · omega
theorem nrmF_eq {f : Nat → Bool} : ∀ n s, n ≤ s → nrmF f s n = nrmF f n n := by
  intro n
  induction n using Nat.strongRecOn with
  | ind n ih =>
    intro s hs
    cases n with
    | zero =>
      cases s with
      | zero => rfl
      | succ s =>
        unfold nrmF
        rw [if_neg (by rw [lp_zero]; omega)]
    | succ n =>
      cases s with
      | zero => omega
      | succ s =>
        unfold nrmF
        by_cases c : lp f (n + 1) < n + 1
        · rw [if_pos c, if_pos c, ih _ c s (by omega), ih _ c n (by omega)]
        · rw [if_neg c, if_neg c]
theorem nrm_step (f : Nat → Bool) (n : Nat) : nrm f n = if lp f n < n then lp f n :: nrm f (lp f n) else [] := by
  cases n with
  | zero => rw [if_neg (by rw [lp_zero]; omega)]; rfl
  | succ n =>
    show nrmF f (n + 1) (n + 1) = _
    rw [nrmF]
    by_cases c : lp f (n + 1) < n + 1
    · rw [if_pos c, if_pos c, nrmF_eq _ n (by omega)]
      rfl
    · rw [if_neg c, if_neg c]
theorem nrm_fall {f : Nat → Bool} : ∀ n, Fall (nrm f n) ∧ (∀ d ∈ nrm f n, d < n) ∧ (nrm f n).length ≤ n := by
  intro n
  induction n using Nat.strongRecOn with
  | ind n ih =>
    rw [nrm_step]
    by_cases c : lp f n < n
    · rw [if_pos c]
      obtain ⟨a, b, d⟩ := ih _ c
      have p := (lp_spec (f := f) (k := n) (by omega)).1
      refine ⟨⟨by omega, b, a⟩, fun e he => ?_, by rw [List.length_cons]; omega⟩
      rcases List.mem_cons.mp he with h | h
      · rw [h]
        exact c
      · have := b e h
        omega
    · rw [if_neg c]
      exact ⟨trivial, (fun _ h => by cases h), Nat.zero_le _⟩
end N

end
section
set_option autoImplicit false
set_option linter.all false
/-! ## periods of chains -/
namespace N
/-- whether a place is 0 or a boundary -/
def fm (cs : List Nat) (p : Nat) : Bool := decide (rem cs p = 0)
theorem fm_zero (cs : List Nat) : fm cs 0 = true := decide_eq_true (rem_zero cs)
theorem fm_head (c : Nat) (l : List Nat) (p : Nat) : fm (c :: l) (p + c) = fm (c :: l) p := by
  unfold fm
  rw [rem_cons, rem_cons, Nat.add_mod_right]
theorem fm_low {c : Nat} {l : List Nat} {p : Nat} (h : p < c) : fm (c :: l) p = fm l p := by
  unfold fm
  rw [rem_cons, Nat.mod_eq_of_lt h]
theorem pd_head (c : Nat) (l : List Nat) (k : Nat) : Pd (fm (c :: l)) k c = true := pd_iff.mpr fun i _ => (fm_head c l i).symm
theorem pd_congr {f g : Nat → Bool} {k q : Nat} (h : ∀ i, i < k → f i = g i) : Pd f k q = Pd g k q := by
  rw [Bool.eq_iff_iff, pd_iff, pd_iff]
  exact ⟨fun a i hi => by rw [← h i (by omega), ← h (i + q) hi]; exact a i hi, fun a i hi => by rw [h i (by omega), h (i + q) hi]; exact a i hi⟩
/-- where some place is one, some cut is a period -/
theorem pd_some : ∀ (cs : List Nat), Fall cs → ∀ n, (∃ p, 1 ≤ p ∧ p < n ∧ fm cs p = true) → ∃ c, 1 ≤ c ∧ c < n ∧ Pd (fm cs) n c = true
  | [], _, n, ⟨p, h1, h2, h3⟩ => by
    have : p = 0 := of_decide_eq_true h3
    omega
  | c :: l, hf, n, ⟨p, h1, h2, h3⟩ => by
    by_cases hc : c < n
    · exact ⟨c, hf.1, hc, pd_head c l n⟩
    · obtain ⟨d, d1, d2, d3⟩ := pd_some l hf.2.2 n ⟨p, h1, h2, by rw [← fm_low (c := c) (by omega)]; exact h3⟩
      exact ⟨d, d1, d2, by rw [pd_congr (g := fm l) fun i hi => fm_low (by omega)]; exact d3⟩
/-- the least period below n, if there is a place below n -/
theorem lp_lt {cs : List Nat} (hf : Fall cs) {n : Nat} : lp (fm cs) n < n ↔ ∃ p, 1 ≤ p ∧ p < n ∧ fm cs p = true := by
  constructor
  · intro h
    obtain ⟨h1, h2, h3, _⟩ := lp_spec (f := fm cs) (k := n) (by omega)
    refine ⟨_, h1, h, ?_⟩
    have := pd_iff.mp h3 0 (by omega)
    rw [fm_zero, Nat.zero_add] at this
    exact this.symm
  · intro h
    obtain ⟨c, c1, c2, c3⟩ := pd_some cs hf n h
    exact Nat.lt_of_le_of_lt ((lp_spec (f := fm cs) (k := n) (by omega)).2.2.2 c c1 c3) c2
/-- one place more than two first cuts tells no more -/
theorem lp_more {c : Nat} {l : List Nat} (hc : 0 < c) (m : Nat) (hm : 2 * c ≤ m) : lp (fm (c :: l)) m = lp (fm (c :: l)) (2 * c) := by
  have hcp := pd_head c l (2 * c)
  obtain ⟨h1, h2, h3, h4⟩ := lp_spec (f := fm (c :: l)) (k := 2 * c) (by omega)
  have le := h4 c hc hcp
  have h3' := pd_iff.mp h3
  refine lp_eq (by omega) h1 (pd_iff.mpr fun i hi => ?_) fun q q1 q2 hq => ?_
  · have back : ∀ x, fm (c :: l) x = fm (c :: l) (x % c) := fun x => by
      unfold fm
      rw [rem_cons, rem_cons, Nat.mod_mod]
    rw [back i, back (i + lp (fm (c :: l)) (2 * c)), h3' (i % c) (by have := Nat.mod_lt i hc; omega), back, Nat.mod_add_mod]
  · exact h4 q q1 (pd_iff.mpr fun i hi => pd_iff.mp hq i (by omega))
theorem nrm_more {c : Nat} {l : List Nat} (hc : 0 < c) (m : Nat) (hm : 2 * c ≤ m) : nrm (fm (c :: l)) m = nrm (fm (c :: l)) (2 * c) := by
  have hcp := pd_head c l (2 * c)
  have le := (lp_spec (f := fm (c :: l)) (k := 2 * c) (by omega)).2.2.2 c hc hcp
  rw [nrm_step, nrm_step (fm (c :: l)) (2 * c), lp_more hc m hm, if_pos (by omega), if_pos (by omega)]
theorem nrm_nil (n : Nat) : nrm (fm []) n = [] := by
  rw [nrm_step, if_neg]
  rw [lp_lt (cs := []) trivial]
  rintro ⟨p, h1, h2, h3⟩
  have : p = 0 := of_decide_eq_true h3
  omega
/-- so many places tell all -/
def hd (cs : List Nat) : Nat := match cs with | [] => 0 | c :: _ => c
theorem nrm_cuts {cs : List Nat} (hf : Fall cs) (hb : ∀ c ∈ cs, c ≤ 1000) {n : Nat} (hn : n ≤ 2 * hd cs) : ∀ d ∈ nrm (fm cs) n, d ≤ 1000 := by
  cases cs with
  | nil => rw [nrm_nil]; exact fun _ h => by cases h
  | cons c l =>
    have c1 := hb c List.mem_cons_self
    have hn : n ≤ 2 * c := hn
    rw [nrm_step]
    by_cases h : lp (fm (c :: l)) n < n
    · rw [if_pos h]
      have le : lp (fm (c :: l)) n ≤ c := (lp_spec (f := fm (c :: l)) (k := n) (by omega)).2.2.2 c hf.1 (pd_head c l n)
      intro d hd2
      rcases List.mem_cons.mp hd2 with e | e
      · omega
      · have := (nrm_fall (f := fm (c :: l)) (lp (fm (c :: l)) n)).2.1 d e
        omega
    · rw [if_neg h]
      exact fun _ h => by cases h
theorem fall_len : ∀ {l : List Nat} {m : Nat}, Fall l → (∀ d ∈ l, d ≤ m) → l.length ≤ m
  | [], _, _, _ => Nat.zero_le _
  | c :: r, m, f, h => by
    have h1 := h c List.mem_cons_self
    have := fall_len (l := r) (m := m - 1) f.2.2 fun d hd => by
      have := f.2.1 d hd
      omega
    have := f.1
    rw [List.length_cons]
    omega
end N

end
section
set_option autoImplicit false
set_option Elab.async false
set_option linter.all false
set_option maxRecDepth 100000
set_option maxHeartbeats 4000000
/-! ## gates: the small defs -/
namespace CP
open PySem L2 G Y
abbrev sWord : Stmt := S.top 29
abbrev sRoadG : Stmt := S.top 31
abbrev sLeaves : Stmt := S.top 32
abbrev sMostG : Stmt := S.top 33
abbrev sTurnG : Stmt := S.top 35
abbrev sChB : Stmt := S.top 28
def ansV : Option Int → V
  | none => .non
  | some z => .int z
/-- a gate stands at a value -/
def GAt (H : Hp) (g : M.Gate) (v : V) : Prop := ∃ t q, v = .ref t ∧ H t = some (.tup [.ref q, .int g.thr, ansV g.ans]) ∧ H q = some (.tup (ni g.place))
theorem GAt.mono {H H' : Hp} (s : Same H H') {g : M.Gate} {v : V} (h : GAt H g v) : GAt H' g v := by
  obtain ⟨t, q, e, h1, h2⟩ := h
  exact ⟨t, q, e, s _ _ h1, s _ _ h2⟩
inductive GsAt (H : Hp) : List M.Gate → List V → Prop
  | nil : GsAt H [] []
  | cons {g : M.Gate} {l : List M.Gate} {v : V} {xs : List V} : GAt H g v → GsAt H l xs → GsAt H (g :: l) (v :: xs)
theorem GsAt.mono {H H' : Hp} (s : Same H H') {l : List M.Gate} {xs : List V} (h : GsAt H l xs) : GsAt H' l xs := by
  induction h with
  | nil => exact .nil
  | cons e _ ih => exact .cons (e.mono s) ih
theorem GsAt.snoc {H : Hp} {l : List M.Gate} {xs : List V} {g : M.Gate} {v : V} (h : GsAt H l xs) (e : GAt H g v) : GsAt H (l ++ [g]) (xs ++ [v]) := by
  induction h with
  | nil => exact .cons e .nil
  | cons e2 _ ih => exact .cons e2 ih
theorem GsAt.app {H : Hp} {l m : List M.Gate} {xs ys : List V} (h : GsAt H l xs) (h2 : GsAt H m ys) : GsAt H (l ++ m) (xs ++ ys) := by
  induction h with
  | nil => exact h2
  | cons e2 _ ih => exact .cons e2 ih
theorem GsAt.len {H : Hp} {l : List M.Gate} {xs : List V} (h : GsAt H l xs) : xs.length = l.length := by
  induction h with
  | nil => rfl
  | cons _ _ ih => rw [List.length_cons, List.length_cons, ih]
theorem GsAt.get {H : Hp} {l : List M.Gate} {xs : List V} (h : GsAt H l xs) : ∀ {i : Nat} {v : V}, xs[i]? = some v → ∃ g, l[i]? = some g ∧ GAt H g v := by
  induction h with
  | nil => intro i v e; cases e
  | cons e2 _ ih =>
    intro i v e
    cases i with
    | zero =>
      cases e
      exact ⟨_, rfl, e2⟩
    | succ i => exact ih (i := i) e
/-- all but lists stays -/
def KeepT (H H' : Hp) : Prop := ∀ a o, (∀ xs, o ≠ .lst xs) → H a = some o → H' a = some o
theorem put_keepT {G : Hp} {l : Addr} {xs : List V} {o : HO} (h : G l = some (.lst xs)) : KeepT G (upd G l o) := fun a o n e => by
  rw [upd_ne (fun z => by
    rw [z, h] at e
    cases e
    exact n _ rfl)]
  exact e
theorem same_keepT {H H' : Hp} (s : Same H H') : KeepT H H' := fun a o _ e => s a o e
theorem GsAt.keep {H H' : Hp} (s : KeepT H H') {l : List M.Gate} {xs : List V} (h : GsAt H l xs) : GsAt H' l xs := by
  induction h with
  | nil => exact .nil
  | cons e _ ih =>
    obtain ⟨t, q, e, h1, h2⟩ := e
    exact .cons ⟨t, q, e, s _ _ (fun _ z => by cases z) h1, s _ _ (fun _ z => by cases z) h2⟩ ih
theorem ChAt.keep {C : Addr} {H H' : Hp} (s : KeepT H H') {l : List Nat} {a : Addr} (h : ChAt C H l a) : ChAt C H' l a := by
  obtain ⟨dx, t, u, h1, h2, h3⟩ := h
  exact ⟨dx, t, u, s _ _ (fun _ z => by cases z) h1, s _ _ (fun _ z => by cases z) h2, s _ _ (fun _ z => by cases z) h3⟩
inductive CsAt (C : Addr) (H : Hp) : List (List Nat) → List V → Prop
  | nil : CsAt C H [] []
  | cons {cs : List Nat} {l : List (List Nat)} {a : Addr} {xs : List V} : ChAt C H cs a → CsAt C H l xs → CsAt C H (cs :: l) (.ref a :: xs)
theorem CsAt.mono {C : Addr} {H H' : Hp} (s : Same H H') {l : List (List Nat)} {xs : List V} (h : CsAt C H l xs) : CsAt C H' l xs := by
  induction h with
  | nil => exact .nil
  | cons e _ ih => exact .cons (e.mono s) ih
theorem CsAt.keep {C : Addr} {H H' : Hp} (s : KeepT H H') {l : List (List Nat)} {xs : List V} (h : CsAt C H l xs) : CsAt C H' l xs := by
  induction h with
  | nil => exact .nil
  | cons e _ ih => exact .cons (e.keep s) ih
theorem CsAt.snoc {C : Addr} {H : Hp} {l : List (List Nat)} {xs : List V} {cs : List Nat} {a : Addr} (h : CsAt C H l xs) (e : ChAt C H cs a) : CsAt C H (l ++ [cs]) (xs ++ [.ref a]) := by
  induction h with
  | nil => exact .cons e .nil
  | cons e2 _ ih => exact .cons e2 ih
theorem CsAt.len {C : Addr} {H : Hp} {l : List (List Nat)} {xs : List V} (h : CsAt C H l xs) : xs.length = l.length := by
  induction h with
  | nil => rfl
  | cons _ _ ih => rw [List.length_cons, List.length_cons, ih]
theorem CsAt.get {C : Addr} {H : Hp} {l : List (List Nat)} {xs : List V} (h : CsAt C H l xs) : ∀ {i : Nat} {cs : List Nat}, l[i]? = some cs → ∃ a, xs[i]? = some (.ref a) ∧ ChAt C H cs a := by
  induction h with
  | nil => intro i cs e; cases e
  | cons e2 _ ih =>
    intro i cs e
    cases i with
    | zero =>
      cases e
      exact ⟨_, rfl, e2⟩
    | succ i => exact ih (i := i) e
theorem ck_cuts {cs : List Nat} (h : M.Ck cs) : Cuts cs := ⟨h.fall, h.le, N.fall_len h.fall h.le⟩
theorem ch_isC {C : Addr} {H : Hp} {l : List Nat} {x : Addr} (h : ChAt C H l x) : WO.InsC C H x := by
  obtain ⟨dx, t, u, h1, _, _⟩ := h
  exact ⟨dx, _, h1⟩
theorem nks : ¬ (V.str "drop" = V.str "cut") ∧ ¬ (V.str "tell" = V.str "cut") ∧ ¬ (V.str "drop" = V.str "tell") ∧ ¬ (V.str "cut" = V.str "tell") ∧ ¬ (V.str "road" = V.str "join") ∧ ¬ (V.str "tunnel" = V.str "join") ∧ ¬ (V.str "tunnel" = V.str "road") ∧ ¬ (V.str "join" = V.str "road") ∧ ¬ (V.str "keep" = V.str "turn") ∧ ¬ (V.str "lose" = V.str "turn") :=
  ⟨fun h => absurd (V.str.inj h) (by decide +kernel), fun h => absurd (V.str.inj h) (by decide +kernel), fun h => absurd (V.str.inj h) (by decide +kernel), fun h => absurd (V.str.inj h) (by decide +kernel), fun h => absurd (V.str.inj h) (by decide +kernel), fun h => absurd (V.str.inj h) (by decide +kernel), fun h => absurd (V.str.inj h) (by decide +kernel), fun h => absurd (V.str.inj h) (by decide +kernel), fun h => absurd (V.str.inj h) (by decide +kernel), fun h => absurd (V.str.inj h) (by decide +kernel)⟩
theorem iteNT {x y : V} {A B : Prop} (h : ¬ x = y) (a : A) : if (!decide (x = y)) = true then A else B := by
  rw [decide_eq_false h]
  exact a
/-- the word of a road -/
def wordS (se ts : Bool) (lw : M.LW) : Str := if se = true then WP.sdS ts else WP.lwS lw
theorem word_cut (se ts : Bool) (lw : M.LW) : decide (V.str (wordS se ts lw) = V.str "cut") = decide (se = false ∧ lw = .cut) := by
  cases se with
  | true =>
    cases ts with
    | true => exact (decide_eq_false nks.2.1).trans (decide_eq_false (fun h => by cases h.1)).symm
    | false => exact (decide_eq_false nks.1).trans (decide_eq_false (fun h => by cases h.1)).symm
  | false =>
    cases lw with
    | cut => exact (decide_eq_true rfl).trans (decide_eq_true ⟨rfl, rfl⟩).symm
    | tell => exact (decide_eq_false nks.2.1).trans (decide_eq_false (fun h => by cases h.2)).symm
    | drop => exact (decide_eq_false nks.1).trans (decide_eq_false (fun h => by cases h.2)).symm
theorem word_tell (se ts : Bool) (lw : M.LW) : decide (V.str (wordS se ts lw) = V.str "tell") = decide ((se = true ∧ ts = true) ∨ (se = false ∧ lw = .tell)) := by
  cases se with
  | true =>
    cases ts with
    | true => exact (decide_eq_true rfl).trans (decide_eq_true (.inl ⟨rfl, rfl⟩)).symm
    | false => exact (decide_eq_false nks.2.2.1).trans (decide_eq_false (fun h => by rcases h with h | h; cases h.2; cases h.1)).symm
  | false =>
    cases lw with
    | cut => exact (decide_eq_false nks.2.2.2.1).trans (decide_eq_false (fun h => by rcases h with h | h; cases h.1; cases h.2)).symm
    | tell => exact (decide_eq_true rfl).trans (decide_eq_true (.inr ⟨rfl, rfl⟩)).symm
    | drop => exact (decide_eq_false nks.2.2.1).trans (decide_eq_false (fun h => by rcases h with h | h; cases h.1; cases h.2)).symm
section
variable {P : Program} {w : World} {K : PySem.W.Frag} {mg : Str → Option Value} {base : Heap} {C CW : Addr}
def spWord : Sp := fun vs H Q _ => ∃ (t : Addr) (se ts : Bool) (lw : M.LW) (size : Nat), vs = [.ref t, .bl se] ∧ H t = some (.tup [.str "road", .int (size : Int), .str (WP.sdS ts), .str (WP.lwS lw)]) ∧ Q (.str (wordS se ts lw)) H
theorem scWd : FnScope ["road", "sealed"] ["road", "sealed"] (defScope sWord) := ⟨rfl, rfl, rfl, by decide +kernel, rfl, by decide +kernel, by decide +kernel⟩
theorem ok_word {f : Addr} {fd : FuncData} (F : Fun K "_word" "_word" sWord f fd) : FnOk P w K mg base CX0 1 f fd ["road", "sealed"] spWord := by
  refine F.ok scWd (fun vs H Q E h => ?_) (fun cdv A outer s H vs Q E hr h => ?_)
  · obtain ⟨t, se, ts, lw, size, rfl, _⟩ := h
    rfl
  · obtain ⟨t, se, ts, lw, size, rfl, ht, k⟩ := h
    refine ⟨_, pss_one (ps_ret (pe_ifExp (pt_val (pv 1)) (pe_ix ix_tup (pv 0) (pe_int) (fun _ _ => rfl)) (pe_ix ix_tup (pv 0) (pe_int) (fun _ _ => rfl)))), ?_⟩
    refine ⟨_, rfl, _, rfl, ?_⟩
    cases se with
    | true => exact iteT ⟨_, rfl, t, _, _, _, rfl, rfl, SqT.of ht, (by exact atI_nat (j := 2) rfl), k⟩
    | false => exact iteF ⟨_, rfl, t, _, _, _, rfl, rfl, SqT.of ht, (by exact atI_nat (j := 3) rfl), k⟩
def spLeaves (C : Addr) : Sp := fun vs H Q _ => ∃ (a : Addr) (x : Int) (cs : List Nat), vs = [.ref a, .int x] ∧ ChAt C H cs a ∧ Q (.bl (M.leaves cs x)) H
theorem scLv : FnScope ["chain", "stretch"] ["chain", "stretch"] (defScope sLeaves) := ⟨rfl, rfl, rfl, by decide +kernel, rfl, by decide +kernel, by decide +kernel⟩
theorem ok_leaves {f : Addr} {fd : FuncData} (F : Fun K "_leaves_more" "_leaves_more" sLeaves f fd) (B : Bn mg) (T : Ct K mg C) : FnOk P w K mg base CX0 1 f fd ["chain", "stretch"] (spLeaves C) := by
  refine F.ok scLv (fun vs H Q E h => ?_) (fun cdv A outer s H vs Q E hr h => ?_)
  · obtain ⟨a, x, cs, rfl, _⟩ := h
    rfl
  · obtain ⟨a, x, cs, rfl, hc, k⟩ := h
    refine ⟨_, pss_one (ps_ret (pe_or (pe_cmpR (op_eq) (pe_callB call_len_seq (by rfl) B.len PySem.boot_len (pa_cons (pe_fld (pv 0) rfl) pa_nil)) (pe_int) (nomark _)) (pe_one (pe_cmpR (op_gt) (pe_ix ix_tup (pe_fld (pv 0) rfl) (pe_un un_neg pe_int) (fun _ _ => rfl)) (pv 1) (nomark _))))), ?_⟩
    obtain ⟨dx, t, u, h1, h2, h3⟩ := id hc
    refine ⟨_, rfl, a, C, dx, _, _, rfl, h1, T.cl, T.nC, cfl_cuts t u, t, _, rfl, .inr (SqT.of h2), rfl, _, rfl, ?_⟩
    rw [ni_len]
    rcases List.eq_nil_or_concat cs with e | ⟨r, y, e⟩
    · subst e
      exact iteT k
    · rw [List.concat_eq_append] at e
      subst e
      rw [decide_eq_false (fun z => by injection z with z; simp at z; omega)]
      refine iteF ⟨_, rfl, a, C, dx, _, _, rfl, h1, T.cl, T.nC, cfl_cuts t u, 1, rfl, t, _, _, .int (y : Int), rfl, rfl, SqT.of h2, by rw [ni_app]; exact atI_last _ _, _, rfl, _, _, rfl, rfl, ?_⟩
      have e : M.leaves (r ++ [y]) x = decide (x < (y : Int)) := by
        unfold M.leaves
        rw [decide_eq_false (by simp), Bool.false_or]
        simp
      rw [e] at k
      exact k
def spTurnG : Sp := fun vs H Q _ => ∃ (a : Option Int) (ih : Nat) (t : M.TW), vs = [ansV a, .int (ih : Int), .str (WP.twS t)] ∧ Q (ansV (M.turnG a ih t)) H
theorem scTg : FnScope ["answer", "inner_head", "tells"] ["answer", "inner_head", "tells"] (defScope sTurnG) := ⟨rfl, rfl, rfl, by decide +kernel, rfl, by decide +kernel, by decide +kernel⟩
theorem ok_turng {f : Addr} {fd : FuncData} (F : Fun K "_turned" "_turned" sTurnG f fd) : FnOk P w K mg base CX0 1 f fd ["answer", "inner_head", "tells"] spTurnG := by
  refine F.ok scTg (fun vs H Q E h => ?_) (fun cdv A outer s H vs Q E hr h => ?_)
  · obtain ⟨a, ih, t, rfl, _⟩ := h
    rfl
  · obtain ⟨a, ih, t, rfl, k⟩ := h
    refine ⟨_, pss_cons (ps_if (PW.pt (pw_or (pt_cmp (pc_isN (pv 0))) (pw_or1 (pt_cmpR (op_ne) (pv 2) (pe_str) (nomark _))))) (pss_one (ps_ret (pe_non))) (pss_nil))
      (pss_one (ps_ret (pe_op op_sub (pv 0) (pv 1)))), ?_⟩
    cases a with
    | none => exact ⟨_, rfl, _, rfl, iteT (iteT k)⟩
    | some z =>
      refine ⟨_, rfl, _, rfl, iteF ⟨_, rfl, rfl, _, rfl, ?_⟩⟩
      cases t with
      | turn => exact iteNS rfl ⟨_, rfl, _, rfl, _, _, rfl, rfl, k⟩
      | keep => exact iteNT nks.2.2.2.2.2.2.2.2.1 k
      | lose => exact iteNT nks.2.2.2.2.2.2.2.2.2 k
def spMostG (C : Addr) : Sp := fun vs H Q _ => ∃ (a : Addr) (most : Nat) (cs : List Nat), vs = [.int (most : Int), .ref a] ∧ ChAt C H cs a ∧ Cuts cs ∧ 1 ≤ most ∧ ∀ D xs H', Same H H' → H D = none → H' D = some (.lst xs) → GsAt H' (M.mostG most cs) xs → Q (.ref D) H'
theorem scMg : FnScope ["most", "chain"] ["most", "chain"] (defScope sMostG) := ⟨rfl, rfl, rfl, by decide +kernel, rfl, by decide +kernel, by decide +kernel⟩
theorem ok_mostg {f : Addr} {fd : FuncData} (F : Fun K "_most_gates" "_most_gates" sMostG f fd) (B : Bn mg) (T : Ct K mg C) (DG : Op P w K mg base C 2 "__getitem__" ["self", "at"] (spCGet C)) : FnOk P w K mg base CX0 4 f fd ["most", "chain"] (spMostG C) := by
  obtain ⟨fG', fdG, GG, OG, bG, fG⟩ := DG.ex
  refine F.ok scMg (fun vs H Q E h => ?_) (fun cdv A outer s H vs Q E hr h => ?_)
  · obtain ⟨a, most, cs, rfl, _⟩ := h
    rfl
  · obtain ⟨a, most, cs, rfl, hc, hl, hm, k⟩ := h
    refine ⟨_, pss_cons (ps_if (pt_cmpR (op_eq) (pe_callB call_len_seq (by rfl) B.len PySem.boot_len (pa_cons (pe_fld (pv 1) rfl) pa_nil)) (pe_int) (nomark _)) (pss_one (ps_ret (pe_lst pa_nil))) (pss_nil))
      (pss_one (ps_ret (pe_lst (pa_cons (pe_tup (pa_cons (pe_tup pa_nil) (pa_cons (WO.pe_ixO GG (hr.mono (by decide)) OG fG bG pass0 (pv 1) (pv 0) (fun _ _ => by with_unfolding_all rfl)) (pa_cons (pe_non) pa_nil)))) pa_nil)))), ?_⟩
    obtain ⟨dx, t, u, h1, h2, h3⟩ := id hc
    refine ⟨_, rfl, a, C, dx, _, _, rfl, h1, T.cl, T.nC, cfl_cuts t u, t, _, rfl, .inr (SqT.of h2), rfl, _, rfl, ?_⟩
    rw [ni_len]
    by_cases e : cs = []
    · subst e
      exact iteT ⟨line2.2.2.2, fun D hD => k D [] _ (of_upd hD) hD upd_same .nil⟩
    · have l1 := List.length_pos_iff.mpr e
      rw [decide_eq_false (fun z => by injection z with z; omega)]
      refine iteF ?_
      first | (unfold tNext; dsimp only) | dsimp only | skip
      refine ⟨line2.2.2.2, fun q hq => ⟨_, rfl, _, rfl, a, rfl, ch_isC (hc.mono (of_upd hq)), a, most, cs, rfl, hc.mono (of_upd hq), hl, hm, e, fun G s1 => ⟨line2.2.1, fun t2 ht2 => ⟨line2.2.2.1, fun D hD => ?_⟩⟩⟩⟩
      have g1 := of_upd (o := .tup []) hq
      have g2 := of_upd (o := .tup [V.ref q, .int ((N.B cs most : Nat) : Int), .non]) ht2
      have g3 := of_upd (o := .lst [V.ref t2]) hD
      have gg := (g1.trans s1).trans g2
      refine k D _ _ (gg.trans g3) (gg.free hD) upd_same ?_
      unfold M.mostG
      rw [if_neg e]
      exact .cons ⟨t2, q, rfl, g3 _ _ upd_same, (g2.trans g3) _ _ (s1 _ _ upd_same)⟩ .nil
def spRoadG (C : Addr) : Sp := fun vs H Q _ => ∃ (t a : Addr) (h size : Nat) (se ts : Bool) (lw : M.LW) (cs : List Nat), vs = [.int (h : Int), .ref t, .ref a, .bl se] ∧ H t = some (.tup [.str "road", .int (size : Int), .str (WP.sdS ts), .str (WP.lwS lw)]) ∧ ChAt C H cs a ∧ ∀ D xs H', Same H H' → H D = none → H' D = some (.lst xs) → GsAt H' (M.roadG se h size ts lw cs) xs → Q (.ref D) H'
abbrev NRg : List Str := ["head", "road", "chain", "sealed", "word", "carried"]
theorem scRg : FnScope NRg ["head", "road", "chain", "sealed"] (defScope sRoadG) := ⟨rfl, rfl, rfl, by decide +kernel, rfl, by decide +kernel, by decide +kernel⟩
theorem ok_roadg {f : Addr} {fd : FuncData} (F : Fun K "_road_gates" "_road_gates" sRoadG f fd) (DW : Df P w K mg base 1 "_word" ["road", "sealed"] spWord) (DL : Df P w K mg base 1 "_leaves_more" ["chain", "stretch"] (spLeaves C)) : FnOk P w K mg base CX0 2 f fd ["head", "road", "chain", "sealed"] (spRoadG C) := by
  obtain ⟨fW, fdW, GW, gW, kW, bW⟩ := DW.ex
  obtain ⟨fL, fdL, GL, gL, kL, bL⟩ := DL.ex
  refine F.ok scRg (fun vs H Q E h => ?_) (fun cdv A outer s H vs Q E hr h => ?_)
  · obtain ⟨t, a, h, size, se, ts, lw, cs, rfl, _⟩ := h
    rfl
  · obtain ⟨t, a, h, size, se, ts, lw, cs, rfl, ht, hc, k⟩ := h
    refine ⟨_, pss_cons (ps_set (i := 4) scRg.nd rfl (Or.inl rfl) (pe_call GW (hr.mono (by decide)) rfl gW kW bW .nil pass0 (pa_cons (pv 1) (pa_cons (pv 3) pa_nil))))
      (pss_cons (ps_set (i := 5) scRg.nd rfl (Or.inl rfl) (pe_op op_sub (pe_ix ix_tup (pv 1) (pe_int) (fun _ _ => rfl)) (pv 0)))
      (pss_cons (ps_if (PW.pt (pw_or (pt_cmpR (op_eq) (pv 4) (pe_str) (nomark _)) (pw_or1 (pt_not (pt_val (pe_call GL (hr.mono (by decide)) rfl gL kL bL .nil pass0 (pa_cons (pv 2) (pa_cons (pv 5) pa_nil)))))))) (pss_one (ps_ret (pe_lst pa_nil))) (pss_nil))
      (pss_one (ps_ret (pe_lst (pa_cons (pe_tup (pa_cons (pe_tup pa_nil) (pa_cons (pv 5) (pa_cons (pe_ifExp (pt_cmpR (op_eq) (pv 4) (pe_str) (nomark _)) (pe_ix ix_tup (pv 1) (pe_int) (fun _ _ => rfl)) pe_non) pa_nil)))) pa_nil)))))), ?_⟩
    have i1 : atI [V.str "road", V.int (size : Int), V.str (WP.sdS ts), V.str (WP.lwS lw)] (1 : Int) = some (.int (size : Int)) := by exact atI_nat (j := 1) rfl
    refine set_then (i := 4) ⟨_, rfl, _, rfl, t, se, ts, lw, size, rfl, ht, ?_⟩
    refine set_then (i := 5) ⟨_, rfl, t, _, _, _, rfl, rfl, SqT.of ht, i1, _, rfl, _, _, rfl, rfl, ?_⟩
    refine ⟨_, rfl, rfl, _, rfl, ?_⟩
    rw [word_cut]
    have nil_ : M.roadG se h size ts lw cs = [] → tRet (tLst tNil) { nx := fun _ H' => Q .non H', rt := Q } [some (.int (h : Int)), some (.ref t), some (.ref a), some (.bl se), some (.str (wordS se ts lw)), some (.int ((size : Int) - (h : Int)))] H := fun e =>
      ⟨line2.2.2.2, fun D hD => k D [] _ (of_upd hD) hD upd_same (by rw [e]; exact .nil)⟩
    by_cases c1 : se = false ∧ lw = .cut
    · rw [decide_eq_true c1]
      exact iteT (iteT (nil_ (by unfold M.roadG; rw [if_pos (.inl c1)])))
    · rw [decide_eq_false c1]
      refine iteF ⟨_, rfl, _, rfl, a, (size : Int) - (h : Int), cs, rfl, hc, _, rfl, ?_⟩
      cases c2 : M.leaves cs ((size : Int) - (h : Int)) with
      | false => exact iteT (nil_ (by unfold M.roadG; rw [if_pos (.inr c2)]))
      | true =>
        refine iteF ?_
        first | (unfold tNext; dsimp only) | dsimp only | skip
        have fin : ∀ (q : Addr) (ans : Option Int) (G : Hp), Same H G → G q = some (.tup []) → ans = (if (se = true ∧ ts = true) ∨ (se = false ∧ lw = .tell) then some (size : Int) else none) → ∀ t2, G t2 = none → ∀ D, (upd G t2 (.tup [.ref q, .int ((size : Int) - (h : Int)), ansV ans])) D = none → Q (.ref D) (upd (upd G t2 (.tup [.ref q, .int ((size : Int) - (h : Int)), ansV ans])) D (.lst [.ref t2])) := fun q ans G s1 hq ea t2 ht2 D hD => by
          have g2 := of_upd (o := .tup [V.ref q, .int ((size : Int) - (h : Int)), ansV ans]) ht2
          have g3 := of_upd (o := .lst [V.ref t2]) hD
          refine k D _ _ ((s1.trans g2).trans g3) ((s1.trans g2).free hD) upd_same ?_
          unfold M.roadG
          rw [if_neg (by rintro (z | z); exact c1 z; rw [c2] at z; cases z)]
          subst ea
          exact .cons ⟨t2, q, rfl, g3 _ _ upd_same, (g2.trans g3) _ _ hq⟩ .nil
        refine ⟨line2.2.2.2, fun q hq => ⟨_, rfl, _, rfl, rfl, _, rfl, ?_⟩⟩
        rw [word_tell]
        by_cases c3 : (se = true ∧ ts = true) ∨ (se = false ∧ lw = .tell)
        · rw [decide_eq_true c3]
          exact iteT ⟨_, rfl, t, _, _, _, rfl, rfl, SqT.of ((of_upd hq) _ _ ht), i1, line2.2.1, fun t2 ht2 => ⟨line2.2.2.1, fun D hD => fin q (some (size : Int)) _ (of_upd hq) upd_same (by rw [if_pos c3]) t2 ht2 D hD⟩⟩
        · rw [decide_eq_false c3]
          exact iteF ⟨line2.2.1, fun t2 ht2 => ⟨line2.2.2.1, fun D hD => fin q none _ (of_upd hq) upd_same (by rw [if_neg c3]) t2 ht2 D hD⟩⟩
end
end CP

end
section
set_option autoImplicit false
set_option Elab.async false
set_option linter.all false
set_option maxRecDepth 100000
set_option maxHeartbeats 4000000
/-! ## chains_before -/
namespace WP
open PySem L2 G
variable {C : Addr}
theorem head_fld {H : Hp} {wy : M.Way} {a : Addr} (h : WayAt C H wy a) : ∃ dx fs, H a = some (.ins C dx fs) ∧ fs.lookup ("head" : Str) = some (.int ((wy.head : Nat) : Int)) := by
  obtain ⟨wh, ws⟩ := wy
  unfold WayAt at h
  obtain ⟨dx, t, xs, h1, _, _⟩ := h
  exact ⟨dx, _, h1, flds_head _ _ _ _⟩
theorem steps_fld {H : Hp} {wy : M.Way} {a : Addr} (h : WayAt C H wy a) : ∃ dx fs t xs, H a = some (.ins C dx fs) ∧ fs.lookup ("steps" : Str) = some (.ref t) ∧ H t = some (.tup xs) ∧ StepsAt C H wy.steps xs := by
  obtain ⟨wh, ws⟩ := wy
  unfold WayAt at h
  obtain ⟨dx, t, xs, h1, h2, h3⟩ := h
  exact ⟨dx, _, t, xs, h1, flds_steps _ _ _ _, h2, h3⟩
end WP
namespace CP
open PySem L2 G Y
theorem if_then {c : TT} {t1 t2 t3 : TS} {D : Ends} {σ : L2.St} {H : Hp} (Z : L2.St → Hp → Prop) (k : ∀ σ' H', Z σ' H' → t3 D σ' H') (h : (∀ σ' H', Z σ' H' → t3 D σ' H') → tIfS c t1 t2 { D with nx := fun σ' H' => t3 D σ' H' } σ H) : tSeq (tIfS c t1 t2) t3 D σ H := h k
section
variable {P : Program} {w : World} {K : PySem.W.Frag} {mg : Str → Option Value} {base : Heap} {C CW : Addr}
def spChB (C CW : Addr) : Sp := fun vs H Q _ => ∃ (a : Addr) (se : Bool) (wy : M.Way), vs = [.ref a, .bl se] ∧ WP.WayAt CW H wy a ∧ M.Way.fine wy ∧ ∀ D xs H', Same H H' → H D = none → H' D = some (.lst xs) → CsAt C H' (M.chB se wy.head wy.steps []) xs → Q (.ref D) H'
abbrev NCb : List Str := ["way", "sealed", "chain", "chains", "step"]
theorem scCb : FnScope NCb ["way", "sealed"] (defScope sChB) := ⟨rfl, rfl, rfl, by decide +kernel, rfl, by decide +kernel, by decide +kernel⟩
theorem cuts0 : Cuts [] := ⟨trivial, by simp, by simp⟩
theorem ok_chb {f : Addr} {fd : FuncData} {sfC : PySem.W.selfFirst K C = true} (F : Fun K "chains_before" "chains_before" sChB f fd) (T : Ct K mg C) (TW : WP.Wt K mg CW) (MW : Mw P w K mg base C) (DA : Oq P w K mg base C 6 "__add__" ["self", "other"] (spCAdd C)) (DW : Df P w K mg base 1 "_word" ["road", "sealed"] spWord) : FnOk P w K mg base CX0 7 f fd ["way", "sealed"] (spChB C CW) := by
  obtain ⟨fI, fdI, GI, MK, bI⟩ := MW.ex
  obtain ⟨fA, fdA, GA, OA, bA⟩ := DA.ex
  obtain ⟨fW, fdW, GW, gW, kW, bW⟩ := DW.ex
  refine F.ok scCb (fun vs H Q E h => ?_) (fun cdv A outer s H vs Q E hr h => ?_)
  · obtain ⟨a, se, wy, rfl, _⟩ := h
    rfl
  · obtain ⟨a, se, wy, rfl, hw, hf, k⟩ := h
    refine ⟨_, pss_cons (ps_set (i := 2) scCb.nd rfl (Or.inl rfl) (pe_make MK GI (hr.mono (by decide)) rfl T.g bI .nil pass0 (pa_cons (pe_tup pa_nil) pa_nil)))
      (pss_cons (ps_set (i := 3) scCb.nd rfl (Or.inl rfl) (pe_lst (pa_cons (pv 2) pa_nil)))
      (pss_cons (ps_for PassesOwn.never rfl (pi_tup (pe_fld (pv 0) rfl)) (pg_name (i := 4) scCb.nd rfl (Or.inl rfl)) (pss_cons (ps_if (pt_cmpR (op_eq) (pe_ix ix_tup (pv 4) (pe_int) (fun _ _ => rfl)) (pe_str) (nomark _)) (pss_one (ps_set (i := 2) scCb.nd rfl (Or.inl rfl) (pe_make MK GI (hr.mono (by decide)) rfl T.g bI .nil pass0 (pa_cons (pe_tup pa_nil) pa_nil)))) (pss_one (ps_if (PW.pt (pw_and (pt_cmpR (op_eq) (pe_ix ix_tup (pv 4) (pe_int) (fun _ _ => rfl)) (pe_str) (nomark _)) (pw_and1 (pt_cmpR (op_eq) (pe_call GW (hr.mono (by decide)) rfl gW kW bW .nil pass0 (pa_cons (pv 4) (pa_cons (pv 1) pa_nil))) (pe_str) (nomark _))))) (pss_one (ps_set (i := 2) scCb.nd rfl (Or.inl rfl) (pe_op (WO.op_addO GA (hr.mono (by decide)) OA sfC bA pass0) (pv 2) (pe_make MK GI (hr.mono (by decide)) rfl T.g bI .nil pass0 (pa_cons (pe_tup (pa_cons (pe_op op_sub (pe_ix ix_tup (pv 4) (pe_int) (fun _ _ => rfl)) (pe_fld (pv 0) rfl)) pa_nil)) pa_nil))))) (pss_nil))))
      (pss_one (ps_expr (pe_bm PySem.F.plainAttrs_list PySem.F.slot_list_append PySem.F.type_list_append mt_append (pv 3) (pa_cons (pv 2) pa_nil))))))
      (pss_one (ps_ret (pv 3))))), ?_⟩
    obtain ⟨dx, fs, t0, xs0, w1, w2, w3, w4⟩ := WP.steps_fld hw
    obtain ⟨dh, fh, v1, v2⟩ := WP.head_fld hw
    obtain ⟨wh, sts⟩ := wy
    unfold M.Way.fine at hf
    obtain ⟨hh, hl, hall, hdd, hzz⟩ := hf
    have il : xs0.length = sts.length := w4.len
    refine set_then (i := 2) ⟨line2.2.2.2, fun e0 f0 => fun x dx' hx hdx ne => made_ch (cs := []) hx hdx ne (.inr upd_same) cuts0 fun G1 s1 hc => ⟨rfl, ?_⟩⟩
    have s2 := (of_upd (o := .tup []) f0).trans s1
    refine set_then (i := 3) ⟨_, rfl, line2.2.2.1, fun D hD => ?_⟩
    have g := of_upd (o := .lst [V.ref x]) hD
    have s3 := s2.trans g
    have hD0 := s2.free hD
    refine ⟨_, rfl, a, CW, dx, fs, _, rfl, s3 _ _ w1, TW.cl, TW.nS, w2, t0, rfl, ⟨_, SqT.of (s3 _ _ w3)⟩, ?_⟩
    refine for_it walk_tup (fun i σ G => Same H G ∧ ∃ (cx : Addr) (xs : List V) (q4 : Option V), σ = [some (.ref a), some (.bl se), some (.ref cx), some (.ref D), q4] ∧ ChAt C G (M.chE se wh (sts.take i) []) cx ∧ G D = some (.lst xs) ∧ CsAt C G ((M.chB se wh sts []).take (i + 1)) xs)
      ⟨s3, x, [.ref x], _, rfl, hc.mono g, upd_same, ?_⟩ (fun i σ G _ z => SqT.of (z.1 _ _ w3)) ?_ ?_
    · rw [take_snoc (M.chB_at se wh sts [] 0 (Nat.zero_le _))]
      exact .cons (hc.mono g) .nil
    · rintro i v σ G G' hi ⟨s4, cx, xs, q4, rfl, hcx, hx4, hcs⟩ ⟨rfl, hx⟩
      obtain ⟨st, hst, hat⟩ := w4.get hx
      replace hst : sts[i]? = some st := hst
      have hi2 := (List.getElem?_eq_some_iff.mp hst).1
      have hfs := WP.fine_get hall hst
      have ckE : M.Ck (M.chE se wh (sts.take i) []) := M.ck_all M.ck_nil (M.fine_take i hall)
      have eN : M.chE se wh (sts.take (i + 1)) [] = M.nxC se wh (M.chE se wh (sts.take i) []) st := by
        rw [take_snoc hst, M.chE_snoc]
      have ckN := M.ck_nx (se := se) ckE hfs
      have ln := M.chE_len (se := se) (h := wh) (sts.take i) []
      have lxs := hcs.len
      rw [List.length_take, M.chB_len] at lxs
      replace hat := hat.mono s4
      first | dsimp only | skip
      refine if_then (fun σ' G' => Same H G' ∧ ∃ (cx : Addr), σ' = [some (.ref a), some (.bl se), some (.ref cx), some (.ref D), some v] ∧ ChAt C G' (M.chE se wh (sts.take (i + 1)) []) cx ∧ G' D = some (.lst xs) ∧ CsAt C G' ((M.chB se wh sts []).take (i + 1)) xs) ?rest (fun kk => ?_)
      case rest =>
        rintro σ' G' ⟨s5, cx', rfl, hcx', hx5, hcs5⟩
        have kp := put_keepT (o := .lst (xs ++ [.ref cx'])) hx5
        refine ⟨_, rfl, .inl ⟨rfl, _, SqL.of hx5⟩, _, rfl, D, _, _, rfl, rfl, hx5, small1000 (by omega), add_upd hD0 s5, cx', _, _, rfl, hcx'.keep kp, upd_same, ?_⟩
        rw [take_snoc (M.chB_at se wh sts [] (i + 1) hi2)]
        exact (hcs5.keep kp).snoc (hcx'.keep kp)
      generalize M.chE se wh (sts.take i) [] = cs at hcx ckE ckN eN ln
      have kq : ∀ {cs2 : List Nat} {Gq : Hp} {b : Addr}, M.nxC se wh cs st = cs2 → ChAt C Gq cs2 b → ChAt C Gq (M.chE se wh (sts.take (i + 1)) []) b := by
        intro cs2 Gq b e h
        rw [eN, e]
        exact h
      have z0 : ∀ {y0 : V} {ys : List V}, atI (y0 :: ys) (0 : Int) = some y0 := fun {y0 ys} => by exact atI_nat (xs := y0 :: ys) (j := 0) rfl
      cases st with
      | join most =>
        unfold WP.StepAt at hat
        obtain ⟨t, rfl, ht⟩ := hat
        refine ⟨_, rfl, t, _, _, _, rfl, rfl, SqT.of ht, z0, rfl, _, rfl, ?_⟩
        rw [decide_eq_true rfl]
        refine iteT ⟨line2.2.2.2, fun e1 f1 => fun x1 dx1 hx1 hdx1 ne1 => made_ch (cs := []) hx1 hdx1 ne1 (.inr upd_same) cuts0 fun G5 s5 hc5 => ⟨rfl, ?_⟩⟩
        have s6 := (of_upd (o := .tup []) f1).trans s5
        exact kk _ _ ⟨s4.trans s6, x1, rfl, kq rfl hc5, s6 _ _ hx4, hcs.mono s6⟩
      | tunnel wi most tw =>
        unfold WP.StepAt at hat
        obtain ⟨t, ai, rfl, ht, _⟩ := hat
        refine ⟨_, rfl, t, _, _, _, rfl, rfl, SqT.of ht, z0, rfl, _, rfl, ?_⟩
        rw [decide_eq_false nks.2.2.2.2.2.1]
        refine iteF ⟨_, rfl, t, _, _, _, rfl, rfl, SqT.of ht, z0, rfl, _, rfl, ?_⟩
        rw [decide_eq_false nks.2.2.2.2.2.2.1]
        exact iteF (iteF (kk _ _ ⟨s4, cx, rfl, kq rfl hcx, hx4, hcs⟩))
      | road size ts lw =>
        unfold WP.StepAt at hat
        unfold M.Step.fine at hfs
        obtain ⟨t, rfl, ht⟩ := hat
        refine ⟨_, rfl, t, _, _, _, rfl, rfl, SqT.of ht, z0, rfl, _, rfl, ?_⟩
        rw [decide_eq_false nks.2.2.2.2.1]
        refine iteF ⟨_, rfl, t, _, _, _, rfl, rfl, SqT.of ht, z0, rfl, _, rfl, ?_⟩
        rw [decide_eq_true rfl]
        refine iteT ⟨_, rfl, _, rfl, t, se, ts, lw, size, rfl, ht, rfl, _, rfl, ?_⟩
        rw [word_cut]
        by_cases c : se = false ∧ lw = .cut
        · rw [decide_eq_true c]
          have en : M.nxC se wh cs (.road size ts lw) = N.add cs [size - wh] := by
            unfold M.nxC
            dsimp only
            rw [if_pos c]
          rw [en] at ckN
          have c1 : Cuts [size - wh] := ⟨⟨by omega, (fun d hd => by cases hd), trivial⟩, fun d hd => by rw [List.mem_singleton.mp hd]; omega, by simp⟩
          have i1 : atI [V.str "road", V.int (size : Int), V.str (WP.sdS ts), V.str (WP.lwS lw)] (1 : Int) = some (.int (size : Int)) := by exact atI_nat (j := 1) rfl
          have et : [V.int ((size : Int) - (wh : Int))] = ni [size - wh] := by
            show _ = [V.int ((size - wh : Nat) : Int)]
            rw [show ((size - wh : Nat) : Int) = (size : Int) - (wh : Int) by omega]
          refine iteT ⟨_, rfl, _, rfl, t, _, _, _, rfl, rfl, SqT.of ht, i1, _, rfl, a, CW, dh, fh, _, rfl, s4 _ _ v1, TW.cl, TW.nH, v2, _, _, rfl, rfl, line2.2.2.1, fun e1 f1 => fun x1 dx1 hx1 hdx1 ne1 => made_ch (cs := [size - wh]) hx1 hdx1 ne1 (.inr (by rw [← et]; exact upd_same)) c1 fun G5 s5 hc5 => ⟨rfl, ?_⟩⟩
          have s6 := (of_upd (o := .tup [V.int ((size : Int) - (wh : Int))]) f1).trans s5
          have hcx6 := hcx.mono s6
          refine ⟨cx, x1, rfl, rfl, ch_isC hcx6, ch_isC hc5, cx, x1, cs, [size - wh], rfl, hcx6, hc5, ck_cuts ckE, c1, ?_, fun x2 G6 s7 hc6 => ⟨x2, rfl, kk _ _ ⟨(s4.trans s6).trans s7, x2, rfl, kq en hc6, (s6.trans s7) _ _ hx4, hcs.mono (s6.trans s7)⟩⟩⟩
          have := List.length_take_le i sts
          simp at ln
          show cs.length + 1 ≤ 1000
          omega
        · rw [decide_eq_false c]
          have en : M.nxC se wh cs (.road size ts lw) = cs := by
            unfold M.nxC
            dsimp only
            rw [if_neg c]
          exact iteF (kk _ _ ⟨s4, cx, rfl, kq en hcx, hx4, hcs⟩)
    · rintro σ G ⟨s4, cx, xs, q4, rfl, hcx, hx4, hcs⟩
      rw [il, List.take_of_length_le (by rw [M.chB_len]; exact Nat.le_refl _)] at hcs
      exact ⟨_, rfl, k D xs G s4 hD0 hx4 hcs⟩
end
end CP

end
section
set_option autoImplicit false
set_option Elab.async false
set_option linter.all false
set_option maxRecDepth 100000
set_option maxHeartbeats 4000000
/-! ## gates, by depth -/
namespace M
def Step.dep : Step → Nat
  | .tunnel w _ _ => w.depth
  | .road _ _ _ => 0
  | .join _ => 0
theorem deep_cons : ∀ (s : Step) (r : List Step), Step.deepest (s :: r) = max (Step.dep s) (Step.deepest r)
  | .tunnel w a b, r => by
    conv => lhs; unfold Step.deepest
    rfl
  | .road a b c, r => by
    conv => lhs; unfold Step.deepest
    exact (Nat.zero_max _).symm
  | .join a, r => by
    conv => lhs; unfold Step.deepest
    exact (Nat.zero_max _).symm
theorem dep_le : ∀ {s : List Step} {i : Nat} {x : Step}, s[i]? = some x → Step.dep x ≤ Step.deepest s
  | [], i, x, h => by cases h
  | y :: r, 0, x, h => by
    have e : y = x := Option.some.inj h
    rw [deep_cons, e]
    omega
  | y :: r, i + 1, x, h => by
    have := dep_le (s := r) (i := i) (x := x) h
    rw [deep_cons]
    omega
theorem depth_pos (wy : Way) : 1 ≤ wy.depth := by
  obtain ⟨h, s⟩ := wy
  unfold Way.depth
  omega
theorem tun_app (h ih : Nat) (t : TW) (cs : List Nat) (l m : List Gate) : tunG h ih t cs (l ++ m) = tunG h ih t cs l ++ tunG h ih t cs m := by
  unfold tunG
  rw [List.flatMap_append]
theorem chB_last (se : Bool) (h : Nat) : ∀ (s : List Step) (cs : List Nat), ∃ X, chB se h s cs = X ++ [chE se h s cs]
  | [], cs => ⟨[], rfl⟩
  | x :: s, cs => by
    obtain ⟨X, e⟩ := chB_last se h s (nxC se h cs x)
    exact ⟨cs :: X, by show cs :: chB se h s (nxC se h cs x) = _; rw [e]; rfl⟩
theorem tun_mem {h ih : Nat} {t : TW} {cs : List Nat} {l : List Gate} {g : Gate} (m : g ∈ tunG h ih t cs l) : ∃ g0 ∈ l, g.place = g0.place := by
  unfold tunG at m
  obtain ⟨g0, h0, h1⟩ := List.mem_flatMap.mp m
  unfold tunG1 at h1
  split at h1
  · exact ⟨g0, h0, by rw [List.mem_singleton.mp h1]⟩
  · cases h1
theorem most_mem {m : Nat} {cs : List Nat} {g : Gate} (h : g ∈ mostG m cs) : g.place = [] := by
  unfold mostG at h
  split at h
  · cases h
  · rw [List.mem_singleton.mp h]
theorem road_mem {se : Bool} {h size : Nat} {ts : Bool} {lw : LW} {cs : List Nat} {g : Gate} (m : g ∈ roadG se h size ts lw cs) : g.place = [] := by
  unfold roadG at m
  split at m
  · cases m
  · rw [List.mem_singleton.mp m]
mutual
theorem Way.plen (se : Bool) : ∀ (w : Way), ∀ g ∈ Way.gates se w, g.place.length ≤ w.depth
  | .mk h s, g, m => by
    unfold Way.gates at m
    unfold Way.depth
    exact Step.plenAll se h s 0 [] g m
theorem Step.plenAll (se : Bool) (h : Nat) : ∀ (s : List Step) (i : Nat) (cs : List Nat), ∀ g ∈ Step.gatesAll se h s i cs, g.place.length ≤ 1 + Step.deepest s
  | [], i, cs, g, m => by
    unfold Step.gatesAll at m
    cases m
  | s :: r, i, cs, g, m => by
    rw [gatesAll_cons] at m
    rw [deep_cons]
    rcases List.mem_append.mp m with m | m
    · obtain ⟨g0, m0, rfl⟩ := List.mem_map.mp m
      have := Step.plen se h s cs g0 m0
      show g0.place.length + 1 ≤ _
      omega
    · have := Step.plenAll se h r (i + 1) _ g m
      omega
theorem Step.plen (se : Bool) (h : Nat) : ∀ (s : Step) (cs : List Nat), ∀ g ∈ Step.gates se h s cs, g.place.length ≤ Step.dep s
  | .road size ts lw, cs, g, m => by
    unfold Step.gates at m
    rw [road_mem m]
    exact Nat.zero_le _
  | .join most, cs, g, m => by
    unfold Step.gates at m
    rw [most_mem m]
    exact Nat.zero_le _
  | .tunnel w most t, cs, g, m => by
    unfold Step.gates at m
    obtain ⟨g0, m0, e⟩ := tun_mem m
    rw [e]
    unfold Step.dep
    rcases List.mem_append.mp m0 with m0 | m0
    · exact Way.plen se w g0 m0
    · rw [most_mem m0]
      exact Nat.zero_le _
end
end M
namespace CP
open PySem L2 G Y
abbrev sTunG : Stmt := S.top 34
abbrev sGAt : Stmt := S.top 30
abbrev sGates : Stmt := S.top 26
section
variable {α : Type}
def g11 : List α → List α → List α
  | [a], [c] => [a, c]
  | _, _ => []
end
theorem rel11 {vs : List V} {us : List Value} {zs : List V} {ws : List Value} (r : Vals vs us) (rz : Vals zs ws) : Vals (g11 vs zs) (g11 us ws) := by
  cases r with
  | nil => exact .nil
  | cons r1 r => cases r with
    | nil => cases rz with
      | nil => exact .nil
      | cons z1 rz => cases rz with
        | nil => exact .cons r1 (.cons z1 .nil)
        | cons _ _ => exact .nil
    | cons _ _ => cases rz <;> exact .nil
theorem CsAt.last {C : Addr} {H : Hp} {c : List Nat} : ∀ {l : List (List Nat)} {xs : List V}, CsAt C H (l ++ [c]) xs → ∃ r a, xs = r ++ [.ref a] ∧ ChAt C H c a
  | [], xs, h => by
    cases h with
    | cons e h2 =>
      cases h2
      exact ⟨[], _, rfl, e⟩
  | x :: l, xs, h => by
    cases h with
    | cons e h2 =>
      obtain ⟨r, a, rfl, h3⟩ := CsAt.last (l := l) h2
      exact ⟨_ :: r, a, rfl, h3⟩
section
variable {P : Program} {w : World} {K : PySem.W.Frag} {mg : Str → Option Value} {base : Heap} {C CW : Addr}
/-- a def called with one argument and one keyword -/
structure Dg (P : Program) (w : World) (K : PySem.W.Frag) (mg : Str → Option Value) (base : Heap) (k : Nat) (x : Str) (ps ks : List Str) (sp : Sp) : Prop where
  ex : ∃ (f : Addr) (fd : FuncData), FnOk P w K mg base CX0 k f fd ps sp ∧ mg x = some (.ref f) ∧ PySem.W.keepIn K (.ref f) = true ∧ KBinds K fd ps ks g11 g11
def spGates (CW : Addr) (n : Nat) : Sp := fun vs H Q _ => ∃ (a : Addr) (se : Bool) (wy : M.Way), vs = [.ref a, .bl se] ∧ WP.WayAt CW H wy a ∧ M.Way.fine wy ∧ wy.depth ≤ n ∧ ∀ D xs H', Same H H' → H D = none → H' D = some (.lst xs) → GsAt H' (M.Way.gates se wy) xs → Q (.ref D) H'
def spTunG (C CW : Addr) (n : Nat) : Sp := fun vs H Q _ => ∃ (t a ai : Addr) (h : Nat) (se : Bool) (wi : M.Way) (most : Nat) (tw : M.TW) (cs : List Nat), vs = [.int (h : Int), .ref t, .ref a, .bl se] ∧ H t = some (.tup [.str "tunnel", .ref ai, .int (most : Int), .str (WP.twS tw)]) ∧ ChAt C H cs a ∧ WP.WayAt CW H wi ai ∧ M.Way.fine wi ∧ wi.depth ≤ n ∧ 1 ≤ most ∧
  ∀ D xs H', Same H H' → H D = none → H' D = some (.lst xs) → GsAt H' (M.tunG h wi.head tw cs (M.Way.gates se wi ++ M.mostG most (M.chE se wi.head wi.steps []))) xs → Q (.ref D) H'
def spGsAt (C CW : Addr) (n : Nat) : Sp := fun vs H Q _ => ∃ (v : V) (a : Addr) (h : Nat) (se : Bool) (st : M.Step) (cs : List Nat), vs = [.int (h : Int), v, .ref a, .bl se] ∧ WP.StepAt CW H st v ∧ M.Step.fine h st ∧ M.Step.dep st ≤ n ∧ ChAt C H cs a ∧ Cuts cs ∧
  ∀ D xs H', Same H H' → H D = none → H' D = some (.lst xs) → GsAt H' (M.Step.gates se h st cs) xs → Q (.ref D) H'
abbrev NTn : List Str := ["head", "tunnel", "chain", "sealed", "_", "inner", "most", "tells", "inside", "found", "place", "threshold", "answer", "stretch"]
theorem scTn : FnScope NTn ["head", "tunnel", "chain", "sealed"] (defScope sTunG) := ⟨rfl, rfl, rfl, by decide +kernel, rfl, by decide +kernel, by decide +kernel⟩
theorem fine_all {wy : M.Way} (h : wy.fine) : M.Step.fineAll wy.head wy.steps ∧ wy.steps.length ≤ 12 ∧ wy.size ≤ 40 := by
  obtain ⟨wh, s⟩ := wy
  unfold M.Way.fine at h
  refine ⟨h.2.2.1, h.2.1.2, ?_⟩
  unfold M.Way.size
  exact h.2.2.2.2
theorem ok_tung {k n : Nat} {f : Addr} {fd : FuncData} (F : Fun K "_tunnel_gates" "_tunnel_gates" sTunG f fd) (hk : 8 ≤ k) (B : Bn mg) (TW : WP.Wt K mg CW) (nP : ∃ t, mg "NOTHING_PASSES" = some (.int (-1) t)) (DW : Dg P w K mg base k "gates" ["way", "sealed"] ["sealed"] (spGates CW n)) (DM : Df P w K mg base 4 "_most_gates" ["most", "chain"] (spMostG C))
    (DC : Df P w K mg base 7 "chains_before" ["way", "sealed"] (spChB C CW)) (DL : Df P w K mg base 1 "_leaves_more" ["chain", "stretch"] (spLeaves C)) (DT : Df P w K mg base 1 "_turned" ["answer", "inner_head", "tells"] spTurnG) : FnOk P w K mg base CX0 (k + 1) f fd ["head", "tunnel", "chain", "sealed"] (spTunG C CW n) := by
  obtain ⟨fW, fdW, GW, gW, kW, bW⟩ := DW.ex
  obtain ⟨fM, fdM, GM, gM, kM, bM⟩ := DM.ex
  obtain ⟨fC, fdC, GC, gC, kC, bC⟩ := DC.ex
  obtain ⟨fL, fdL, GL, gL, kL, bL⟩ := DL.ex
  obtain ⟨fT, fdT, GT, gT, kT, bT⟩ := DT.ex
  obtain ⟨tnP, nP⟩ := nP
  refine F.ok scTn (fun vs H Q E h => ?_) (fun cdv A outer s H vs Q E hr h => ?_)
  · obtain ⟨t, a, ai, h, se, wi, most, tw, cs, rfl, _⟩ := h
    rfl
  · obtain ⟨t, a, ai, h, se, wi, most, tw, cs, rfl, ht, hc, hw, hf, hd, hm, kk⟩ := h
    refine ⟨_, pss_cons (ps_asg (pv 1) (pg_tup (by rfl) (pgs_cons (pg_name (i := 4) scTn.nd rfl (Or.inl rfl)) (pgs_cons (pg_name (i := 5) scTn.nd rfl (Or.inl rfl)) (pgs_cons (pg_name (i := 6) scTn.nd rfl (Or.inl rfl)) (pgs_cons (pg_name (i := 7) scTn.nd rfl (Or.inl rfl)) pgs_nil))))))
      (pss_cons (ps_set (i := 8) scTn.nd rfl (Or.inl rfl) (pe_op op_cat (pe_callK GW (hr.mono (by omega)) rfl gW kW bW pass0 (pa_cons (pv 5) pa_nil) (pk_cons (pv 3) pk_nil)) (pe_call GM (hr.mono (by omega)) rfl gM kM bM .nil pass0 (pa_cons (pv 6) (pa_cons (pe_ix ix_list (pe_call GC (hr.mono (by omega)) rfl gC kC bC .nil pass0 (pa_cons (pv 5) (pa_cons (pv 3) pa_nil))) (pe_un un_neg pe_int) (fun _ _ => rfl)) pa_nil)))))
      (pss_cons (ps_set (i := 9) scTn.nd rfl (Or.inl rfl) (pe_lst pa_nil))
      (pss_cons (ps_for PassesOwn.never rfl (pi_list (pv 8)) (pg_tup (by rfl) (pgs_cons (pg_name (i := 10) scTn.nd rfl (Or.inl rfl)) (pgs_cons (pg_name (i := 11) scTn.nd rfl (Or.inl rfl)) (pgs_cons (pg_name (i := 12) scTn.nd rfl (Or.inl rfl)) pgs_nil)))) (pss_cons (ps_set (i := 13) scTn.nd rfl (Or.inl rfl) (pe_op op_sub (pv 11) (pv 0)))
      (pss_one (ps_if (pt_val (pe_call GL (hr.mono (by omega)) rfl gL kL bL .nil pass0 (pa_cons (pv 2) (pa_cons (pv 13) pa_nil)))) (pss_one (ps_expr (pe_bm PySem.F.plainAttrs_list PySem.F.slot_list_append PySem.F.type_list_append mt_append (pv 9) (pa_cons (pe_tup (pa_cons (pv 10) (pa_cons (pe_callB (call_max2 rfl) (by rfl) B.max (by decide +kernel) (pa_cons (pv 13) (pa_cons (pe_glob (v := .int (-1)) rfl nP ⟨_, rfl⟩) pa_nil))) (pa_cons (pe_call GT (hr.mono (by omega)) rfl gT kT bT .nil pass0 (pa_cons (pv 12) (pa_cons (pe_fld (pv 5) rfl) (pa_cons (pv 7) pa_nil)))) pa_nil)))) pa_nil)))) (pss_nil)))))
      (pss_one (ps_ret (pv 9)))))), ?_⟩
    obtain ⟨dh, fh, v1, v2⟩ := WP.head_fld hw
    obtain ⟨fa, fl, fz⟩ := fine_all hf
    have ckE : M.Ck (M.chE se wi.head wi.steps []) := M.ck_all M.ck_nil fa
    refine ⟨_, rfl, t, _, rfl, SqT.of ht, rfl, _, _, rfl, _, _, rfl, _, _, rfl, _, _, rfl, rfl, ?_⟩
    dsimp only
    refine set_then (i := 8) ⟨_, rfl, _, rfl, ai, se, wi, rfl, hw, hf, hd, fun D1 xs1 H1 s1 n1 e1 g1 => ?_⟩
    refine ⟨_, rfl, _, rfl, _, rfl, ai, se, wi, rfl, hw.mono s1, hf, fun D2 xs2 H2 s2 n2 e2 g2 => ?_⟩
    obtain ⟨X, eX⟩ := M.chB_last se wi.head wi.steps []
    rw [eX] at g2
    obtain ⟨r2, a2, rfl, hc2⟩ := g2.last
    refine ⟨_, rfl, D2, _, _, _, rfl, rfl, SqL.of e2, atI_last _ _, ?_⟩
    refine ⟨a2, most, _, rfl, hc2, ck_cuts ckE, hm, fun D3 xs3 H3 s3 n3 e3 g3 => ?_⟩
    have s13 := s2.trans s3
    have l1 := g1.len
    have l3 := g3.len
    have m1 := M.Way.gates_len se wi
    have m3 := M.most_len most (M.chE se wi.head wi.steps [])
    refine ⟨D1, D3, xs1, xs3, rfl, rfl, s13 _ _ e1, e3, Nat.le_trans (show xs1.length + xs3.length ≤ 1000 by omega) (by decide), fun D4 n4 => ?_⟩
    have s4 := of_upd (o := .lst (xs1 ++ xs3)) n4
    have s14 := s13.trans s4
    have s04 := s1.trans s14
    have gA : GsAt (upd H3 D4 (.lst (xs1 ++ xs3))) (M.Way.gates se wi ++ M.mostG most (M.chE se wi.head wi.steps [])) (xs1 ++ xs3) := (g1.mono s14).app (g3.mono s4)
    have lA : (M.Way.gates se wi ++ M.mostG most (M.chE se wi.head wi.steps [])).length ≤ 81 := by
      rw [List.length_append]
      omega
    have lX : (xs1 ++ xs3).length = (M.Way.gates se wi ++ M.mostG most (M.chE se wi.head wi.steps [])).length := gA.len
    generalize M.Way.gates se wi ++ M.mostG most (M.chE se wi.head wi.steps []) = gs at gA kk lA lX
    generalize xs1 ++ xs3 = xs at s4 s14 s04 gA lX
    have eI : upd H3 D4 (.lst xs) D4 = some (.lst xs) := upd_same
    generalize upd H3 D4 (.lst xs) = H4 at s4 s14 s04 gA eI
    refine set_then (i := 9) ⟨line2.2.2.2, fun D hD => ?_⟩
    have nD : H D = none := s04.free hD
    have nE : D4 ≠ D := fun z => by
      rw [z, hD] at eI
      cases eI
    have s5 := of_upd (o := .lst []) hD
    refine ⟨_, rfl, D4, rfl, ⟨_, SqL.of (s5 _ _ eI)⟩, ?_⟩
    refine for_it walk_list (fun i σ G => Same H G ∧ G D4 = some (.lst xs) ∧ GsAt G gs xs ∧ ∃ (ys : List V) (p q r o : Option V), σ = [some (.int (h : Int)), some (.ref t), some (.ref a), some (.bl se), some (.str "tunnel"), some (.ref ai), some (.int (most : Int)), some (.str (WP.twS tw)), some (.ref D4), some (.ref D), p, q, r, o] ∧ G D = some (.lst ys) ∧ GsAt G (M.tunG h wi.head tw cs (gs.take i)) ys)
      ⟨s04.trans s5, s5 _ _ eI, gA.mono s5, [], _, _, _, _, rfl, upd_same, .nil⟩ (fun i σ G _ z => SqL.of z.2.1) ?_ ?_
    · rintro i v σ G G' hi ⟨s6, e6, gG, ys, p, q, r, o, rfl, eD, gD⟩ ⟨rfl, hx⟩
      obtain ⟨g, hg, t1, q1, rfl, f1, f2⟩ := gG.get hx
      have eT : M.tunG h wi.head tw cs (gs.take (i + 1)) = M.tunG h wi.head tw cs (gs.take i) ++ M.tunG1 h wi.head tw cs g := by
        rw [take_snoc hg, M.tun_app]
        unfold M.tunG
        rw [List.flatMap_singleton]
      have lD := gD.len
      have lT := M.tun_len h wi.head tw cs (gs.take i)
      have lK := List.length_take_le i gs
      refine ⟨t1, _, rfl, SqT.of f1, rfl, _, _, rfl, _, _, rfl, _, _, rfl, rfl, ?_⟩
      refine set_then (i := 13) ⟨_, rfl, _, rfl, _, _, rfl, rfl, ?_⟩
      refine ⟨_, rfl, _, rfl, a, g.thr - (h : Int), cs, rfl, hc.mono s6, _, rfl, ?_⟩
      cases c2 : M.leaves cs (g.thr - (h : Int)) with
      | false =>
        refine iteF ⟨s6, e6, gG, ys, _, _, _, _, rfl, eD, ?_⟩
        rw [eT]
        unfold M.tunG1
        rw [if_neg (by rw [c2]; decide), List.append_nil]
        exact gD
      | true =>
        refine iteT ⟨_, rfl, .inl ⟨rfl, _, SqL.of eD⟩, ?_⟩
        refine ⟨_, rfl, _, rfl, _, _, rfl, ?_⟩
        have emx : (if (-1 : Int) > g.thr - (h : Int) then (-1 : Int) else g.thr - (h : Int)) = max (g.thr - (h : Int)) (-1) := by
          split <;> omega
        rw [emx]
        refine ⟨_, rfl, _, rfl, ai, CW, dh, fh, _, rfl, s6 _ _ v1, TW.cl, TW.nH, v2, _, rfl, g.ans, wi.head, tw, rfl, ?_⟩
        refine ⟨line2.2.1, fun t2 ht2 => ?_⟩
        have g2 := of_upd (o := .tup [V.ref q1, .int (max (g.thr - (h : Int)) (-1)), ansV (M.turnG g.ans wi.head tw)]) ht2
        have eD2 := g2 _ _ eD
        have kp := put_keepT (o := .lst (ys ++ [.ref t2])) eD2
        refine ⟨D, ys, _, rfl, rfl, eD2, small1000 (by omega), add_upd nD (s6.trans g2), ?_, (gG.mono g2).keep kp, _, _, _, _, _, rfl, upd_same, ?_⟩
        · rw [upd_ne nE]
          exact g2 _ _ e6
        · rw [eT]
          unfold M.tunG1
          rw [if_pos c2]
          exact ((gD.mono g2).keep kp).snoc ⟨t2, q1, rfl, kp _ _ (fun _ z => by cases z) upd_same, kp _ _ (fun _ z => by cases z) (g2 _ _ f2)⟩
    · rintro σ G ⟨s6, e6, gG, ys, p, q, r, o, rfl, eD, gD⟩
      rw [lX, List.take_length] at gD
      exact ⟨_, rfl, kk D ys G s6 nD eD gD⟩
theorem scGa : FnScope ["head", "step", "chain", "sealed"] ["head", "step", "chain", "sealed"] (defScope sGAt) := ⟨rfl, rfl, rfl, by decide +kernel, rfl, by decide +kernel, by decide +kernel⟩
theorem ok_gsat {k n : Nat} {f : Addr} {fd : FuncData} (F : Fun K "_gates_at" "_gates_at" sGAt f fd) (hk : 4 ≤ k) (DR : Df P w K mg base 2 "_road_gates" ["head", "road", "chain", "sealed"] (spRoadG C)) (DM : Df P w K mg base 4 "_most_gates" ["most", "chain"] (spMostG C))
    (DU : Df P w K mg base k "_tunnel_gates" ["head", "tunnel", "chain", "sealed"] (spTunG C CW n)) : FnOk P w K mg base CX0 (k + 1) f fd ["head", "step", "chain", "sealed"] (spGsAt C CW n) := by
  obtain ⟨fR, fdR, GR, gR, kR, bR⟩ := DR.ex
  obtain ⟨fM, fdM, GM, gM, kM, bM⟩ := DM.ex
  obtain ⟨fU, fdU, GU, gU, kU, bU⟩ := DU.ex
  refine F.ok scGa (fun vs H Q E h => ?_) (fun cdv A outer s H vs Q E hr h => ?_)
  · obtain ⟨v, a, h, se, st, cs, rfl, _⟩ := h
    rfl
  · obtain ⟨v, a, h, se, st, cs, rfl, hat, hf, hd, hc, hl, kk⟩ := h
    refine ⟨_, pss_cons (ps_if (pt_cmpR (op_eq) (pe_ix ix_tup (pv 1) (pe_int) (fun _ _ => rfl)) (pe_str) (nomark _)) (pss_one (ps_ret (pe_call GR (hr.mono (by omega)) rfl gR kR bR .nil pass0 (pa_cons (pv 0) (pa_cons (pv 1) (pa_cons (pv 2) (pa_cons (pv 3) pa_nil))))))) (pss_nil))
      (pss_cons (ps_if (pt_cmpR (op_eq) (pe_ix ix_tup (pv 1) (pe_int) (fun _ _ => rfl)) (pe_str) (nomark _)) (pss_one (ps_ret (pe_call GM (hr.mono (by omega)) rfl gM kM bM .nil pass0 (pa_cons (pe_ix ix_tup (pv 1) (pe_int) (fun _ _ => rfl)) (pa_cons (pv 2) pa_nil))))) (pss_nil))
      (pss_one (ps_ret (pe_call GU (hr.mono (by omega)) rfl gU kU bU .nil pass0 (pa_cons (pv 0) (pa_cons (pv 1) (pa_cons (pv 2) (pa_cons (pv 3) pa_nil)))))))), ?_⟩
    have z0 : ∀ {y0 : V} {ys : List V}, atI (y0 :: ys) (0 : Int) = some y0 := fun {y0 ys} => by exact atI_nat (xs := y0 :: ys) (j := 0) rfl
    unfold M.Step.gates at kk
    cases st with
    | road size ts lw =>
      unfold WP.StepAt at hat
      obtain ⟨t, rfl, ht⟩ := hat
      refine ⟨_, rfl, t, _, _, _, rfl, rfl, SqT.of ht, z0, rfl, _, rfl, ?_⟩
      rw [decide_eq_true rfl]
      exact iteT ⟨_, rfl, _, rfl, _, rfl, _, rfl, t, a, h, size, se, ts, lw, cs, rfl, ht, hc, kk⟩
    | join most =>
      unfold WP.StepAt at hat
      unfold M.Step.fine at hf
      obtain ⟨t, rfl, ht⟩ := hat
      have i1 : atI [V.str "join", V.int (most : Int)] (1 : Int) = some (.int (most : Int)) := by exact atI_nat (j := 1) rfl
      refine ⟨_, rfl, t, _, _, _, rfl, rfl, SqT.of ht, z0, rfl, _, rfl, ?_⟩
      rw [decide_eq_false nks.2.2.2.2.2.2.2.1]
      refine iteF ⟨_, rfl, t, _, _, _, rfl, rfl, SqT.of ht, z0, rfl, _, rfl, ?_⟩
      rw [decide_eq_true rfl]
      exact iteT ⟨_, rfl, t, _, _, _, rfl, rfl, SqT.of ht, i1, _, rfl, a, most, cs, rfl, hc, hl, hf.1, kk⟩
    | tunnel wi most tw =>
      unfold WP.StepAt at hat
      unfold M.Step.fine at hf
      obtain ⟨t, ai, rfl, ht, hwi⟩ := hat
      refine ⟨_, rfl, t, _, _, _, rfl, rfl, SqT.of ht, z0, rfl, _, rfl, ?_⟩
      rw [decide_eq_false nks.2.2.2.2.2.2.1]
      refine iteF ⟨_, rfl, t, _, _, _, rfl, rfl, SqT.of ht, z0, rfl, _, rfl, ?_⟩
      rw [decide_eq_false nks.2.2.2.2.2.1]
      exact iteF ⟨_, rfl, _, rfl, _, rfl, _, rfl, t, a, ai, h, se, wi, most, tw, cs, rfl, ht, hc, hwi, hf.1, hd, hf.2.1, kk⟩
abbrev NGt : List Str := ["way", "sealed", "found", "chains", "position", "step", "place", "threshold", "answer"]
theorem scGt : FnScope NGt ["way", "sealed"] (defScope sGates) := ⟨rfl, rfl, rfl, by decide +kernel, rfl, by decide +kernel, by decide +kernel⟩
theorem ok_gates {k n : Nat} {f : Addr} {fd : FuncData} (F : Fun K "gates" "gates" sGates f fd) (hk : 7 ≤ k) (hn : n ≤ 10) (B : Bn mg) (TW : WP.Wt K mg CW) (DC : Df P w K mg base 7 "chains_before" ["way", "sealed"] (spChB C CW)) (DA : Df P w K mg base k "_gates_at" ["head", "step", "chain", "sealed"] (spGsAt C CW n)) :
    FnOk P w K mg base CX0 (k + 1) f fd ["way", "sealed"] (spGates CW (n + 1)) := by
  obtain ⟨fC, fdC, GC, gC, kC, bC⟩ := DC.ex
  obtain ⟨fA, fdA, GA, gA, kA, bA⟩ := DA.ex
  refine F.ok scGt (fun vs H Q E h => ?_) (fun cdv A outer s H vs Q E hr h => ?_)
  · obtain ⟨a, se, wy, rfl, _⟩ := h
    rfl
  · obtain ⟨a, se, wy, rfl, hw, hf, hd, kk⟩ := h
    refine ⟨_, pss_cons (ps_set (i := 2) scGt.nd rfl (Or.inl rfl) (pe_lst pa_nil))
      (pss_cons (ps_set (i := 3) scGt.nd rfl (Or.inl rfl) (pe_call GC (hr.mono (by omega)) rfl gC kC bC .nil pass0 (pa_cons (pv 0) (pa_cons (pv 1) pa_nil))))
      (pss_cons (ps_for PassesOwn.never rfl (WP.pi_et (by rfl) B.enum (pa_cons (pe_fld (pv 0) rfl) pa_nil)) (pg_tup (by rfl) (pgs_cons (pg_name (i := 4) scGt.nd rfl (Or.inl rfl)) (pgs_cons (pg_name (i := 5) scGt.nd rfl (Or.inl rfl)) pgs_nil))) (pss_one (ps_for PassesOwn.never rfl (pi_list (pe_call GA (hr.mono (by omega)) rfl gA kA bA .nil pass0 (pa_cons (pe_fld (pv 0) rfl) (pa_cons (pv 5) (pa_cons (pe_ix ix_list (pv 3) (pv 4) (fun _ _ => rfl)) (pa_cons (pv 1) pa_nil)))))) (pg_tup (by rfl) (pgs_cons (pg_name (i := 6) scGt.nd rfl (Or.inl rfl)) (pgs_cons (pg_name (i := 7) scGt.nd rfl (Or.inl rfl)) (pgs_cons (pg_name (i := 8) scGt.nd rfl (Or.inl rfl)) pgs_nil)))) (pss_one (ps_expr (pe_bm PySem.F.plainAttrs_list PySem.F.slot_list_append PySem.F.type_list_append mt_append (pv 2) (pa_cons (pe_tup (pa_cons (pe_tup (pa_cons (pv 4) (StX.pa_star (pv 6) pa_nil))) (pa_cons (pv 7) (pa_cons (pv 8) pa_nil)))) pa_nil)))))))
      (pss_one (ps_ret (pv 2))))), ?_⟩
    obtain ⟨dx, fs, t0, xs0, w1, w2, w3, w4⟩ := WP.steps_fld hw
    obtain ⟨dh, fh, v1, v2⟩ := WP.head_fld hw
    have gl := M.Way.gates_len se wy
    obtain ⟨fall, fl12, fz⟩ := fine_all hf
    obtain ⟨wh, sts⟩ := wy
    have ckE : ∀ i, M.Ck (M.chE se wh (sts.take i) []) := fun i => M.ck_all M.ck_nil (M.fine_take i fall)
    have il : xs0.length = sts.length := w4.len
    unfold M.Way.depth at hd
    unfold M.Way.gates at kk gl
    refine set_then (i := 2) ⟨line2.2.2.2, fun D hD => ?_⟩
    have s1 := of_upd (o := .lst []) hD
    have eD0 : upd H D (.lst []) D = some (.lst []) := upd_same
    refine set_then (i := 3) ⟨_, rfl, _, rfl, a, se, .mk wh sts, rfl, hw.mono s1, hf, fun D2 xs2 H2 s2 n2 e2 g2 => ?_⟩
    have nE : D2 ≠ D := fun z => by
      rw [z, eD0] at n2
      cases n2
    have s3 := s1.trans s2
    refine ⟨_, rfl, a, CW, dx, fs, _, rfl, s3 _ _ w1, TW.cl, TW.nS, w2, t0, xs0, rfl, SqT.of (s3 _ _ w3), ?_⟩
    refine for_it WP.walk_et (fun i σ G => Same H G ∧ G D2 = some (.lst xs2) ∧ CsAt C G (M.chB se wh sts []) xs2 ∧ ∃ (ys : List V) (done : List M.Gate) (p q r o u : Option V), σ = [some (.ref a), some (.bl se), some (.ref D), some (.ref D2), p, q, r, o, u] ∧ G D = some (.lst ys) ∧ GsAt G done ys ∧ M.Step.gatesAll se wh sts 0 [] = done ++ M.Step.gatesAll se wh (sts.drop i) i (M.chE se wh (sts.take i) []))
      ⟨s3, e2, g2, [], [], _, _, _, _, _, rfl, s2 _ _ eD0, .nil, rfl⟩ (fun i σ G _ z => SqT.of (z.1 _ _ w3)) ?_ ?_
    · rintro i v σ G G' hi ⟨s4, e4, c4, ys, done, p, q, r, o, u, rfl, eD, gD, eq⟩ ⟨tt, x1, x2, rfl, nt, rfl, e1, hx⟩
      cases e1
      obtain ⟨st, hst, hat⟩ := w4.get hx
      have hst2 : sts[i]? = some st := hst
      have hi2 := (List.getElem?_eq_some_iff.mp hst2).1
      have hat : WP.StepAt CW H st x2 := hat
      have g5 := of_upd (o := .tup [V.int (i : Nat), x2]) nt
      have s5 : Same H (upd G tt (.tup [V.int (i : Nat), x2])) := s4.trans g5
      refine ⟨tt, _, rfl, SqT.of upd_same, rfl, _, _, rfl, _, _, rfl, rfl, ?_⟩
      have ed : sts.drop i = st :: sts.drop (i + 1) := by
        obtain ⟨hi3, ex⟩ := List.getElem?_eq_some_iff.mp hst2
        rw [← ex, ← List.drop_eq_getElem_cons hi3]
      have eC : M.chE se wh (sts.take (i + 1)) [] = M.nxC se wh (M.chE se wh (sts.take i) []) st := by
        rw [take_snoc hst2, M.chE_snoc]
      rw [ed, M.gatesAll_cons, ← eC] at eq
      obtain ⟨ac, hac, hch⟩ := c4.get (M.chB_at se wh sts [] i (by omega))
      have c5 := c4.mono g5
      have gD5 := gD.mono g5
      have e5 := g5 _ _ e4
      have eD5 := g5 _ _ eD
      have ch5 := hch.mono g5
      have dl := M.dep_le hst2
      have fst := WP.fine_get fall hst2
      generalize upd G tt (.tup [V.int (i : Nat), x2]) = G5 at s5 c5 gD5 e5 eD5 ch5
      refine ⟨_, rfl, a, CW, dh, fh, _, rfl, s5 _ _ v1, TW.cl, TW.nH, v2, _, rfl, _, rfl, _, rfl, D2, _, _, _, rfl, rfl, SqL.of e5, atI_nat hac, _, rfl, ?_⟩
      refine ⟨x2, ac, wh, se, st, _, rfl, hat.mono s5, fst, by omega, ch5, ck_cuts (ckE i), fun E xsE G6 s6 nE6 eE gE => ?_⟩
      have pl := M.Step.plen se wh st (M.chE se wh (sts.take i) [])
      have lt : done.length + (M.Step.gates se wh st (M.chE se wh (sts.take i) [])).length ≤ 80 := by
        have := congrArg List.length eq
        rw [List.length_append, List.length_append, List.length_map] at this
        omega
      generalize M.Step.gates se wh st (M.chE se wh (sts.take i) []) = gs at gE pl lt eq
      have lE := gE.len
      have nED : E ≠ D := fun z => by
        rw [z, eD5] at nE6
        cases nE6
      refine ⟨E, rfl, ⟨_, SqL.of eE⟩, ?_⟩
      refine for_it walk_list (fun j σ G => Same H G ∧ G D2 = some (.lst xs2) ∧ CsAt C G (M.chB se wh sts []) xs2 ∧ G E = some (.lst xsE) ∧ GsAt G gs xsE ∧ ∃ (ys : List V) (r o u : Option V), σ = [some (.ref a), some (.bl se), some (.ref D), some (.ref D2), some (.int ((i : Nat) : Int)), some x2, r, o, u] ∧ G D = some (.lst ys) ∧ GsAt G (done ++ (gs.take j).map (M.at_ i)) ys)
        ⟨s5.trans s6, s6 _ _ e5, c5.mono s6, eE, gE, ys, _, _, _, rfl, s6 _ _ eD5, by rw [List.take_zero, List.map_nil, List.append_nil]; exact gD5.mono s6⟩ (fun j σ G _ z => SqL.of z.2.2.2.1) ?_ ?_
      · rintro j v σ G7 G' hj ⟨s7, e7, c7, eE7, gE7, ys7, r, o, u, rfl, eD7, gD7⟩ ⟨rfl, hx7⟩
        obtain ⟨g, hg, t1, q1, rfl, f1, f2⟩ := gE7.get hx7
        have lD := gD7.len
        rw [List.length_append, List.length_map] at lD
        have lK := List.length_take_le j gs
        have pg := pl g (List.mem_of_getElem? hg)
        refine ⟨t1, _, rfl, SqT.of f1, rfl, _, _, rfl, _, _, rfl, _, _, rfl, rfl, ?_⟩
        refine ⟨_, rfl, .inl ⟨rfl, _, SqL.of eD7⟩, ?_⟩
        refine ⟨_, rfl, _, rfl, q1, ni g.place, rfl, .inl (SqT.of f2), small1000 ?_, fun p1 hp1 => ?_⟩
        · simp [ni]
          omega
        have ep : ∀ (Gz : Hp) (z : List V), upd Gz p1 (.tup z) p1 = some (.tup z) := fun Gz z => upd_same
        have m1 := of_upd (o := .tup (V.int ((i : Nat) : Int) :: (ni g.place ++ []))) hp1
        refine ⟨_, rfl, _, rfl, line2.2.1, fun t2 ht2 => ?_⟩
        have m2 := of_upd (o := .tup [V.ref p1, .int g.thr, ansV g.ans]) ht2
        have m12 := m1.trans m2
        have eD8 := m12 _ _ eD7
        have kp := put_keepT (o := .lst (ys7 ++ [.ref t2])) eD8
        refine ⟨D, ys7, _, rfl, rfl, eD8, small1000 (by omega), add_upd hD (s7.trans m12), ?_, (c7.mono m12).keep kp, ?_, (gE7.mono m12).keep kp, _, _, _, _, rfl, upd_same, ?_⟩
        · rw [upd_ne nE]
          exact m12 _ _ e7
        · rw [upd_ne nED]
          exact m12 _ _ eE7
        · rw [take_snoc hg, List.map_append, ← List.append_assoc]
          refine ((gD7.mono m12).keep kp).snoc ⟨t2, p1, rfl, kp _ _ (fun _ z => by cases z) upd_same, kp _ _ (fun _ z => by cases z) ?_⟩
          have := m2 _ _ (ep _ (V.int ((i : Nat) : Int) :: (ni g.place ++ [])))
          exact this.trans (by rw [List.append_nil]; rfl)
      · rintro σ G7 ⟨s7, e7, c7, eE7, gE7, ys7, r, o, u, rfl, eD7, gD7⟩
        rw [lE, List.take_length] at gD7
        refine ⟨s7, e7, c7, ys7, _, _, _, _, _, _, rfl, eD7, gD7, ?_⟩
        rw [eq, List.append_assoc]
    · rintro σ G ⟨s4, e4, c4, ys, done, p, q, r, o, u, rfl, eD, gD, eq⟩
      have e0 : sts.drop xs0.length = [] := by
        rw [il]
        exact List.drop_length
      rw [e0] at eq
      unfold M.Step.gatesAll at eq
      rw [List.append_nil] at eq
      refine ⟨_, rfl, kk D ys G s4 hD eD ?_⟩
      conv => arg 2; unfold M.Step.gatesAll
      rw [eq]
      exact gD
end
end CP

end
section
set_option autoImplicit false
set_option Elab.async false
set_option linter.all false
set_option maxRecDepth 100000
set_option maxHeartbeats 4000000
/-! ## lows, stairs, forms, fates: a mirror -/
namespace M
def lastT (acc : List Gate) : Int := match acc.getLast? with
  | some g => g.thr
  | none => 0
def lowStep (acc : List Gate) (g : Gate) : List Gate := if acc = [] ∨ g.thr < lastT acc then acc ++ [g] else acc
def lowsOf (l : List Gate) : List Gate := l.foldl lowStep []
theorem foldl_snoc {α β : Type} (f : β → α → β) (b : β) {l : List α} {i : Nat} {x : α} (h : l[i]? = some x) : (l.take (i + 1)).foldl f b = f ((l.take i).foldl f b) x := by
  rw [show l.take (i + 1) = l.take i ++ [x] by rw [List.take_add_one, h]; rfl, List.foldl_append]
  rfl
theorem lows_len : ∀ (l acc : List Gate), (l.foldl lowStep acc).length ≤ acc.length + l.length
  | [], acc => Nat.le_refl _
  | g :: l, acc => by
    have a := lows_len l (lowStep acc g)
    have b : (lowStep acc g).length ≤ acc.length + 1 := by
      unfold lowStep
      split
      · rw [List.length_append]
        exact Nat.le_refl _
      · omega
    rw [List.foldl_cons, List.length_cons]
    omega
def over (L : Option Int) (z : Int) : Bool := match L with
  | some u => decide (z ≥ u)
  | none => false
abbrev Stair := Int × Option Int
def stStep (L : Option Int) (acc : List Stair) (g : Gate) : List Stair :=
  if over L g.thr = true then acc else (if acc.getLast?.map (·.2) = some g.ans then acc.dropLast else acc) ++ [(g.thr, g.ans)]
def stairsOf (L : Option Int) (l : List Gate) : List Stair := l.foldl (stStep L) []
theorem stairs_len (L : Option Int) : ∀ (l : List Gate) (acc : List Stair), (l.foldl (stStep L) acc).length ≤ acc.length + l.length
  | [], acc => Nat.le_refl _
  | g :: l, acc => by
    have a := stairs_len L l (stStep L acc g)
    have b : (stStep L acc g).length ≤ acc.length + 1 := by
      unfold stStep
      split
      · omega
      · split
        · rw [List.length_append, List.length_dropLast]
          simp
        · rw [List.length_append]
          exact Nat.le_refl _
    rw [List.foldl_cons, List.length_cons]
    omega
def Way.lows (se : Bool) (w : Way) : List Gate := lowsOf (Way.gates se w)
theorem Way.lows_len (se : Bool) {w : Way} (h : w.size ≤ 40) : (Way.lows se w).length ≤ 80 := by
  have a := M.lows_len (Way.gates se w) []
  have b := Way.gates_len se w
  unfold Way.lows lowsOf
  simp only [List.length_nil] at a
  omega
theorem lows_mem : ∀ (l acc : List Gate), ∀ g ∈ l.foldl lowStep acc, g ∈ acc ∨ g ∈ l
  | [], acc, g, h => .inl h
  | x :: l, acc, g, h => by
    rcases lows_mem l (lowStep acc x) g h with h | h
    · unfold lowStep at h
      split at h
      · rcases List.mem_append.mp h with h | h
        · exact .inl h
        · rw [List.mem_singleton.mp h]
          exact .inr List.mem_cons_self
      · exact .inl h
    · exact .inr (List.mem_cons_of_mem _ h)
theorem Way.lows_mem {se : Bool} {w : Way} {g : Gate} (h : g ∈ Way.lows se w) : g ∈ Way.gates se w := by
  rcases M.lows_mem _ _ g h with h | h
  · cases h
  · exact h
def Way.stairs (se : Bool) (L : Option Int) (w : Way) : List Stair := stairsOf L (Way.lows se w)
def limOf (s : List Stair) (L : Option Int) : Option Int := match s.getLast? with
  | some x => some (max x.1 0)
  | none => L
inductive FateA where
  | silent (place : List Nat)
  | told (ans : Int) (place : List Nat)
  | comes (pieces : Nat) (last : Int)
end M
namespace CP
open PySem L2 G Y
abbrev sLows : Stmt := S.top 27
abbrev sFate : Stmt := S.top 37
theorem GsAt.last {H : Hp} {c : M.Gate} : ∀ {l : List M.Gate} {xs : List V}, GsAt H (l ++ [c]) xs → ∃ r v, xs = r ++ [v] ∧ GsAt H l r ∧ GAt H c v
  | [], xs, h => by
    cases h with
    | cons e h2 =>
      cases h2
      exact ⟨[], _, rfl, .nil, e⟩
  | x :: l, xs, h => by
    cases h with
    | cons e h2 =>
      obtain ⟨r, v, rfl, h3, h4⟩ := GsAt.last (l := l) h2
      exact ⟨_ :: r, v, rfl, .cons e h3, h4⟩
/-- a stair stands at a value -/
def SAt (H : Hp) (s : M.Stair) (v : V) : Prop := ∃ t, v = .ref t ∧ H t = some (.tup [.int s.1, ansV s.2])
inductive SsAt (H : Hp) : List M.Stair → List V → Prop
  | nil : SsAt H [] []
  | cons {g : M.Stair} {l : List M.Stair} {v : V} {xs : List V} : SAt H g v → SsAt H l xs → SsAt H (g :: l) (v :: xs)
theorem SsAt.mono {H H' : Hp} (s : Same H H') {l : List M.Stair} {xs : List V} (h : SsAt H l xs) : SsAt H' l xs := by
  induction h with
  | nil => exact .nil
  | cons e _ ih =>
    obtain ⟨t, e, h1⟩ := e
    exact .cons ⟨t, e, s _ _ h1⟩ ih
theorem SsAt.keep {H H' : Hp} (s : KeepT H H') {l : List M.Stair} {xs : List V} (h : SsAt H l xs) : SsAt H' l xs := by
  induction h with
  | nil => exact .nil
  | cons e _ ih =>
    obtain ⟨t, e, h1⟩ := e
    exact .cons ⟨t, e, s _ _ (fun _ z => by cases z) h1⟩ ih
theorem SsAt.snoc {H : Hp} {l : List M.Stair} {xs : List V} {g : M.Stair} {v : V} (h : SsAt H l xs) (e : SAt H g v) : SsAt H (l ++ [g]) (xs ++ [v]) := by
  induction h with
  | nil => exact .cons e .nil
  | cons e2 _ ih => exact .cons e2 ih
theorem SsAt.len {H : Hp} {l : List M.Stair} {xs : List V} (h : SsAt H l xs) : xs.length = l.length := by
  induction h with
  | nil => rfl
  | cons _ _ ih => rw [List.length_cons, List.length_cons, ih]
theorem SsAt.last {H : Hp} {c : M.Stair} : ∀ {l : List M.Stair} {xs : List V}, SsAt H (l ++ [c]) xs → ∃ r v, xs = r ++ [v] ∧ SsAt H l r ∧ SAt H c v
  | [], xs, h => by
    cases h with
    | cons e h2 =>
      cases h2
      exact ⟨[], _, rfl, .nil, e⟩
  | x :: l, xs, h => by
    cases h with
    | cons e h2 =>
      obtain ⟨r, v, rfl, h3, h4⟩ := SsAt.last (l := l) h2
      exact ⟨_ :: r, v, rfl, .cons e h3, h4⟩
theorem iteP {p : Prop} [Decidable p] {A B : Prop} (h : p) (a : A) : if decide p = true then A else B := by
  rw [decide_eq_true h]
  exact a
theorem iteN {p : Prop} [Decidable p] {A B : Prop} (h : ¬ p) (b : B) : if decide p = true then A else B := by
  rw [decide_eq_false h]
  exact b
theorem set_k {te : TE} {i : Nat} {t2 : TS} {D : Ends} {σ : L2.St} {H : Hp} (Z : V → Hp → Prop) (k : ∀ v H', Z v H' → t2 D (σ.set i (some v)) H') (h : (∀ v H', Z v H' → t2 D (σ.set i (some v)) H') → te σ H fun v H1 => t2 D (σ.set i (some v)) H1) : tSeq (tAsg te (gName i)) t2 D σ H := h k
theorem ans_eq (a b : Option Int) : scal (ansV a) (ansV b) = true ∧ decide (ansV a = ansV b) = decide (a = b) := by
  cases a with
  | none => cases b with
    | none => exact ⟨rfl, rfl⟩
    | some y => exact ⟨rfl, (decide_eq_false (fun h => by cases h)).trans (decide_eq_false (fun h => by cases h)).symm⟩
  | some x => cases b with
    | none => exact ⟨rfl, (decide_eq_false (fun h => by cases h)).trans (decide_eq_false (fun h => by cases h)).symm⟩
    | some y =>
      refine ⟨rfl, ?_⟩
      by_cases h : x = y
      · subst h
        exact (decide_eq_true rfl).trans (decide_eq_true rfl).symm
      · exact (decide_eq_false (fun z => h (V.int.inj z))).trans (decide_eq_false (fun z => h (Option.some.inj z))).symm
section
variable {P : Program} {w : World} {K : PySem.W.Frag} {mg : Str → Option Value} {base : Heap} {C CW : Addr}
/-! ### lows -/
def spLows (CW : Addr) (n : Nat) : Sp := fun vs H Q _ => ∃ (a : Addr) (se : Bool) (wy : M.Way), vs = [.ref a, .bl se] ∧ WP.WayAt CW H wy a ∧ M.Way.fine wy ∧ wy.depth ≤ n ∧ ∀ D xs H', Same H H' → H D = none → H' D = some (.lst xs) → GsAt H' (M.Way.lows se wy) xs → Q (.ref D) H'
theorem scLo : FnScope ["way", "sealed", "found", "gate"] ["way", "sealed"] (defScope sLows) := ⟨rfl, rfl, rfl, by decide +kernel, rfl, by decide +kernel, by decide +kernel⟩
theorem ok_lows {k n : Nat} {f : Addr} {fd : FuncData} (F : Fun K "lows" "lows" sLows f fd) (B : Bn mg) (DG : Dg P w K mg base k "gates" ["way", "sealed"] ["sealed"] (spGates CW n)) : FnOk P w K mg base CX0 (k + 1) f fd ["way", "sealed"] (spLows CW n) := by
  obtain ⟨fG, fdG, GG, gG, kG, bG⟩ := DG.ex
  refine F.ok scLo (fun vs H Q E h => ?_) (fun cdv A outer s H vs Q E hr h => ?_)
  · obtain ⟨a, se, wy, rfl, _⟩ := h
    rfl
  · obtain ⟨a, se, wy, rfl, hw, hf, hd, kk⟩ := h
    refine ⟨_, pss_cons (ps_set (i := 2) scLo.nd rfl (Or.inl rfl) (pe_lst pa_nil))
      (pss_cons (ps_for PassesOwn.never rfl (pi_list (pe_callK GG (hr.mono (by omega)) rfl gG kG bG pass0 (pa_cons (pv 0) pa_nil) (pk_cons (pv 1) pk_nil))) (pg_name (i := 3) scLo.nd rfl (Or.inl rfl)) (pss_one (ps_if (PW.pt (pw_or (pt_cmpR (op_eq) (pe_callB call_len_seq (by rfl) B.len PySem.boot_len (pa_cons (pv 2) pa_nil)) (pe_int) (nomark _)) (pw_or1 (pt_cmpR (op_lt) (pe_ix ix_tup (pv 3) (pe_int) (fun _ _ => rfl)) (pe_ix ix_tup (pe_ix ix_list (pv 2) (pe_un un_neg pe_int) (fun _ _ => rfl)) (pe_int) (fun _ _ => rfl)) (nomark _))))) (pss_one (ps_expr (pe_bm PySem.F.plainAttrs_list PySem.F.slot_list_append PySem.F.type_list_append mt_append (pv 2) (pa_cons (pv 3) pa_nil)))) (pss_nil))))
      (pss_one (ps_ret (pv 2)))), ?_⟩
    have gl := M.Way.gates_len se wy
    have fz := (fine_all hf).2.2
    refine set_then (i := 2) ⟨line2.2.2.2, fun D hD => ?_⟩
    have s1 := of_upd (o := .lst []) hD
    have eD0 : upd H D (.lst []) D = some (.lst []) := upd_same
    refine ⟨_, rfl, _, rfl, a, se, wy, rfl, hw.mono s1, hf, hd, fun E xsE H2 s2 nE eE gE => ?_⟩
    have s3 := s1.trans s2
    have nED : E ≠ D := fun z => by
      rw [z, eD0] at nE
      cases nE
    unfold M.Way.lows M.lowsOf at kk
    generalize M.Way.gates se wy = gs at gE gl kk
    have lE := gE.len
    refine ⟨E, rfl, ⟨_, SqL.of eE⟩, ?_⟩
    refine for_it walk_list (fun j σ G => Same H G ∧ G E = some (.lst xsE) ∧ GsAt G gs xsE ∧ ∃ (ys : List V) (u : Option V), σ = [some (.ref a), some (.bl se), some (.ref D), u] ∧ G D = some (.lst ys) ∧ GsAt G ((gs.take j).foldl M.lowStep []) ys)
      ⟨s3, eE, gE, [], _, rfl, s2 _ _ eD0, .nil⟩ (fun j σ G _ z => SqL.of z.2.1) ?_ ?_
    · rintro j v σ G G' hj ⟨s4, e4, g4, ys, u, rfl, eD, gD⟩ ⟨rfl, hx⟩
      obtain ⟨g, hg, hgat⟩ := g4.get hx
      have lD := gD.len
      have lL := M.lows_len (gs.take j) []
      have lK := List.length_take_le j gs
      simp only [List.length_nil] at lL
      have nx := M.foldl_snoc M.lowStep [] hg
      generalize (gs.take j).foldl M.lowStep [] = acc at gD lD lL nx
      have app : M.lowStep acc g = acc ++ [g] → Same H (upd G' D (.lst (ys ++ [v]))) ∧ upd G' D (.lst (ys ++ [v])) E = some (.lst xsE) ∧ GsAt (upd G' D (.lst (ys ++ [v]))) gs xsE ∧ ∃ (ys2 : List V) (u : Option V), [some (V.ref a), some (.bl se), some (.ref D), some v] = [some (.ref a), some (.bl se), some (.ref D), u] ∧ upd G' D (.lst (ys ++ [v])) D = some (.lst ys2) ∧ GsAt (upd G' D (.lst (ys ++ [v]))) ((gs.take (j + 1)).foldl M.lowStep []) ys2 := fun h => by
        have kp := put_keepT (o := .lst (ys ++ [v])) eD
        refine ⟨add_upd hD s4, ?_, g4.keep kp, _, _, rfl, upd_same, ?_⟩
        · rw [upd_ne nED]
          exact e4
        · rw [nx, h]
          obtain ⟨t, q, rfl, f1, f2⟩ := hgat
          exact (gD.keep kp).snoc ⟨t, q, rfl, kp _ _ (fun _ z => by cases z) f1, kp _ _ (fun _ z => by cases z) f2⟩
      refine ⟨_, rfl, D, _, rfl, .inl (SqL.of eD), rfl, _, rfl, ?_⟩
      rcases List.eq_nil_or_concat acc with e | ⟨r, y, e⟩
      · subst e
        have e0 : ys.length = 0 := lD
        refine iteP (by rw [e0]; rfl) (iteT ⟨_, rfl, .inl ⟨rfl, _, SqL.of eD⟩, _, rfl, D, ys, _, rfl, rfl, eD, small1000 (by omega), app ?_⟩)
        unfold M.lowStep
        rw [if_pos (.inl rfl)]
      · rw [List.concat_eq_append] at e
        subst e
        obtain ⟨ry, vy, rfl, _, hy⟩ := gD.last
        obtain ⟨t, q, rfl, f1, f2⟩ := id hgat
        obtain ⟨ty, qy, rfl, y1, y2⟩ := hy
        have i1 : ∀ {q : Addr} {z : Int} {o : V}, atI [V.ref q, .int z, o] (1 : Int) = some (.int z) := fun {q z o} => by exact atI_nat (j := 1) rfl
        refine iteN (fun z => by injection z with z; simp at z; omega) ⟨_, rfl, t, _, _, _, rfl, rfl, SqT.of f1, i1, _, rfl, _, rfl, D, _, _, _, rfl, rfl, SqL.of eD, atI_last _ _, ty, _, _, _, rfl, rfl, SqT.of y1, i1, _, _, rfl, rfl, _, rfl, ?_⟩
        have eL : M.lastT (r ++ [y]) = y.thr := by
          unfold M.lastT
          rw [List.getLast?_append]
          rfl
        refine ite2 (fun c => ?_) (fun c => ?_)
        · have c2 : g.thr < y.thr := of_decide_eq_true c
          refine ⟨_, rfl, .inl ⟨rfl, _, SqL.of eD⟩, _, rfl, D, _, _, rfl, rfl, eD, small1000 (by omega), app ?_⟩
          unfold M.lowStep
          rw [if_pos (.inr (by rw [eL]; exact c2))]
        · have c2 : ¬ g.thr < y.thr := fun z => c (decide_eq_true z)
          refine ⟨s4, e4, g4, _, _, rfl, eD, ?_⟩
          rw [nx]
          unfold M.lowStep
          rw [if_neg (by rintro (z | z); exact absurd z (by simp); rw [eL] at z; exact c2 z)]
          exact gD
    · rintro σ G ⟨s4, e4, g4, ys, u, rfl, eD, gD⟩
      rw [lE, List.take_length] at gD
      exact ⟨_, rfl, kk D ys G s4 hD eD gD⟩
/-! ### fate -/
def FAt (H : Hp) (fa : M.FateA) (v : V) : Prop := match fa with
  | .silent p => ∃ t q, v = .ref t ∧ H t = some (.tup [.str "silent", .ref q]) ∧ H q = some (.tup (ni p))
  | .told z p => ∃ t q, v = .ref t ∧ H t = some (.tup [.str "told", .int z, .ref q]) ∧ H q = some (.tup (ni p))
  | .comes n l => ∃ t, v = .ref t ∧ H t = some (.tup [.str "comes", .int (n : Int), .int l])
def fateG (g : M.Gate) : M.FateA := match g.ans with
  | none => .silent g.place
  | some z => .told z g.place
def fateOf (l : List M.Gate) (b : Nat) (cs : List Nat) : M.FateA := match l.find? (fun g => decide (g.thr < (b : Int))) with
  | some g => fateG g
  | none => .comes (N.PC cs b) (stretchZ cs b (N.PC cs b))
def spFate (C CW : Addr) (n : Nat) : Sp := fun vs H Q _ => ∃ (a : Addr) (b : Nat) (se : Bool) (wy : M.Way), vs = [.ref a, .int (b : Int), .bl se] ∧ WP.WayAt CW H wy a ∧ M.Way.fine wy ∧ wy.depth ≤ n ∧ b ≤ 1000000000000000000 ∧ ∀ v H', Same H H' → FAt H' (fateOf (M.Way.lows se wy) b (M.chE se wy.head wy.steps [])) v → Q v H'
abbrev NFt : List Str := ["way", "body", "sealed", "place", "threshold", "answer", "chain", "pieces"]
theorem scFt : FnScope NFt ["way", "body", "sealed"] (defScope sFate) := ⟨rfl, rfl, rfl, by decide +kernel, rfl, by decide +kernel, by decide +kernel⟩
theorem PC_pos {cs : List Nat} (f : N.Fall cs) (b : Nat) : 1 ≤ N.PC cs b := by
  unfold N.PC
  split
  · exact Nat.le_refl _
  · exact N.L_pos cs f b (by omega)
theorem ok_fate {k n : Nat} {f : Addr} {fd : FuncData} (F : Fun K "fate" "fate" sFate f fd) (hk : 7 ≤ k) (T : Ct K mg C) (DB : Df P w K mg base 3 "is_body" ["value"] (WP.spIn1 0 1000000000000000000)) (DG : Dg P w K mg base k "lows" ["way", "sealed"] ["sealed"] (spLows CW n)) (DC : Df P w K mg base 7 "chains_before" ["way", "sealed"] (spChB C CW))
    (MP : Me P w K mg base C 2 "pieces" ["self", "body"] (spCPieces C)) (MX : Me P w K mg base C 3 "stretch" ["self", "body", "number"] (spCStretch C)) : FnOk P w K mg base CX0 (k + 1) f fd ["way", "body", "sealed"] (spFate C CW n) := by
  obtain ⟨fB, fdB, GB, gB, kB, bB⟩ := DB.ex
  obtain ⟨fG, fdG, GG, gG, kG, bG⟩ := DG.ex
  obtain ⟨fC, fdC, GC, gC, kC, bC⟩ := DC.ex
  obtain ⟨fP, fdP, GP, mP, bP⟩ := MP.ex
  obtain ⟨fX, fdX, GX, mX, bX⟩ := MX.ex
  refine F.ok scFt (fun vs H Q E h => ?_) (fun cdv A outer s H vs Q E hr h => ?_)
  · obtain ⟨a, b, se, wy, rfl, _⟩ := h
    rfl
  · obtain ⟨a, b, se, wy, rfl, hw, hf, hd, hb, kk⟩ := h
    refine ⟨_, pss_cons (ps_if (pt_not (pt_val (pe_call GB (hr.mono (by omega)) rfl gB kB bB .nil pass0 (pa_cons (pv 1) pa_nil)))) (ps_dead) (pss_nil))
      (pss_cons (ps_for PassesOwn.never rfl (pi_list (pe_callK GG (hr.mono (by omega)) rfl gG kG bG pass0 (pa_cons (pv 0) pa_nil) (pk_cons (pv 2) pk_nil))) (pg_tup (by rfl) (pgs_cons (pg_name (i := 3) scFt.nd rfl (Or.inl rfl)) (pgs_cons (pg_name (i := 4) scFt.nd rfl (Or.inl rfl)) (pgs_cons (pg_name (i := 5) scFt.nd rfl (Or.inl rfl)) pgs_nil)))) (pss_one (ps_if (pt_cmpR (op_lt) (pv 4) (pv 1) (nomark _)) (pss_one (ps_ret (pe_ifExp (pt_cmp (pc_isN (pv 5))) (pe_tup (pa_cons (pe_str) (pa_cons (pv 3) pa_nil))) (pe_tup (pa_cons (pe_str) (pa_cons (pv 5) (pa_cons (pv 3) pa_nil))))))) (pss_nil))))
      (pss_cons (ps_set (i := 6) scFt.nd rfl (Or.inl rfl) (pe_ix ix_list (pe_call GC (hr.mono (by omega)) rfl gC kC bC .nil pass0 (pa_cons (pv 0) (pa_cons (pv 2) pa_nil))) (pe_un un_neg pe_int) (fun _ _ => rfl)))
      (pss_cons (ps_set (i := 7) scFt.nd rfl (Or.inl rfl) (pe_meth (pv 6) T.cl mP GP (hr.mono (by omega)) bP .nil pass0 (pa_cons (pv 1) pa_nil)))
      (pss_one (ps_ret (pe_tup (pa_cons (pe_str) (pa_cons (pv 7) (pa_cons (pe_meth (pv 6) T.cl mX GX (hr.mono (by omega)) bX .nil pass0 (pa_cons (pv 1) (pa_cons (pv 7) pa_nil))) pa_nil))))))))), ?_⟩
    have ckE : M.Ck (M.chE se wy.head wy.steps []) := M.ck_all M.ck_nil (fine_all hf).1
    refine ⟨_, rfl, (b : Int), rfl, ?_⟩
    rw [decide_eq_true (by omega)]
    refine ⟨_, rfl, iteF ?_⟩
    refine ⟨_, rfl, _, rfl, a, se, wy, rfl, hw, hf, hd, fun E xsE H2 s2 nE eE gE => ?_⟩
    generalize M.Way.lows se wy = gs at gE kk
    have lE := gE.len
    unfold fateOf at kk
    refine ⟨E, rfl, ⟨_, SqL.of eE⟩, ?_⟩
    refine for_it walk_list (fun j σ G => G = H2 ∧ (∃ (p q r o u : Option V), σ = [some (.ref a), some (.int (b : Int)), some (.bl se), p, q, r, o, u]) ∧ gs.find? (fun g => decide (g.thr < (b : Int))) = (gs.drop j).find? (fun g => decide (g.thr < (b : Int))))
      ⟨rfl, ⟨_, _, _, _, _, rfl⟩, rfl⟩ (fun j σ G _ z => by rw [z.1]; exact SqL.of eE) ?_ ?_
    · rintro j v σ G G' hj ⟨rfl, ⟨p, q, r, o, u, rfl⟩, eq⟩ ⟨rfl, hx⟩
      obtain ⟨g, hg, t, qp, rfl, f1, f2⟩ := gE.get hx
      refine ⟨t, _, rfl, SqT.of f1, rfl, _, _, rfl, _, _, rfl, _, _, rfl, rfl, ?_⟩
      have ed : gs.drop j = g :: gs.drop (j + 1) := by
        obtain ⟨hi3, ex⟩ := List.getElem?_eq_some_iff.mp hg
        rw [← ex, ← List.drop_eq_getElem_cons hi3]
      rw [ed] at eq
      refine ⟨_, rfl, _, rfl, _, _, rfl, rfl, _, rfl, ite2 (fun c => ?_) (fun c => ?_)⟩
      · rw [List.find?_cons_of_pos (p := fun (g : M.Gate) => decide (g.thr < (b : Int))) c] at eq
        have kk : ∀ v H', Same H H' → FAt H' (fateG g) v → Q v H' := by
          rw [eq] at kk
          exact kk
        unfold fateG at kk
        refine ⟨_, rfl, ?_⟩
        cases ea : g.ans with
        | none =>
          rw [ea] at kk
          refine ⟨_, rfl, iteT ⟨_, rfl, line2.1, fun t2 ht2 => kk _ _ (s2.trans (of_upd ht2)) ?_⟩⟩
          exact ⟨t2, qp, rfl, upd_same, of_upd ht2 _ _ f2⟩
        | some z =>
          rw [ea] at kk
          refine ⟨_, rfl, iteF ⟨_, rfl, _, rfl, line2.2.1, fun t2 ht2 => kk _ _ (s2.trans (of_upd ht2)) ?_⟩⟩
          exact ⟨t2, qp, rfl, upd_same, of_upd ht2 _ _ f2⟩
      · refine ⟨rfl, ⟨_, _, _, _, _, rfl⟩, ?_⟩
        rw [eq, List.find?_cons_of_neg (p := fun (g : M.Gate) => decide (g.thr < (b : Int))) c]
    · rintro σ G ⟨rfl, ⟨p, q, r, o, u, rfl⟩, eq⟩
      rw [lE, List.drop_length] at eq
      have kk : ∀ v H', Same H H' → FAt H' (.comes (N.PC (M.chE se wy.head wy.steps []) b) (stretchZ (M.chE se wy.head wy.steps []) b (N.PC (M.chE se wy.head wy.steps []) b))) v → Q v H' := by
        rw [eq] at kk
        exact kk
      dsimp only
      refine set_then (i := 6) ?_
      refine ⟨_, rfl, _, rfl, a, se, wy, rfl, hw.mono s2, hf, fun D3 xs3 H3 s3 n3 e3 g3 => ?_⟩
      obtain ⟨X, eX⟩ := M.chB_last se wy.head wy.steps []
      rw [eX] at g3
      obtain ⟨r3, a3, rfl, hc3⟩ := g3.last
      refine ⟨_, rfl, D3, _, _, _, rfl, rfl, SqL.of e3, atI_last _ _, ?_⟩
      have pp := PC_pos ckE.fall b
      obtain ⟨dx, fs, i1, i2⟩ := hc3.ins nk2.1
      refine set_then (i := 7) ⟨_, rfl, a3, dx, fs, rfl, i1, i2, _, rfl, a3, b, _, rfl, hc3, ck_cuts ckE, fun H4 s4 => ?_⟩
      have hc4 := hc3.mono s4
      obtain ⟨dx, fs, i1, i2⟩ := hc4.ins nk2.2.2.2
      refine ⟨_, rfl, _, rfl, a3, dx, fs, rfl, i1, i2, _, rfl, _, rfl, a3, b, _, _, rfl, hc4, ck_cuts ckE, pp, Nat.le_refl _, fun H5 s5 => ?_⟩
      refine ⟨line2.2.1, fun t ht => kk _ _ ((((s2.trans s3).trans s4).trans s5).trans (of_upd ht)) ⟨t, rfl, upd_same⟩⟩
end
end CP

end
section
set_option autoImplicit false
set_option Elab.async false
set_option linter.all false
set_option maxRecDepth 100000
set_option maxHeartbeats 4000000
/-! ## a tuple, the other way round -/
namespace QR
open PySem PySem.Spec PyProof.Rows L2
section
variable {prog : Program} {w : World} {A : Around} {E : Value → Shared → Prop} {s : Shared}
theorem applied_back {sl : Addr} {vs : Value} {n : Nat} {Q : Int × Int × Nat → Shared → Prop} (hs : s.heap.IsSliceOf sl .none .none vs) (ps : IsPart vs (some (-1)))
    (h : Q ((n : Int) - 1, -1, n) s) : wpAny (model prog w) A (Builtin.Slice.sliceApplied (.ref sl) (pure (n : Int))) Q E s := by
  obtain ⟨os, hos, hcs, hds⟩ := id hs
  unfold Builtin.Slice.sliceApplied Builtin.Slice.sliceFields
  refine wpAny_bind (wpAny_bind (wpAny_field hos hds (x := .none) rfl (wpAny_bind (wpAny_field hos hds (x := .none) rfl (wpAny_bind (wpAny_field hos hds (x := vs) rfl (wpAny_pure ?_)))))))
  refine wpAny_bind (HT.slicePart_ ps ?_)
  show wpAny _ _ (if ((-1 : Int) == 0) = true then _ else _) _ _ s
  rw [if_neg (by decide)]
  refine wpAny_bind (HT.slicePart_ .none (wpAny_bind (HT.slicePart_ .none (wpAny_bind (wpAny_pure ?_)))))
  have e1 : Builtin.Slice.sliceAdjust none none (-1) (n : Int) = ((n : Int) - 1, -1) := by
    unfold Builtin.Slice.sliceAdjust
    simp
  have e2 : Builtin.Slice.slicePlaces ((n : Int) - 1) (-1) (-1) = n := by
    unfold Builtin.Slice.slicePlaces
    simp
    omega
  show wpAny _ _ (match Builtin.Slice.sliceAdjust none none (-1) (n : Int) with | (lo, hi) => pure (lo, (-1 : Int), Builtin.Slice.slicePlaces lo hi (-1))) _ _ s
  rw [e1]
  show wpAny _ _ (pure ((n : Int) - 1, (-1 : Int), Builtin.Slice.slicePlaces ((n : Int) - 1) (-1) (-1))) _ _ s
  rw [e2]
  exact wpAny_pure h
theorem fm_congr {f g : Nat → Option Value} : ∀ {l : List Nat}, (∀ m ∈ l, f m = g m) → l.filterMap f = l.filterMap g
  | [], _ => rfl
  | x :: l, h => by
    have e := fm_congr (f := f) (g := g) (l := l) fun m hm => h m (List.mem_cons_of_mem _ hm)
    rw [List.filterMap_cons, List.filterMap_cons, h x List.mem_cons_self, e]
theorem pick_back (xs : Array Value) : ((List.range xs.size).filterMap fun (m : Nat) => xs[(((xs.size : Int) - 1) + (m : Int) * (-1)).toNat]?).toArray = xs.toList.reverse.toArray := by
  have e : (List.range xs.size).filterMap (fun (m : Nat) => xs[(((xs.size : Int) - 1) + (m : Int) * (-1)).toNat]?) = ((List.range xs.size).map fun k => xs.size - 1 - k).filterMap (xs[·]?) := by
    rw [List.filterMap_map]
    refine fm_congr fun m hm => ?_
    have := List.mem_range.mp hm
    show xs[_]? = xs[xs.size - 1 - m]?
    rw [show (((xs.size : Int) - 1) + (m : Int) * (-1)).toNat = xs.size - 1 - m by omega]
  rw [e, PySem.W.krv_range, List.filterMap_reverse, PySem.W.krv_all]
theorem get_back {t sl : Addr} {items : Array Value} {vs : Value} {Q : Value → Shared → Prop} (ht : IsTup s.heap t items) (hs : s.heap.IsSliceOf sl .none .none vs) (ps : IsPart vs (some (-1)))
    (h : Q (.ref s.heap.objs.size) { s with heap := s.heap.push { cls := .type "tuple", data := .seq items.toList.reverse.toArray } }) (hsz : items.size ≤ sizeLine) : wpAny (model prog w) A (getItem (.ref t) (.ref sl)) Q E s := by
  have fits : sizeOk (.seq items.toList.reverse.toArray) := by
    show items.toList.reverse.toArray.size ≤ sizeLine
    simpa using hsz
  obtain ⟨os, hos, hcs, hds⟩ := id hs
  have hT : s.TypeIs (.ref sl) "slice" := ⟨os, hos, hcs⟩
  unfold getItem
  try with_reducible refine wpAny_holding ?_
  first | refine wpAny_bind (wpAny_pure ?_) | skip
  refine wpAny_bind (wpAny_sequenceKey ht.typeIs (by decide) (wpAny_bind (wpAny_callSpecial?_slot (name := Str.ofString "__getitem__") ht.typeIs PyProof.Rows.slot_tuple_getitem
    (wpAny_call_entry PyProof.Rows.slot_tuple_getitem ht.typeIs PyProof.Rows.entry_tuple_getitem ?_ (PyProof.Rows.args_tuple_getitem _ _)))))
  show wpAny _ _ (Builtin.Tuple.tupleItemsOf (.ref t) >>= _) _ _ s
  refine wpAny_bind (tupleItemsOf_ ht (wpAny_bind (wpAny_typeOf hT ?_)))
  rw [if_pos (by decide)]
  refine wpAny_bind (applied_back hs ps ?_)
  have no : ¬ ((((items.size : Int) - 1) == 0 && (-1 : Int) == 1 && items.size == items.size) = true) := by simp
  show wpAny _ _ (if ((((items.size : Int) - 1) == 0 && (-1 : Int) == 1 && items.size == items.size) = true) then _ else _) _ _ s
  rw [if_neg no, pick_back]
  first
    | exact wpAny_bind (m := Builtin.Tuple.tupleExact _) (wpAny_newObj_type (wpAny_pure ⟨_, rfl, wpAny_pure h⟩) fits)
    | exact wpAny_bind (wpAny_bind (m := Builtin.Tuple.tupleExact _) (wpAny_newObj_type (wpAny_pure ⟨_, rfl, wpAny_pure h⟩) fits))
end
section
variable {X : Cx}
/-- t[::-1] of a tuple -/
def tRevT (K : PySem.W.Frag) (te : TE) : TE := fun σ H Q => te σ H fun x H1 => ∃ a xs, x = .ref a ∧ SqT K H1 a xs ∧ ∀ p, H1 p = none → Q (.ref p) (upd H1 p (.tup xs.reverse))
theorem pe_revT {e : Expr} {te : TE} {k : Nat} {p1 p2 p3 pos : Pos} (he : PE X e te) : PE X (.Subscript e (.Slice none none (some (.UnaryOp .USub (.Constant (.int 1) k p1) p2)) p3) pos) (tRevT X.K te) := by
  refine ⟨fun pins s σ H Q I h => Subscript_ (thn (he.run pins s σ H _ I h) fun v s1 ⟨x, H1, I1, r1, q1⟩ => ?_)⟩
  obtain ⟨a, xs, ex, hx, q⟩ := q1
  subst ex
  cases r1
  have st : PO X (some (.UnaryOp .USub (.Constant (.int 1) k p1) p2)) (tPart (tUn (rU fun i => .int (-i)) (tC (.int 1)))) := po_some (pe_un un_neg pe_int)
  refine wpAny_Slice (thn (po_none.run pins s1 σ H1 (fun o H2 => o = none ∧ H2 = H1) I1 ⟨rfl, rfl⟩) fun vl s2 hl => ?_)
  obtain ⟨l, H2, I2, pl, el, e2⟩ := hl
  subst el e2
  refine thn (po_none.run pins s2 σ H2 (fun o H3 => o = none ∧ H3 = H2) I2 ⟨rfl, rfl⟩) fun vu s3 hu => ?_
  obtain ⟨u, H3, I3, pu, eu, e3⟩ := hu
  subst eu e3
  refine thn (st.run pins s3 σ H3 (fun o H4 => o = some (-1) ∧ H4 = H3) I3 ⟨1, rfl, -1, rfl, rfl, rfl⟩) fun vs s4 hs4 => ?_
  obtain ⟨o, H4, I4, ps, eo, e4⟩ := hs4
  subst eo e4
  cases pl
  cases pu
  have I5 : Inv X pins σ H4 { s4 with heap := s4.heap.push { cls := .type "slice", data := .fields #[.none, .none, vs] } } := I4.kept (t' := s4.toks) fun b ob q => Heap.get?_push_of_some _ q
  obtain ⟨its, r, ht, hz⟩ := I5.tuple hx
  have hlen := r.length
  show wpAny (model X.prog X.w) X.A (subscriptTail e (.Slice none none (some (.UnaryOp .USub (.Constant (.int 1) k p1) p2)) p3) (.ref a) (.ref s4.heap.objs.size)) (EP X pins σ Q) X.xe { s4 with heap := s4.heap.push { cls := .type "slice", data := .fields #[.none, .none, vs] } }
  refine tail_any (ops := [.ref a, .ref s4.heap.objs.size]) ht.typeIs PyProof.Rows.slot_tuple_getitem.lookup ?_ (by with_unfolding_all rfl)
  refine get_back ht (Heap.IsSliceOf.new _ .none .none vs) ps ?_ (by rw [List.size_toArray]; omega)
  refine ⟨.ref _, _, I5.laid (t' := s4.toks) (o := .tup xs.reverse) (fun b ob q => Heap.get?_push_of_some _ q) (Nat.le_refl _) ?_, rfl, q _ (I5.hok.fresh (Nat.le_refl _))⟩
  exact ⟨by rw [List.length_reverse]; exact hz, _, r.reverse, IsTup.new _ _⟩
end
end QR

end
section
set_option autoImplicit false
set_option Elab.async false
set_option linter.all false
set_option maxRecDepth 100000
set_option maxHeartbeats 4000000
/-! ## repr of small values; _law_same, _law_choose -/
namespace QR
open PySem PySem.Spec PyProof.Rows L2 G
theorem shown_fits20 {d : PyData} (h : d.leavesShort 20 = true) (hb : d.bulk ≤ 100000) : d.shown.length ≤ sizeLine := by
  have a := PyData.shown_le_bulk 20 (by decide) d h
  have b : (20 + 2) * d.bulk + 20 ≤ 3000000 := by omega
  exact Nat.le_trans (Nat.le_trans a b) (by decide)
inductive Sh (K : PySem.W.Frag) (H : Hp) : V → Str → Prop
  | non : Sh K H .non "None"
  | bl (b : Bool) : Sh K H (.bl b) (if b then "True" else "False")
  | int (i : Int) : i.natAbs.log2 < 1920 → Sh K H (.int i) (toString i)
  | ref {a : Addr} {d : PyData} : Dr K H true (.ref a) d → d.showable = true → d.depth ≤ 20 → d.leavesShort 20 = true → d.bulk ≤ 100000 → Sh K H (.ref a) d.shown
def rReprS (K : PySem.W.Frag) : List V → Hp → VK → Prop := fun xs H Q => ∃ x t, xs = [x] ∧ Sh K H x t ∧ Q (.str t) H
section
variable {X : Cx}
theorem call_reprS (hg : X.A.guards = some []) (hu : X.A.units + 64 < cLine) : CallR X (.builtin "repr") (rReprS X.K) := by
  intro pins s σ H xs us Q I r h
  obtain ⟨x, t, rfl, hs, q⟩ := h
  cases hs with
  | non => exact call_reprF pins s σ H _ us Q I r (.inl ⟨rfl, q⟩)
  | bl b => exact call_reprF pins s σ H _ us Q I r (.inr (.inl ⟨b, rfl, q⟩))
  | int i hi => exact call_reprF pins s σ H _ us Q I r (.inr (.inr ⟨i, rfl, hi, q⟩))
  | @ref a d hd h1 h2 h3 h4 =>
    cases r with
    | cons rx rr =>
      cases rr
      cases rx
      obtain ⟨as, hr, _⟩ := Dr.reads I d _ _ hd rfl
      refine repr_of_reads' hr h1 (fun z => ?_) hg (by omega) (fun _ _ e => e) (fun h' u tk k => ⟨.str d.shown, H, I.kept (t' := tk) k, ⟨u, rfl⟩, q⟩) (shown_fits20 h3 h4)
      rw [Dr.noDict d _ hd] at z
      cases z
theorem ix_or {r1 r2 : R2} (h1 : IxR X r1) (h2 : IxR X r2) : IxR X (fun x y H Q => r1 x y H Q ∨ r2 x y H Q) := fun value slice pins s σ H x y v u Q I rx ry h hs => h.elim (fun h => h1 value slice pins s σ H x y v u Q I rx ry h hs) fun h => h2 value slice pins s σ H x y v u Q I rx ry h hs
end
end QR
namespace S
open PySem L2 QR
abbrev sSame : Stmt := top 59
section
variable {P : Program} {w : World} {K : PySem.W.Frag} {mg : Str → Option Value} {base : Heap}
def spSame (K : PySem.W.Frag) : Sp := fun vs H Q _ => ∃ (x y : V) (t : Str), vs = [x, y] ∧ Sh K H x t ∧ Sh K H y t ∧ Q (.bl true) H
theorem scSm : FnScope ["one", "two"] ["one", "two"] (defScope sSame) := ⟨rfl, rfl, rfl, by decide +kernel, rfl, by decide +kernel, by decide +kernel⟩
theorem ok_same {f : Addr} {fd : FuncData} (F : Fun K "_law_same" "_law_same" sSame f fd) (hrep : mg "repr" = none) : G.Ok P w K mg base CX0 1 f fd ["one", "two"] (spSame K) := by
  refine G.mk F scSm (fun vs H Q E h => ?_) (fun cdv A outer s H vs Q E hg hr h => ?_)
  · obtain ⟨x, y, t, rfl, _⟩ := h
    rfl
  · obtain ⟨x, y, t, rfl, h1, h2, k⟩ := h
    refine ⟨_, pss_one (ps_ret (pe_cmpR op_eq (pe_callB (call_reprS hg hr.units) (by rfl) hrep (by decide +kernel) (pa_cons (pv 0) pa_nil)) (pe_callB (call_reprS hg hr.units) (by rfl) hrep (by decide +kernel) (pa_cons (pv 1) pa_nil)) (nomark _))), ?_⟩
    refine ⟨_, rfl, x, t, rfl, h1, _, rfl, y, t, rfl, h2, rfl, ?_⟩
    rw [decide_eq_true rfl]
    exact k
/-- a pick from a list or a tuple -/
def spChoose (K : PySem.W.Frag) : Sp := fun vs H Q _ => ∃ (p l : Addr) (r m : Int) (xs : List V), vs = [.ref p, .ref l] ∧ H p = some (.lst (Two r m)) ∧ Fine r m ∧ l ≠ p ∧ (SqL K H l xs ∨ SqT K H l xs) ∧ 1 ≤ xs.length ∧ xs.length ≤ 1000 ∧
  ∀ (j : Nat) (x : V) (r' m' : Int), Fine r' m' → xs[j]? = some x → Q x (upd H p (.lst (Two r' m')))
theorem scCh : FnScope ["stream", "items"] ["stream", "items"] (defScope sPick) := ⟨rfl, rfl, rfl, by decide +kernel, rfl, by decide +kernel, by decide +kernel⟩
theorem keepL {H : Hp} {p l : Addr} {o : HO} {xs : List V} (hne : l ≠ p) (h : SqL K H l xs) : SqL K (upd H p o) l xs := by
  rcases h with (h | ⟨o, h⟩) | h
  · exact .inl (.inl (by rw [upd_ne hne]; exact h))
  · exact .inl (.inr ⟨o, by rw [upd_ne hne]; exact h⟩)
  · exact .inr h
theorem keepS {H : Hp} {p l : Addr} {o : HO} {xs : List V} (hne : l ≠ p) (h : SqT K H l xs) : SqT K (upd H p o) l xs := by
  rcases h with (h | ⟨o, h⟩) | h
  · exact .inl (.inl (by rw [upd_ne hne]; exact h))
  · exact .inl (.inr ⟨o, by rw [upd_ne hne]; exact h⟩)
  · exact .inr h
theorem ok_choose {f : Addr} {fd : FuncData} (F : Fun K "_law_choose" "_law_choose" sPick f fd) (hlen : mg "len" = none) (DR : Y.Df P w K mg base 1 "_law_draw" ["stream", "size"] spDraw) : FnOk P w K mg base CX0 2 f fd ["stream", "items"] (spChoose K) := by
  obtain ⟨fD, fdD, GD, gD, kD, bD⟩ := DR.ex
  refine F.ok scCh (fun vs H Q E h => ?_) (fun cdv A outer s H vs Q E hr h => ?_)
  · obtain ⟨p, l, r, m, xs, rfl, _⟩ := h
    rfl
  · obtain ⟨p, l, r, m, xs, rfl, hp, hf, hne, hL, l1, l2, k⟩ := h
    refine ⟨_, pss_one (ps_ret (pe_ix (ix_or ix_list ix_tup) (pv 1) (pe_call GD hr rfl gD kD bD .nil pass0 (pa_cons (pv 0) (pa_cons (pe_callB call_len_seq (by rfl) hlen PySem.boot_len (pa_cons (pv 1) pa_nil)) pa_nil))) (fun _ _ => rfl))), ?_⟩
    refine ⟨_, rfl, _, rfl, _, rfl, l, xs, rfl, hL, p, r, m, _, rfl, hp, hf, by omega, ?_, fun j r' m' hf' h0 h1 => ?_⟩
    · exact PySem.Flt.log2_lt_of (k := 9000) (by decide) (Nat.lt_of_lt_of_le (by omega : _ < 1001) (Nat.le_trans (by decide : 1001 ≤ 2 ^ 10) (Nat.pow_le_pow_right (by decide) (by decide))))
    · obtain ⟨n, rfl⟩ := Int.eq_ofNat_of_zero_le h0
      have hn : n < xs.length := by omega
      have hit : xs[n]? = some xs[n] := List.getElem?_eq_getElem hn
      rcases hL with hL | hL
      · exact .inl ⟨l, xs, _, xs[n], rfl, rfl, keepL hne hL, atI_nat hit, k n _ r' m' hf' hit⟩
      · exact .inr ⟨l, xs, _, xs[n], rfl, rfl, keepS hne hL, atI_nat hit, k n _ r' m' hf' hit⟩
end
end S

end
section
set_option autoImplicit false
set_option Elab.async false
set_option linter.all false
set_option maxRecDepth 100000
set_option maxHeartbeats 4000000
/-! ## draws: what they leave -/
namespace Y
open PySem L2 G
/-- all but the source at p stays -/
def Bt (p : Addr) (H H' : Hp) : Prop := (∀ a o, a ≠ p → H a = some o → H' a = some o) ∧ S.At H' p
theorem Bt.trans {p : Addr} {H H1 H2 : Hp} (a : Bt p H H1) (b : Bt p H1 H2) : Bt p H H2 := ⟨fun x o n e => b.1 x o n (a.1 x o n e), b.2⟩
theorem Bt.same {p : Addr} {H H' : Hp} (s : Same H H') (h : S.At H p) : Bt p H H' := by
  obtain ⟨r, m, e, f⟩ := h
  exact ⟨fun a o _ e2 => s _ _ e2, r, m, s _ _ e, f⟩
theorem Bt.put {p : Addr} {H : Hp} {r m : Int} (f : S.Fine r m) : Bt p H (upd H p (.lst (S.Two r m))) := ⟨fun a o n e => by rw [upd_ne n]; exact e, r, m, upd_same, f⟩
theorem Bt.new {p u : Addr} {H : Hp} (o : HO) (h : S.At H p) (hu : H u = none) : Bt p H (upd H u o) := Bt.same (of_upd hu) h
theorem at_ne {H : Hp} {p L : Addr} (h : S.At H p) (hL : H L = none) : L ≠ p := fun e => by
  obtain ⟨r, m, e2, _⟩ := h
  rw [e, e2] at hL
  cases hL
theorem bt_lst {p L : Addr} {H H' : Hp} {o : HO} (b : Bt p H H') (ne : L ≠ p) (h : H L = some o) : H' L = some o := b.1 L _ ne h
theorem sameAt {p : Addr} {H H' : Hp} (s : Same H H') (h : S.At H p) : S.At H' p := by
  obtain ⟨r, m, e, f⟩ := h
  exact ⟨r, m, s _ _ e, f⟩
theorem sameBt {p : Addr} {H G G' : Hp} (s : Same H G) (n : H p = none) (b : Bt p G G') : Same H G' := fun a o e => b.1 a o (fun z => by rw [z, n] at e; cases e) (s a o e)
theorem draw_at {H : Hp} {Q : VK} {E : XK} {p : Addr} {n : Int} (h : S.At H p) (n1 : 1 ≤ n) (n2 : n.natAbs.log2 < 9000) (k : ∀ j H', 0 ≤ j → j < n → Bt p H H' → Q (.int j) H') : S.spDraw [.ref p, .int n] H Q E := by
  obtain ⟨r, m, hp, hf⟩ := h
  exact ⟨p, r, m, n, rfl, hp, hf, n1, n2, fun j r1 m1 f1 j0 j1 => k j _ j0 j1 (Bt.put f1)⟩
/-- a draw as it stands in an expression: below a written number, or below what a name holds -/
theorem draw_vv {σ : L2.St} {H : Hp} {Q : VK} {E : XK} {p : Addr} {i : Nat} {n : Int} (hσ : σ[i]? = some (some (.ref p))) (h : S.At H p) (n1 : 1 ≤ n) (n2 : n.natAbs.log2 < 9000) (k : ∀ j H', 0 ≤ j → j < n → Bt p H H' → Q (.int j) H') : tCall S.spDraw [] E (tCons (tVar i) (tCons (tC (.int n)) tNil)) σ H Q := ⟨_, hσ, draw_at (E := E) h n1 n2 k⟩
theorem draw_var {σ : L2.St} {H : Hp} {Q : VK} {E : XK} {p : Addr} {i j : Nat} {n : Int} (hσ : σ[i]? = some (some (.ref p))) (hj : σ[j]? = some (some (.int n))) (h : S.At H p) (n1 : 1 ≤ n) (n2 : n.natAbs.log2 < 9000) (k : ∀ j H', 0 ≤ j → j < n → Bt p H H' → Q (.int j) H') : tCall S.spDraw [] E (tCons (tVar i) (tCons (tVar j) tNil)) σ H Q := ⟨_, hσ, _, hj, draw_at (E := E) h n1 n2 k⟩
theorem draw_of {σ : L2.St} {H : Hp} {Q : VK} {p : Addr} {E : XK} {i : Nat} {c n : Int} (hσ : σ[i]? = some (some (.ref p))) (h : S.At H p) (n1 : 1 ≤ n) (n2 : n.natAbs.log2 < 9000) (k : ∀ j H', 0 ≤ j → j < n → Bt p H H' → Q (.int (c + j)) H') :
    tOp (rI0 fun i j => .int (i + j)) (tC (.int c)) (tCall S.spDraw [] E (tCons (tVar i) (tCons (tC (.int n)) tNil))) σ H Q := by
  obtain ⟨r, m, hp, hf⟩ := h
  exact ⟨_, hσ, p, r, m, n, rfl, hp, hf, n1, n2, fun j r1 m1 f1 j0 j1 => ⟨_, _, rfl, rfl, k j _ j0 j1 (Bt.put f1)⟩⟩
theorem draw_w {σ : L2.St} {H : Hp} {Q : VK} {E : XK} {p : Addr} {i j : Nat} {c n : Int} (hσ : σ[i]? = some (some (.ref p))) (hj : σ[j]? = some (some (.int n))) (h : S.At H p) (n1 : 1 ≤ n) (n2 : n.natAbs.log2 < 9000) (k : ∀ x H', 0 ≤ x → x < n → Bt p H H' → Q (.int (c + x)) H') :
    tOp (rI0 fun i j => .int (i + j)) (tC (.int c)) (tCall S.spDraw [] E (tCons (tVar i) (tCons (tVar j) tNil))) σ H Q := by
  obtain ⟨r, m, hp, hf⟩ := h
  exact ⟨_, hσ, _, hj, p, r, m, n, rfl, hp, hf, n1, n2, fun x r1 m1 f1 j0 j1 => ⟨_, _, rfl, rfl, k x _ j0 j1 (Bt.put f1)⟩⟩
/-- a pick from a list just made -/
theorem pick_at {K : PySem.W.Frag} {H : Hp} {Q : VK} {p l : Addr} {E : XK} {xs : List V} (h : S.At H p) (hl : H l = none) (h1 : 1 ≤ xs.length) (h2 : xs.length ≤ 1000) (k : ∀ x H', x ∈ xs → Bt p H H' → Q x H') : S.spPick K [.ref p, .ref l] (upd H l (.lst xs)) Q E := by
  obtain ⟨r, m, hp, hf⟩ := h
  have lp : l ≠ p := fun z => by
    rw [z, hp] at hl
    cases hl
  exact ⟨p, l, r, m, xs, rfl, by rw [upd_ne lp.symm]; exact hp, hf, lp, SqL.of upd_same, h1, h2, fun j x r2 m2 f2 hx => k x _ (List.mem_of_getElem? hx) ((Bt.same (of_upd hl) ⟨r, m, hp, hf⟩).trans (Bt.put f2))⟩
theorem pick_of {K : PySem.W.Frag} {σ : L2.St} {H : Hp} {Q : VK} {p : Addr} {E : XK} {i : Nat} {xs : List V} {ta : TA} (hσ : σ[i]? = some (some (.ref p))) (h : S.At H p) (h1 : 1 ≤ xs.length) (h2 : xs.length ≤ 1000) (ha : ∀ Q2 : List V → Hp → Prop, Q2 xs H → ta σ H Q2) (k : ∀ x H', x ∈ xs → Bt p H H' → Q x H') :
    tCall (S.spPick K) [] E (tCons (tVar i) (tCons (tLst ta) tNil)) σ H Q := ⟨_, hσ, ha _ ⟨Nat.le_trans h2 (by decide), fun l hl => pick_at (E := E) h hl h1 h2 k⟩⟩
end Y

end
section
set_option autoImplicit false
set_option Elab.async false
set_option linter.all false
set_option maxRecDepth 100000
set_option maxHeartbeats 4000000
/-! ## plans of ways, as the law draws them; their ways -/
namespace M
def isz : Step → Nat
  | .tunnel w _ _ => w.size
  | .road _ _ _ => 0
  | .join _ => 0
theorem inner_cons : ∀ (s : Step) (r : List Step), Step.inner (s :: r) = isz s + Step.inner r
  | .tunnel w a b, r => by
    conv => lhs; unfold Step.inner
    rfl
  | .road a b c, r => by
    conv => lhs; unfold Step.inner
    exact (Nat.zero_add _).symm
  | .join a, r => by
    conv => lhs; unfold Step.inner
    exact (Nat.zero_add _).symm
/-- how great inner ways of steps are, and ways, by the depth that is drawn -/
def bs : Nat → Nat
  | 0 => 0
  | 1 => 2
  | _ + 2 => 9
def zs : Nat → Nat
  | 0 => 2
  | 1 => 9
  | _ + 2 => 40
def SmStep (d h : Nat) (y : Step) : Prop := Step.fine h y ∧ Step.dep y ≤ d ∧ isz y ≤ bs d
structure Sm (d : Nat) (w : Way) : Prop where
  fine : w.fine
  dp : w.depth ≤ d + 1
  sz : w.size ≤ zs d
  ln : w.steps.length ≤ d + 2
theorem sm_all {d h : Nat} : ∀ {s : List Step}, (∀ y ∈ s, SmStep d h y) → Step.fineAll h s ∧ Step.deepest s ≤ d ∧ Step.inner s ≤ s.length * bs d
  | [], _ => ⟨by unfold Step.fineAll; trivial, by unfold Step.deepest; omega, by unfold Step.inner; omega⟩
  | y :: r, q => by
    obtain ⟨a, b, c⟩ := q y List.mem_cons_self
    obtain ⟨e, f, g⟩ := sm_all (s := r) fun z hz => q z (List.mem_cons_of_mem _ hz)
    refine ⟨by unfold Step.fineAll; exact ⟨a, e⟩, by rw [deep_cons]; omega, ?_⟩
    rw [inner_cons, List.length_cons, Nat.add_mul]
    omega
theorem sm_way {d h : Nat} {s : List Step} (hd : d ≤ 2) (h1 : 1 ≤ h) (h2 : h ≤ 40) (l1 : 1 ≤ s.length) (l2 : s.length ≤ d + 2) (q : ∀ y ∈ s, SmStep d h y) : Sm d (.mk h s) := by
  obtain ⟨a, b, c⟩ := sm_all q
  have c2 : s.length + Step.inner s ≤ zs d := by
    match d, hd, l2, c with
    | 0, _, l2, c =>
      have c : Step.inner s ≤ s.length * 0 := c
      show s.length + Step.inner s ≤ 2
      omega
    | 1, _, l2, c =>
      have c : Step.inner s ≤ s.length * 2 := c
      show s.length + Step.inner s ≤ 9
      omega
    | 2, _, l2, c =>
      have c : Step.inner s ≤ s.length * 9 := c
      show s.length + Step.inner s ≤ 40
      omega
  have c3 : zs d ≤ 40 := by
    match d with
    | 0 => decide
    | 1 => decide
    | _ + 2 => exact Nat.le_refl 40
  refine ⟨?_, by unfold Way.depth; omega, by unfold Way.size; exact c2, l2⟩
  unfold Way.fine
  exact ⟨by omega, by omega, a, by omega, by omega⟩
theorem zs_bs {d : Nat} (h : d ≠ 0) (hd : d ≤ 2) : zs (d - 1) ≤ bs d := by
  match d, hd with
  | 0, _ => exact absurd rfl h
  | 1, _ => decide
  | 2, _ => decide
end M
namespace CP
open PySem L2 G Y
abbrev sLPlan : Stmt := S.top 60
abbrev sLMost : Stmt := S.top 61
abbrev sLStep : Stmt := S.top 62
abbrev sLWay : Stmt := S.top 63
theorem choose_at {K : PySem.W.Frag} {H : Hp} {Q : VK} {p l : Addr} {E : XK} {xs : List V} (h : S.At H p) (ne : l ≠ p) (hl : SqL K H l xs ∨ SqT K H l xs) (h1 : 1 ≤ xs.length) (h2 : xs.length ≤ 1000) (k : ∀ x H', x ∈ xs → Bt p H H' → Q x H') : S.spChoose K [.ref p, .ref l] H Q E := by
  obtain ⟨r, m, hp, hf⟩ := h
  exact ⟨p, l, r, m, xs, rfl, hp, hf, ne, hl, h1, h2, fun j x r2 m2 f2 hx => k x _ (List.mem_of_getElem? hx) (Bt.put f2)⟩
theorem choose_new {K : PySem.W.Frag} {H : Hp} {Q : VK} {p l : Addr} {E : XK} {xs : List V} (h : S.At H p) (hl : H l = none) (h1 : 1 ≤ xs.length) (h2 : xs.length ≤ 1000) (k : ∀ x H', x ∈ xs → Bt p H H' → Q x H') : S.spChoose K [.ref p, .ref l] (upd H l (.lst xs)) Q E :=
  choose_at (sameAt (of_upd hl) h) (at_ne h hl) (.inl (SqL.of upd_same)) h1 h2 fun x H' hx b => k x H' hx ((Bt.same (of_upd hl) h).trans b)
theorem choose_of {K : PySem.W.Frag} {σ : L2.St} {H : Hp} {Q : VK} {p : Addr} {E : XK} {i : Nat} {xs : List V} {ta : TA} (hσ : σ[i]? = some (some (.ref p))) (h : S.At H p) (h1 : 1 ≤ xs.length) (h2 : xs.length ≤ 1000) (ha : ∀ Q2 : List V → Hp → Prop, Q2 xs H → ta σ H Q2) (k : ∀ x H', x ∈ xs → Bt p H H' → Q x H') :
    tCall (S.spChoose K) [] E (tCons (tVar i) (tCons (tLst ta) tNil)) σ H Q := ⟨_, hσ, ha _ ⟨Nat.le_trans h2 (by decide), fun l hl => choose_new (E := E) h hl h1 h2 k⟩⟩
theorem draw_te {σ : L2.St} {H : Hp} {Q : VK} {E : XK} {p : Addr} {i : Nat} {n : Int} {te : TE} (hσ : σ[i]? = some (some (.ref p))) (ht : ∀ Q2 : VK, Q2 (.int n) H → te σ H Q2) (h : S.At H p) (n1 : 1 ≤ n) (n2 : n.natAbs.log2 < 9000) (k : ∀ j H', 0 ≤ j → j < n → Bt p H H' → Q (.int j) H') : tCall S.spDraw [] E (tCons (tVar i) (tCons te tNil)) σ H Q := ⟨_, hσ, ht _ (draw_at (E := E) h n1 n2 k)⟩
theorem bt_keepT {p : Addr} {H H' : Hp} (b : Bt p H H') (h : S.At H p) : KeepT H H' := fun a o n e => b.1 a o (fun z => by
  obtain ⟨r, m, e2, _⟩ := h
  rw [z, e2] at e
  cases e
  exact n _ rfl) e
theorem KeepT.trans {H H1 H2 : Hp} (a : KeepT H H1) (b : KeepT H1 H2) : KeepT H H2 := fun x o n e => b x o n (a x o n e)
theorem KeepT.tup {H H' : Hp} {t : Addr} {xs : List V} (k : KeepT H H') (h : H t = some (.tup xs)) : H' t = some (.tup xs) := k _ _ (fun _ z => by cases z) h
mutual
/-- a plan of a way: a head, a tuple of its steps; ways in tunnels are plans, too -/
def PlanAt (H : Hp) : M.Way → V → Prop
  | .mk h s, v => ∃ t L xs, v = .ref t ∧ H t = some (.tup [.int (h : Int), .ref L]) ∧ H L = some (.tup xs) ∧ PlAll H s xs
def PlAll (H : Hp) : List M.Step → List V → Prop
  | [], xs => xs = []
  | s :: r, xs => ∃ x ys, xs = x :: ys ∧ PlStep H s x ∧ PlAll H r ys
def PlStep (H : Hp) : M.Step → V → Prop
  | .road size ts lw, x => ∃ t, x = .ref t ∧ H t = some (.tup [.str "road", .int (size : Int), .str (WP.sdS ts), .str (WP.lwS lw)])
  | .join most, x => ∃ t, x = .ref t ∧ H t = some (.tup [.str "join", .int (most : Int)])
  | .tunnel w most tw, x => ∃ t v, x = .ref t ∧ H t = some (.tup [.str "tunnel", v, .int (most : Int), .str (WP.twS tw)]) ∧ PlanAt H w v
end
mutual
theorem PlanAt.keep {H H' : Hp} (s : KeepT H H') : ∀ {w : M.Way} {v : V}, PlanAt H w v → PlanAt H' w v
  | .mk h st, v, x => by
    unfold PlanAt at x ⊢
    obtain ⟨t, L, xs, e, h1, h2, h3⟩ := x
    exact ⟨t, L, xs, e, s.tup h1, s.tup h2, PlAll.keep s h3⟩
theorem PlAll.keep {H H' : Hp} (s : KeepT H H') : ∀ {st : List M.Step} {xs : List V}, PlAll H st xs → PlAll H' st xs
  | [], xs, x => by
    unfold PlAll at x ⊢
    exact x
  | y :: r, xs, x => by
    unfold PlAll at x ⊢
    obtain ⟨u, ys, e, h1, h2⟩ := x
    exact ⟨u, ys, e, PlStep.keep s h1, PlAll.keep s h2⟩
theorem PlStep.keep {H H' : Hp} (s : KeepT H H') : ∀ {st : M.Step} {x : V}, PlStep H st x → PlStep H' st x
  | .road size ts lw, v, x => by
    unfold PlStep at x ⊢
    obtain ⟨t, e, h⟩ := x
    exact ⟨t, e, s.tup h⟩
  | .join most, v, x => by
    unfold PlStep at x ⊢
    obtain ⟨t, e, h⟩ := x
    exact ⟨t, e, s.tup h⟩
  | .tunnel w most tw, v, x => by
    unfold PlStep at x ⊢
    obtain ⟨t, u, e, h, h2⟩ := x
    exact ⟨t, u, e, s.tup h, PlanAt.keep s h2⟩
end
theorem PlAll.snoc {H : Hp} : ∀ {s : List M.Step} {xs : List V} {y : M.Step} {x : V}, PlAll H s xs → PlStep H y x → PlAll H (s ++ [y]) (xs ++ [x])
  | [], xs, y, x, h, h2 => by
    unfold PlAll at h
    subst h
    show PlAll H [y] [x]
    unfold PlAll
    exact ⟨x, [], rfl, h2, by unfold PlAll; rfl⟩
  | z :: s, xs, y, x, h, h2 => by
    unfold PlAll at h
    obtain ⟨u, ys, rfl, h3, h4⟩ := h
    show PlAll H (z :: (s ++ [y])) (u :: (ys ++ [x]))
    unfold PlAll
    exact ⟨u, ys ++ [x], rfl, h3, PlAll.snoc h4 h2⟩
theorem PlAll.len {H : Hp} : ∀ {s : List M.Step} {xs : List V}, PlAll H s xs → xs.length = s.length
  | [], xs, h => by
    unfold PlAll at h
    rw [h]
    rfl
  | z :: s, xs, h => by
    unfold PlAll at h
    obtain ⟨u, ys, rfl, _, h4⟩ := h
    rw [List.length_cons, List.length_cons, PlAll.len h4]
theorem PlAll.get {H : Hp} : ∀ {s : List M.Step} {xs : List V} {i : Nat} {x : V}, PlAll H s xs → xs[i]? = some x → ∃ y, s[i]? = some y ∧ PlStep H y x
  | [], xs, i, x, h, e => by
    unfold PlAll at h
    subst h
    cases e
  | z :: s, xs, i, x, h, e => by
    unfold PlAll at h
    obtain ⟨u, ys, rfl, h3, h4⟩ := h
    cases i with
    | zero =>
      cases e
      exact ⟨z, rfl, h3⟩
    | succ i => exact PlAll.get (i := i) h4 e
theorem sd_of {x : V} (h : x ∈ [V.str "tell", V.str "tell", V.str "drop"]) : ∃ ts, x = .str (WP.sdS ts) := by
  rcases List.mem_cons.mp h with e | h
  · exact ⟨true, e⟩
  rcases List.mem_cons.mp h with e | h
  · exact ⟨true, e⟩
  · have e : x = V.str "drop" := by simpa using h
    exact ⟨false, e⟩
theorem lw_of {x : V} (h : x ∈ [V.str "cut", V.str "cut", V.str "cut", V.str "tell", V.str "drop"]) : ∃ lw, x = .str (WP.lwS lw) := by
  rcases List.mem_cons.mp h with e | h
  · exact ⟨.cut, e⟩
  rcases List.mem_cons.mp h with e | h
  · exact ⟨.cut, e⟩
  rcases List.mem_cons.mp h with e | h
  · exact ⟨.cut, e⟩
  rcases List.mem_cons.mp h with e | h
  · exact ⟨.tell, e⟩
  · have e : x = V.str "drop" := by simpa using h
    exact ⟨.drop, e⟩
theorem tw_of {x : V} (h : x ∈ [V.str "turn", V.str "turn", V.str "keep", V.str "lose"]) : ∃ tw, x = .str (WP.twS tw) := by
  rcases List.mem_cons.mp h with e | h
  · exact ⟨.turn, e⟩
  rcases List.mem_cons.mp h with e | h
  · exact ⟨.turn, e⟩
  rcases List.mem_cons.mp h with e | h
  · exact ⟨.keep, e⟩
  · have e : x = V.str "lose" := by simpa using h
    exact ⟨.lose, e⟩
section
variable {P : Program} {w : World} {K : PySem.W.Frag} {mg : Str → Option Value} {base : Heap} {C CW : Addr}
def spLMost : Sp := fun vs H Q _ => ∃ p, vs = [.ref p] ∧ S.At H p ∧ ∀ (m : Nat) H', 1 ≤ m → m ≤ 1000000000000 → Bt p H H' → Q (.int (m : Int)) H'
theorem scLm : FnScope ["stream"] ["stream"] (defScope sLMost) := ⟨rfl, rfl, rfl, by decide +kernel, rfl, by decide +kernel, by decide +kernel⟩
theorem ok_lmost {f : Addr} {fd : FuncData} (F : Fun K "_law_most" "_law_most" sLMost f fd) (DD : Df P w K mg base 1 "_law_draw" ["stream", "size"] S.spDraw) (DP : Df P w K mg base 2 "_law_choose" ["stream", "items"] (S.spChoose K)) : FnOk P w K mg base CX0 3 f fd ["stream"] spLMost := by
  obtain ⟨fD, fdD, GD, gD, kD, bD⟩ := DD.ex
  obtain ⟨fP, fdP, GP, gP, kP, bP⟩ := DP.ex
  refine F.ok scLm (fun vs H Q E h => ?_) (fun cdv A outer s H vs Q E hr h => ?_)
  · obtain ⟨p, rfl, _⟩ := h
    rfl
  · obtain ⟨p, rfl, hp, kk⟩ := h
    refine ⟨_, pss_one (ps_ret (pe_call GP (hr.mono (by omega)) rfl gP kP bP .nil pass0 (pa_cons (pv 0) (pa_cons (pe_lst (pa_cons (pe_int) (pa_cons (pe_int) (pa_cons (pe_int) (pa_cons (pe_int) (pa_cons (pe_op op_add (pe_int) (pe_call GD (hr.mono (by omega)) rfl gD kD bD .nil pass0 (pa_cons (pv 0) (pa_cons (pe_int) pa_nil)))) (pa_cons (pe_op op_powN pe_int pe_int) (pa_cons (pe_op op_sub (pe_op op_powN pe_int pe_int) (pe_int)) pa_nil)))))))) pa_nil)))), ?_⟩
    refine ⟨_, rfl, draw_of rfl hp (by decide) (by decide +kernel) fun j H1 j0 j1 b1 => ⟨10, 12, rfl, rfl, ⟨by decide, by decide +kernel⟩, 10, 12, rfl, rfl, ⟨by decide, by decide +kernel⟩, _, _, rfl, rfl, (by show 7 ≤ sizeLine; decide), fun l hl => ?_⟩⟩
    refine choose_new (E := E0) b1.2 hl (by show 1 ≤ 7; decide) (by show 7 ≤ 1000; decide) fun x H2 hx b2 => ?_
    have bt := b1.trans b2
    have fin : ∀ n : Nat, x = .int (n : Int) → 1 ≤ n → n ≤ 1000000000000 → Q x H2 := fun n e a b => by
      subst e
      exact kk n _ a b bt
    simp only [List.append_nil, List.cons_append, List.nil_append, List.mem_cons, List.mem_nil_iff, or_false] at hx
    rcases hx with e | e | e | e | e | e | e
    · exact fin 1 e (by decide) (by decide)
    · exact fin 2 e (by decide) (by decide)
    · exact fin 3 e (by decide) (by decide)
    · exact fin 4 e (by decide) (by decide)
    · exact fin (1 + j).toNat (e.trans (congrArg V.int (by omega))) (by omega) (by omega)
    · exact fin 1000000000000 (e.trans (congrArg V.int (by decide +kernel))) (by decide) (by decide)
    · exact fin 999999999999 (e.trans (congrArg V.int (by decide +kernel))) (by decide) (by decide)
def spLPlan (n : Nat) : Sp := fun vs H Q _ => ∃ (p : Addr) (d b : Nat), vs = [.ref p, .int (d : Int), .int (b : Int)] ∧ S.At H p ∧ d < n ∧ d ≤ 2 ∧ b ≤ 40 ∧ ∀ wy v H', Bt p H H' → PlanAt H' wy v → M.Sm d wy → Q v H'
def spLStep (n : Nat) : Sp := fun vs H Q _ => ∃ (p : Addr) (d b h : Nat), vs = [.ref p, .int (d : Int), .int (b : Int), .int (h : Int)] ∧ S.At H p ∧ d ≤ n ∧ d ≤ 2 ∧ b ≤ 40 ∧ 1 ≤ h ∧ h ≤ 40 ∧ ∀ st v H', Bt p H H' → PlStep H' st v → M.SmStep d h st → Q v H'
abbrev NPs : List Str := ["stream", "depth", "base", "head", "sort", "cut", "word", "inner", "tells"]
theorem scPs : FnScope NPs ["stream", "depth", "base", "head"] (defScope sLStep) := ⟨rfl, rfl, rfl, by decide +kernel, rfl, by decide +kernel, by decide +kernel⟩
theorem ok_lstep {k n : Nat} {f : Addr} {fd : FuncData} (F : Fun K "_law_plan_step" "_law_plan_step" sLStep f fd) (hk : 3 ≤ k) (B : Bn mg) (DD : Df P w K mg base 1 "_law_draw" ["stream", "size"] S.spDraw) (DP : Df P w K mg base 2 "_law_choose" ["stream", "items"] (S.spChoose K)) (DM : Df P w K mg base 3 "_law_most" ["stream"] spLMost)
    (DL : Df P w K mg base k "_law_plan" ["stream", "depth", "base"] (spLPlan n)) : FnOk P w K mg base CX0 (k + 1) f fd ["stream", "depth", "base", "head"] (spLStep n) := by
  obtain ⟨fD, fdD, GD, gD, kD, bD⟩ := DD.ex
  obtain ⟨fP, fdP, GP, gP, kP, bP⟩ := DP.ex
  obtain ⟨fM, fdM, GM, gM, kM, bM⟩ := DM.ex
  obtain ⟨fL, fdL, GL, gL, kL, bL⟩ := DL.ex
  refine F.ok scPs (fun vs H Q E h => ?_) (fun cdv A outer s H vs Q E hr h => ?_)
  · obtain ⟨p, d, b, h, rfl, _⟩ := h
    rfl
  · obtain ⟨p, d, b, h, rfl, hp, hdn, hd, hb, h1, h2, kk⟩ := h
    refine ⟨_, pss_cons (ps_set (i := 4) scPs.nd rfl (Or.inl rfl) (pe_call GD (hr.mono (by omega)) rfl gD kD bD .nil pass0 (pa_cons (pv 0) (pa_cons (pe_int) pa_nil))))
      (pss_cons (ps_if (pt_cmpR (op_lt) (pv 4) (pe_int) (nomark _)) (pss_cons (ps_set (i := 5) scPs.nd rfl (Or.inl rfl) (pe_callB (call_max2 rfl) (by rfl) B.max (by decide +kernel) (pa_cons (pe_int) (pa_cons (pe_op op_sub (pe_op op_add (pv 2) (pe_call GD (hr.mono (by omega)) rfl gD kD bD .nil pass0 (pa_cons (pv 0) (pa_cons (pe_int) pa_nil)))) (pe_op op_mul (pe_int) (pe_callTy call_int1 (by rfl) B.int (by decide +kernel) (pa_cons (pe_cmpR (op_gt) (pv 2) (pe_int) (nomark _)) pa_nil)))) pa_nil))))
      (pss_cons (ps_if (pt_cmpR (op_eq) (pe_call GD (hr.mono (by omega)) rfl gD kD bD .nil pass0 (pa_cons (pv 0) (pa_cons (pe_int) pa_nil))) (pe_int) (nomark _)) (pss_one (ps_set (i := 5) scPs.nd rfl (Or.inl rfl) (pe_op op_sub (pe_op op_sub (pe_int) (pv 3)) (pe_call GD (hr.mono (by omega)) rfl gD kD bD .nil pass0 (pa_cons (pv 0) (pa_cons (pe_int) pa_nil)))))) (pss_nil))
      (pss_cons (ps_set (i := 6) scPs.nd rfl (Or.inl rfl) (pe_call GP (hr.mono (by omega)) rfl gP kP bP .nil pass0 (pa_cons (pv 0) (pa_cons (pe_lst (pa_cons (pe_str) (pa_cons (pe_str) (pa_cons (pe_str) pa_nil)))) pa_nil))))
      (pss_one (ps_ret (pe_tup (pa_cons (pe_str) (pa_cons (pe_op op_add (pv 3) (pv 5)) (pa_cons (pv 6) (pa_cons (pe_call GP (hr.mono (by omega)) rfl gP kP bP .nil pass0 (pa_cons (pv 0) (pa_cons (pe_lst (pa_cons (pe_str) (pa_cons (pe_str) (pa_cons (pe_str) (pa_cons (pe_str) (pa_cons (pe_str) pa_nil)))))) pa_nil))) pa_nil)))))))))) (pss_nil))
      (pss_cons (ps_if (PW.pt (pw_or (pt_cmpR (op_lt) (pv 4) (pe_int) (nomark _)) (pw_or1 (pt_cmpR (op_eq) (pv 1) (pe_int) (nomark _))))) (pss_one (ps_ret (pe_tup (pa_cons (pe_str) (pa_cons (pe_call GM (hr.mono (by omega)) rfl gM kM bM .nil pass0 (pa_cons (pv 0) pa_nil)) pa_nil))))) (pss_nil))
      (pss_cons (ps_par (i := 7) (j := 8) (by rfl) scPs.nd rfl rfl (by decide) rfl rfl (pa_cons (pe_call GL (hr.mono (by omega)) rfl gL kL bL .nil pass0 (pa_cons (pv 0) (pa_cons (pe_op op_sub (pv 1) (pe_int)) (pa_cons (pv 3) pa_nil)))) (pa_cons (pe_call GP (hr.mono (by omega)) rfl gP kP bP .nil pass0 (pa_cons (pv 0) (pa_cons (pe_lst (pa_cons (pe_str) (pa_cons (pe_str) (pa_cons (pe_str) (pa_cons (pe_str) pa_nil))))) pa_nil))) pa_nil)) (by rfl))
      (pss_one (ps_ret (pe_tup (pa_cons (pe_str) (pa_cons (pv 7) (pa_cons (pe_call GM (hr.mono (by omega)) rfl gM kM bM .nil pass0 (pa_cons (pv 0) pa_nil)) (pa_cons (pv 8) pa_nil)))))))))), ?_⟩
    refine set_then (i := 4) (draw_vv rfl hp (by decide) (by decide +kernel) fun j H1 a0 a1 b1 => ?_)
    refine ⟨_, rfl, _, _, rfl, rfl, _, rfl, ite2 (fun c => ?_) (fun c => ?_)⟩
    · refine set_then (i := 5) ⟨_, rfl, draw_vv rfl b1.2 (by decide) (by decide +kernel) fun j2 H2 c0 c1 b2 => ?_⟩
      refine ⟨_, _, rfl, rfl, _, rfl, _, _, rfl, rfl, .inr ⟨_, rfl, _, _, rfl, rfl, .inl ⟨?_, ?_⟩, _, _, rfl, rfl, _, _, rfl, ?_⟩⟩
      · decide
      · decide
      have mz : ∀ (t : Int), (t = 0 ∨ t = 1) → (b = 0 → t = 0) → ∃ c5 : Nat, V.int (if (b : Int) + j2 - 2 * t > 1 then (b : Int) + j2 - 2 * t else 1) = V.int (c5 : Int) ∧ 1 ≤ c5 ∧ c5 ≤ 60 := fun t ht hb0 => by
        split
        · exact ⟨((b : Int) + j2 - 2 * t).toNat, congrArg V.int (by omega), by omega, by omega⟩
        · exact ⟨1, rfl, by decide, by decide⟩
      obtain ⟨c5, e5, c6, c7⟩ := mz (if decide ((b : Int) > 0) = true then 1 else 0) (by split <;> simp) (fun e => by subst e; rfl)
      rw [e5]
      have b12 := b1.trans b2
      refine if_then (fun σ' G => Bt p H G ∧ ∃ (c8 : Nat) (q6 q7 q8 : Option V), 1 ≤ c8 ∧ h + c8 ≤ 1000 ∧ σ' = [some (.ref p), some (.int (d : Int)), some (.int (b : Int)), some (.int (h : Int)), some (.int j), some (.int (c8 : Int)), q6, q7, q8]) ?r1 (fun k1 => ?_)
      case r1 =>
        rintro σ' G ⟨bG, c8, q6, q7, q8, l1, l2, rfl⟩
        refine set_then (i := 6) (choose_of rfl bG.2 (by decide) (by decide) (fun Q2 q => q) fun x H3 hx b3 => ?_)
        obtain ⟨ts, rfl⟩ := sd_of hx
        refine ⟨_, rfl, _, rfl, _, _, rfl, rfl, _, rfl, ?_⟩
        refine choose_of rfl b3.2 (by decide) (by decide) (fun Q2 q => q) fun y H4 hy b4 => ⟨(by show 4 ≤ sizeLine; decide), fun t ht => ?_⟩
        obtain ⟨lw, rfl⟩ := lw_of hy
        refine kk (.road (h + c8) ts lw) _ _ ((bG.trans (b3.trans b4)).trans (Bt.new _ b4.2 ht)) ?_ ⟨by unfold M.Step.fine; omega, Nat.zero_le _, Nat.zero_le _⟩
        unfold PlStep
        refine ⟨t, rfl, ?_⟩
        rw [Int.natCast_add]
        exact upd_same
      refine draw_vv rfl b2.2 (by decide) (by decide +kernel) fun j3 H3 d0 d1 b3 => ⟨rfl, _, rfl, ite2 (fun c2 => ?_) (fun c2 => ?_)⟩
      · refine ⟨_, rfl, _, _, rfl, rfl, draw_vv rfl b3.2 (by decide) (by decide +kernel) fun j4 H4 f0 f1 b4 => ⟨_, _, rfl, rfl, ?_⟩⟩
        obtain ⟨c9, e9⟩ : ∃ c9 : Nat, 1000 - (h : Int) - j4 = (c9 : Int) := ⟨(1000 - (h : Int) - j4).toNat, by omega⟩
        refine k1 _ _ ⟨b12.trans (b3.trans b4), c9, none, none, none, by omega, by omega, ?_⟩
        show [some (V.ref p), some (V.int (d : Int)), some (V.int (b : Int)), some (V.int (h : Int)), some (V.int j), some (V.int (1000 - (h : Int) - j4)), none, none, none] = _
        rw [e9]
      · exact k1 _ _ ⟨b12.trans b3, c5, none, none, none, by omega, by omega, rfl⟩
    · have fj : ∀ (m : Nat) (H2 : Hp), 1 ≤ m → m ≤ 1000000000000 → Bt p H1 H2 → ∀ t, H2 t = none → Q (.ref t) (upd H2 t (.tup [.str "join", .int (m : Int)])) := fun m H2 m1 m2 b2 t ht => by
        refine kk (.join m) _ _ ((b1.trans b2).trans (Bt.new _ b2.2 ht)) ?_ ⟨by unfold M.Step.fine; exact ⟨m1, m2⟩, Nat.zero_le _, Nat.zero_le _⟩
        unfold PlStep
        exact ⟨t, rfl, upd_same⟩
      refine ⟨_, rfl, _, _, rfl, rfl, _, rfl, ite2 (fun c2 => ?_) (fun c2 => ?_)⟩
      · exact iteT ⟨_, rfl, p, rfl, b1.2, fun m H2 m1 m2 b2 => ⟨line2.1, fun t ht => fj m H2 m1 m2 b2 t ht⟩⟩
      · refine ⟨_, rfl, rfl, _, rfl, ite2 (fun c3 => ?_) (fun c3 => ?_)⟩
        · exact ⟨_, rfl, p, rfl, b1.2, fun m H2 m1 m2 b2 => ⟨line2.1, fun t ht => fj m H2 m1 m2 b2 t ht⟩⟩
        · have c4 : d ≠ 0 := fun e => c3 (by rw [e]; rfl)
          refine ⟨_, rfl, _, rfl, _, _, rfl, rfl, _, rfl, p, d - 1, h, ?_, b1.2, by omega, by omega, h2, fun wy v H2 b2 pl sm => ?_⟩
          · show [V.ref p, V.int ((d : Int) - 1), V.int (h : Int)] = _
            rw [show (d : Int) - 1 = ((d - 1 : Nat) : Int) by omega]
          refine choose_of rfl b2.2 (by decide) (by decide) (fun Q2 q => q) fun x H3 hx b3 => ⟨_, _, rfl, ?_⟩
          obtain ⟨tw, rfl⟩ := tw_of hx
          refine ⟨_, rfl, _, rfl, p, rfl, b3.2, fun m H4 m1 m2 b4 => ⟨_, rfl, (by show 4 ≤ sizeLine; decide), fun t ht => ?_⟩⟩
          have b5 := b4.trans (Bt.new (.tup [.str "tunnel", v, .int (m : Int), .str (WP.twS tw)]) b4.2 ht)
          refine kk (.tunnel wy m tw) _ _ (b1.trans (b2.trans (b3.trans b5))) ?_ ⟨by unfold M.Step.fine; exact ⟨sm.fine, m1, m2⟩, ?_, ?_⟩
          · unfold PlStep
            exact ⟨t, v, rfl, upd_same, (pl.keep (bt_keepT b3 b2.2)).keep (bt_keepT b5 b3.2)⟩
          · have := sm.dp
            show wy.depth ≤ d
            omega
          · have := sm.sz
            show wy.size ≤ M.bs d
            exact Nat.le_trans this (M.zs_bs c4 hd)
abbrev NPn : List Str := ["stream", "depth", "base", "head", "steps", "turn"]
theorem scPn : FnScope NPn ["stream", "depth", "base"] (defScope sLPlan) := ⟨rfl, rfl, rfl, by decide +kernel, rfl, by decide +kernel, by decide +kernel⟩
theorem ok_lplan {k n : Nat} {f : Addr} {fd : FuncData} (F : Fun K "_law_plan" "_law_plan" sLPlan f fd) (hk : 2 ≤ k) (B : Bn mg) (DD : Df P w K mg base 1 "_law_draw" ["stream", "size"] S.spDraw) (DP : Df P w K mg base 2 "_law_choose" ["stream", "items"] (S.spChoose K))
    (DS : Df P w K mg base k "_law_plan_step" ["stream", "depth", "base", "head"] (spLStep n)) : FnOk P w K mg base CX0 (k + 1) f fd ["stream", "depth", "base"] (spLPlan (n + 1)) := by
  obtain ⟨fD, fdD, GD, gD, kD, bD⟩ := DD.ex
  obtain ⟨fP, fdP, GP, gP, kP, bP⟩ := DP.ex
  obtain ⟨fS, fdS, GS, gS, kS, bS⟩ := DS.ex
  refine F.ok scPn (fun vs H Q E h => ?_) (fun cdv A outer s H vs Q E hr h => ?_)
  · obtain ⟨p, d, b, rfl, _⟩ := h
    rfl
  · obtain ⟨p, d, b, rfl, hp, hdn, hd, hb, kk⟩ := h
    refine ⟨_, pss_cons (ps_set (i := 3) scPn.nd rfl (Or.inr rfl) (pe_call GP (hr.mono (by omega)) rfl gP kP bP .nil pass0 (pa_cons (pv 0) (pa_cons (pe_lst (pa_cons (pe_int) (pa_cons (pe_int) (pa_cons (pe_int) (pa_cons (pe_int) (pa_cons (pe_int) (pa_cons (pe_op op_add (pe_int) (pe_call GD (hr.mono (by omega)) rfl gD kD bD .nil pass0 (pa_cons (pv 0) (pa_cons (pe_int) pa_nil)))) pa_nil))))))) pa_nil))))
      (pss_cons (ps_setLc (i := 4) (own := [("turn", 5)]) (g := gName 5) (tt := tYes) (te := tCall (spLStep n) [] E0 (tCons (tVar 0) (tCons (tVar 1) (tCons (tVar 2) (tCons (tVar 3) tNil))))) rfl scPn.nd rfl rfl (sw_true rfl rfl rfl (by decide +kernel)) (pi_range1 (by rfl) B.range (pa_cons (pe_op op_add (pe_int) (pe_call GD (hr.mono (by omega)) rfl gD kD bD .nil pass0 (pa_cons (pv 0) (pa_cons (pe_op op_add (pv 1) (pe_int)) pa_nil)))) pa_nil)) (blkOk_by (N := NPn) (sc := defScope sLPlan) (by decide +kernel))
          (fun _ _ _ _ _ => pg_name (i := 5) scPn.nd rfl (Or.inl rfl)) (fun _ _ _ _ _ => pts_nil) (fun _ _ _ _ _ => by exact pe_call GS (hr.mono (by omega)) rfl gS kS bS .nil pass0 (pa_cons (pv 0) (pa_cons (pv 1) (pa_cons (pv 2) (pa_cons (pv 3) pa_nil))))))
      (pss_one (ps_ret (pe_tup (pa_cons (pv 3) (pa_cons (pe_callTy call_tuple_of (by rfl) B.tuple (by decide +kernel) (pa_cons (pv 4) pa_nil)) pa_nil)))))), ?_⟩
    refine set_then (i := 3) ⟨_, rfl, draw_of rfl hp (by decide) (by decide +kernel) fun j H1 a0 a1 b1 => ⟨(by show 6 ≤ sizeLine; decide), fun l hl => ?_⟩⟩
    refine choose_new (E := E0) b1.2 hl (by show 1 ≤ 6; decide) (by show 6 ≤ 1000; decide) fun x H2 hx b2 => ?_
    obtain ⟨h, rfl, h1, h2⟩ : ∃ h : Nat, x = .int (h : Int) ∧ 1 ≤ h ∧ h ≤ 40 := by
      simp only [List.append_nil, List.cons_append, List.nil_append, List.mem_cons, List.mem_nil_iff, or_false] at hx
      rcases hx with e | e | e | e | e | e
      · exact ⟨1, e, by decide, by decide⟩
      · exact ⟨2, e, by decide, by decide⟩
      · exact ⟨5, e, by decide, by decide⟩
      · exact ⟨10, e, by decide, by decide⟩
      · exact ⟨3, e, by decide, by decide⟩
      · exact ⟨(1 + j).toNat, e.trans (congrArg V.int (by omega)), by omega, by omega⟩
    replace b2 := b1.trans b2
    have lg : ∀ z : Int, 1 ≤ z → z ≤ 3000 → z.natAbs.log2 < 9000 := fun z h1 h2 => PySem.Flt.log2_lt_of (k := 9000) (by decide) (Nat.lt_of_lt_of_le (by omega : _ < 2 ^ 60) (Nat.pow_le_pow_right (by decide) (by decide)))
    refine set_then (i := 4) (draw_te (n := (d : Int) + 2) rfl (fun Q2 q => ⟨_, rfl, _, _, rfl, rfl, q⟩) b2.2 (by omega) (lg _ (by omega) (by omega)) fun j3 H3 j0 j1 b3 => ⟨_, _, rfl, rfl, _, rfl, by omega, by omega, fun D0 nD => ?_⟩)
    replace b3 := b2.trans b3
    have ne := at_ne b3.2 nD
    refine lc_range (lo := 0) (n := (1 + j3).toNat) (fun i G => Bt p H3 G ∧ ∃ (xs : List V) (sts : List M.Step), G D0 = some (.lst xs) ∧ PlAll G sts xs ∧ sts.length = i ∧ ∀ y ∈ sts, M.SmStep d h y) ⟨Bt.new (.lst []) b3.2 nD, [], [], upd_same, by unfold PlAll; rfl, rfl, fun y hy => by cases hy⟩ ?_ ?_
    · rintro i G hi ⟨bG, xs, sts, hD, hP, hn, hS⟩
      have lx := hP.len
      refine ⟨rfl, _, rfl, _, rfl, _, rfl, _, rfl, p, d, b, h, rfl, bG.2, by omega, hd, hb, h1, h2, fun st v G1 b4 pl sm => ⟨xs, bt_lst b4 ne hD, small1000 (by omega), ?_, _, sts ++ [st], upd_same, ?_, by simp; exact hn, ?_⟩⟩
      · have b5 := bG.trans b4
        refine ⟨fun a o n e => ?_, ?_⟩
        · rw [upd_ne (fun z => by rw [z, nD] at e; cases e)]
          exact b5.1 a o n e
        · obtain ⟨r, m, e, f⟩ := b5.2
          exact ⟨r, m, by rw [upd_ne ne.symm]; exact e, f⟩
      · have kp := put_keepT (o := .lst (xs ++ [v])) (bt_lst b4 ne hD)
        exact ((hP.keep (bt_keepT b4 bG.2)).keep kp).snoc (pl.keep kp)
      · intro z hz
        rcases List.mem_append.mp hz with q | q
        · exact hS z q
        · rw [List.mem_singleton.mp q]
          exact sm
    · rintro G ⟨bG, xs, sts, hD, hP, hn, hS⟩
      refine ⟨_, rfl, _, rfl, D0, xs, rfl, .inl ⟨SqL.of hD, fun T hT => ⟨line2.1, fun t ht => ?_⟩⟩⟩
      have c1 := Bt.new (.tup xs) bG.2 hT
      have c2 := Bt.new (.tup [.int (h : Int), .ref T]) c1.2 ht
      refine kk (.mk h sts) _ _ ((b3.trans bG).trans (c1.trans c2)) ?_ (M.sm_way hd h1 h2 (by omega) (by omega) hS)
      unfold PlanAt
      exact ⟨t, T, xs, rfl, upd_same, of_upd ht _ _ upd_same, hP.keep (bt_keepT (c1.trans c2) bG.2)⟩
end
end CP

end
section
set_option autoImplicit false
set_option Elab.async false
set_option linter.all false
set_option maxRecDepth 100000
set_option maxHeartbeats 4000000
/-! ## how great gates are; gates and fates as data -/
namespace N
theorem B_top {cs : List Nat} : (∀ c ∈ cs, c ≤ 1000) → ∀ n, B cs n ≤ 1000 * n := by
  induction cs with
  | nil => intro _ n; exact Nat.zero_le _
  | cons c r ih =>
    intro h n
    rw [B_cons]
    have h1 := h c List.mem_cons_self
    have h2 := ih (fun d hd => h d (List.mem_cons_of_mem _ hd)) (n % L r c)
    have h3 := Nat.div_add_mod n (L r c)
    have h4 : n / L r c ≤ L r c * (n / L r c) := by
      rcases Nat.eq_zero_or_pos (L r c) with z | z
      · rw [z, Nat.div_zero]
        omega
      · exact Nat.le_mul_of_pos_left _ z
    have h5 : n / L r c * c ≤ n / L r c * 1000 := Nat.mul_le_mul_left _ h1
    omega
end N
namespace M
structure GB (D : Nat) (g : Gate) : Prop where
  lo : -1 ≤ g.thr
  hi : g.thr ≤ 1000000000000000
  an : ∀ z, g.ans = some z → -(40 * (D : Int)) ≤ z ∧ z ≤ 1000
  pl : ∀ i ∈ g.place, i < 12
theorem GB.up {D D' : Nat} {g : Gate} (b : GB D g) (h : D ≤ D') : GB D' g := ⟨b.lo, b.hi, fun z e => by have := b.an z e; omega, b.pl⟩
theorem most_gb {D m : Nat} {cs : List Nat} (c : Ck cs) (hm : m ≤ 1000000000000) {g : Gate} (h : g ∈ mostG m cs) : GB D g := by
  unfold mostG at h
  split at h
  · cases h
  · rw [List.mem_singleton.mp h]
    have := N.B_top c.le m
    refine ⟨?_, ?_, (fun z e => by cases e), (fun i hi => by cases hi)⟩
    · show (-1 : Int) ≤ ((N.B cs m : Nat) : Int)
      omega
    · show ((N.B cs m : Nat) : Int) ≤ 1000000000000000
      omega
theorem road_gb {D : Nat} {se : Bool} {h size : Nat} {ts : Bool} {lw : LW} {cs : List Nat} (h1 : h < size) (h2 : size ≤ 1000) {g : Gate} (m : g ∈ roadG se h size ts lw cs) : GB D g := by
  unfold roadG at m
  split at m
  · cases m
  · rw [List.mem_singleton.mp m]
    refine ⟨?_, ?_, fun z e => ?_, (fun i hi => by cases hi)⟩
    · show (-1 : Int) ≤ (size : Int) - (h : Int)
      omega
    · show (size : Int) - (h : Int) ≤ 1000000000000000
      omega
    · dsimp only at e
      split at e
      · cases e
        omega
      · cases e
theorem tun_gb {D h ih : Nat} {t : TW} {cs : List Nat} {l : List Gate} (hi : ih ≤ 40) (q : ∀ g ∈ l, GB D g) {g : Gate} (m : g ∈ tunG h ih t cs l) : GB (D + 1) g := by
  unfold tunG at m
  obtain ⟨g0, h0, h1⟩ := List.mem_flatMap.mp m
  have b := q g0 h0
  unfold tunG1 at h1
  split at h1
  · rw [List.mem_singleton.mp h1]
    have b1 := b.lo
    have b2 := b.hi
    refine ⟨?_, ?_, fun z e => ?_, b.pl⟩
    · show (-1 : Int) ≤ max (g0.thr - (h : Int)) (-1)
      omega
    · show max (g0.thr - (h : Int)) (-1) ≤ 1000000000000000
      omega
    · have e : turnG g0.ans ih t = some z := e
      unfold turnG at e
      cases ea : g0.ans with
      | none =>
        rw [ea] at e
        cases e
      | some y =>
        rw [ea] at e
        dsimp only at e
        split at e
        · cases e
          have := b.an y ea
          omega
        · cases e
  · cases h1
mutual
theorem Way.gb (se : Bool) : ∀ (w : Way), w.fine → ∀ g ∈ Way.gates se w, GB w.depth g
  | .mk h s, f, g, m => by
    unfold Way.gates at m
    unfold Way.fine at f
    unfold Way.depth
    exact Step.gbAll se h s 0 [] f.2.2.1 (by omega) ck_nil g m
theorem Step.gbAll (se : Bool) (h : Nat) : ∀ (s : List Step) (i : Nat) (cs : List Nat), Step.fineAll h s → i + s.length ≤ 12 → Ck cs → ∀ g ∈ Step.gatesAll se h s i cs, GB (1 + Step.deepest s) g
  | [], i, cs, f, hi, c, g, m => by
    unfold Step.gatesAll at m
    cases m
  | s :: r, i, cs, f, hi, c, g, m => by
    rw [gatesAll_cons] at m
    rw [deep_cons]
    unfold Step.fineAll at f
    rw [List.length_cons] at hi
    rcases List.mem_append.mp m with m | m
    · obtain ⟨g0, m0, rfl⟩ := List.mem_map.mp m
      have b := Step.gb se h s cs f.1 c g0 m0
      refine ⟨b.lo, b.hi, fun z e => ?_, fun j hj => ?_⟩
      · have := b.an z e
        omega
      · rcases List.mem_cons.mp hj with e | e
        · omega
        · exact b.pl j e
    · exact (Step.gbAll se h r (i + 1) _ f.2 (by omega) (ck_nx c f.1) g m).up (by omega)
theorem Step.gb (se : Bool) (h : Nat) : ∀ (s : Step) (cs : List Nat), Step.fine h s → Ck cs → ∀ g ∈ Step.gates se h s cs, GB (Step.dep s + 1) g
  | .road size ts lw, cs, f, c, g, m => by
    unfold Step.gates at m
    unfold Step.fine at f
    exact road_gb f.1 f.2 m
  | .join most, cs, f, c, g, m => by
    unfold Step.gates at m
    unfold Step.fine at f
    exact most_gb c f.2 m
  | .tunnel w most t, cs, f, c, g, m => by
    unfold Step.gates at m
    unfold Step.fine at f
    have f1 := f.1
    have hh : w.head ≤ 40 ∧ Step.fineAll w.head w.steps := by
      obtain ⟨wh, ws⟩ := w
      unfold Way.fine at f1
      exact ⟨f1.1.2, f1.2.2.1⟩
    refine tun_gb (D := w.depth) hh.1 (fun g0 m0 => ?_) m
    rcases List.mem_append.mp m0 with m0 | m0
    · exact Way.gb se w f1 g0 m0
    · exact most_gb (ck_all ck_nil hh.2) f.2.2 m0
end
end M
namespace CP
open PySem L2 G Y
/-- data that can be shown, with its depth and bulk -/
structure Nd (d : PyData) (k b : Nat) : Prop where
  sh : d.showable = true
  ls : d.leavesShort 20 = true
  dp : d.depth ≤ k
  bk : d.bulk ≤ b
theorem Nd.up {d : PyData} {k b k' b' : Nat} (h : Nd d k b) (h1 : k ≤ k') (h2 : b ≤ b') : Nd d k' b' := ⟨h.sh, h.ls, Nat.le_trans h.dp h1, Nat.le_trans h.bk h2⟩
theorem nd_int {z : Int} (h : z.natAbs < 10 ^ 18) (k b : Nat) : Nd (.int z) k b := by
  refine ⟨?_, ?_, by simp only [PyData.depth]; omega, by simp only [PyData.bulk]; omega⟩
  · simp only [PyData.showable]
    exact decide_eq_true (Nat.lt_of_lt_of_le (PySem.Flt.log2_lt_of (k := 60) (by decide) (Nat.lt_of_lt_of_le h (by decide))) (by decide))
  · simp only [PyData.leavesShort]
    refine decide_eq_true ?_
    have e := int_text_length_le10 (k := 18) (by decide) h
    show (Str.ofString (toString z)).length ≤ 20
    rw [ofString_length]
    omega
theorem nd_all {k b : Nat} : ∀ {ds : List PyData}, (∀ d ∈ ds, Nd d k b) → PyData.showableAll ds = true ∧ PyData.leavesShortAll 20 ds = true ∧ PyData.depthAll ds ≤ k ∧ PyData.bulkAll ds ≤ ds.length * (b + 1)
  | [], _ => ⟨rfl, rfl, by simp only [PyData.depthAll]; omega, by simp only [PyData.bulkAll]; omega⟩
  | d :: ds, h => by
    have a := h d List.mem_cons_self
    obtain ⟨b1, b2, b3, b4⟩ := nd_all (ds := ds) fun x hx => h x (List.mem_cons_of_mem _ hx)
    refine ⟨by simp only [PyData.showableAll, a.sh, b1, Bool.and_true], by simp only [PyData.leavesShortAll, a.ls, b2, Bool.and_true], ?_, ?_⟩
    · have := a.dp
      simp only [PyData.depthAll]
      omega
    · have := a.bk
      simp only [PyData.bulkAll]
      rw [List.length_cons, Nat.add_mul]
      omega
theorem nd_tup {k b n : Nat} {ds : List PyData} (h : ∀ d ∈ ds, Nd d k b) (hn : ds.length ≤ n) : Nd (.tuple ds) (k + 1) (n * (b + 1)) := by
  obtain ⟨b1, b2, b3, b4⟩ := nd_all h
  have b5 : ds.length * (b + 1) ≤ n * (b + 1) := Nat.mul_le_mul_right _ hn
  refine ⟨by simp only [PyData.showable, b1], by simp only [PyData.leavesShort, b2], ?_, ?_⟩
  · simp only [PyData.depth]
    omega
  · simp only [PyData.bulk]
    omega
theorem nd_lst {k b n : Nat} {ds : List PyData} (h : ∀ d ∈ ds, Nd d k b) (hn : ds.length ≤ n) : Nd (.list ds) (k + 1) (n * (b + 1)) := by
  obtain ⟨b1, b2, b3, b4⟩ := nd_all h
  have b5 : ds.length * (b + 1) ≤ n * (b + 1) := Nat.mul_le_mul_right _ hn
  refine ⟨by simp only [PyData.showable, b1], by simp only [PyData.leavesShort, b2], ?_, ?_⟩
  · simp only [PyData.depth]
    omega
  · simp only [PyData.bulk]
    omega
def dAns : Option Int → PyData
  | none => .none
  | some z => .int z
def dPl (p : List Nat) : PyData := .tuple (p.map fun n => .int ((n : Nat) : Int))
def dGate (g : M.Gate) : PyData := .tuple [dPl g.place, .int g.thr, dAns g.ans]
theorem nd_pl {p : List Nat} (h : ∀ i ∈ p, i < 12) (hl : p.length ≤ 3) : Nd (dPl p) 1 3 :=
  nd_tup (k := 0) (b := 0) (n := 3) (fun d hd => by
    obtain ⟨n, hn, rfl⟩ := List.mem_map.mp hd
    exact nd_int (Nat.lt_of_lt_of_le (by have := h n hn; omega : ((n : Nat) : Int).natAbs < 12) (by decide)) _ _) (by rw [List.length_map]; exact hl)
theorem nd_gate {D : Nat} {g : M.Gate} (b : M.GB D g) (hd : D ≤ 3) (hp : g.place.length ≤ 3) : Nd (dGate g) 2 12 := by
  refine nd_tup (k := 1) (b := 3) (n := 3) (fun d hd => ?_) (Nat.le_refl 3)
  have b1 := b.lo
  have b2 := b.hi
  simp only [List.mem_cons, List.mem_nil_iff, or_false] at hd
  rcases hd with rfl | rfl | rfl
  · exact nd_pl b.pl hp
  · exact nd_int (Nat.lt_of_lt_of_le (by omega : g.thr.natAbs < 1000000000000001) (by decide)) _ _
  · cases e : g.ans with
    | none => exact ⟨rfl, rfl, by decide, by decide⟩
    | some z =>
      have := b.an z e
      exact nd_int (Nat.lt_of_lt_of_le (by omega : z.natAbs < 2000) (by decide)) _ _
theorem dr_ints {K : PySem.W.Frag} {H : Hp} {m : Bool} : ∀ p : List Nat, DrA K H m (ni p) (p.map fun n => .int ((n : Nat) : Int))
  | [] => .nil
  | n :: p => .cons (.int _) (dr_ints p)
theorem dr_ans {K : PySem.W.Frag} {H : Hp} {m : Bool} : ∀ o : Option Int, Dr K H m (ansV o) (dAns o)
  | none => .non
  | some z => .int z
theorem dr_gate {K : PySem.W.Frag} {H : Hp} {m : Bool} {g : M.Gate} {v : V} (h : GAt H g v) : Dr K H m v (dGate g) := by
  obtain ⟨t, q, rfl, h1, h2⟩ := h
  exact .tup (SqT.of h1) (.cons (.tup (SqT.of h2) (dr_ints _)) (.cons (.int _) (.cons (dr_ans _) .nil)))
theorem dr_gates {K : PySem.W.Frag} {H : Hp} {m : Bool} {l : List M.Gate} {xs : List V} (h : GsAt H l xs) : DrA K H m xs (l.map dGate) := by
  induction h with
  | nil => exact .nil
  | cons e _ ih => exact .cons (dr_gate e) ih
theorem fine_dep {wy : M.Way} (h : wy.fine) : wy.depth ≤ 3 := by
  obtain ⟨wh, s⟩ := wy
  unfold M.Way.fine at h
  unfold M.Way.depth
  exact h.2.2.2.1
end CP

end
section
set_option autoImplicit false
set_option Elab.async false
set_option linter.all false
set_option maxRecDepth 100000
set_option maxHeartbeats 4000000
/-! ## gates against letters that are let through everywhere (mathematics) -/
namespace N
theorem pt_max : ∀ {cs : List Nat}, Fall cs → ∀ b : Nat, ∃ x ∈ pt cs [b], (cs = [] → x = b) ∧ (cs ≠ [] → x = min b (cs.getLastD 0))
  | [], _, b => ⟨b, by show b ∈ [b]; exact List.mem_cons_self, fun _ => rfl, fun h => absurd rfl h⟩
  | c :: r, f, b => by
    by_cases h : b ≤ c
    · obtain ⟨x, hx, e1, e2⟩ := pt_max f.2.2 b
      rw [pt_le r h]
      refine ⟨x, hx, (fun z => by cases z), fun _ => ?_⟩
      by_cases z : r = []
      · subst z
        rw [e1 rfl]
        show b = min b c
        omega
      · rw [e2 z]
        obtain ⟨d, q, rfl⟩ := List.exists_cons_of_ne_nil z
        rfl
    · have h2 : c < b := by omega
      obtain ⟨x, hx, e1, e2⟩ := pt_max f.2.2 c
      rw [pt_lt r f.1 h2]
      refine ⟨x, List.mem_append_left _ hx, (fun z => by cases z), fun _ => ?_⟩
      by_cases z : r = []
      · subst z
        rw [e1 rfl]
        show c = min b c
        omega
      · rw [e2 z]
        obtain ⟨d, q, rfl⟩ := List.exists_cons_of_ne_nil z
        have hl : (d :: q).getLastD 0 ∈ d :: q := by
          rw [List.getLastD_eq_getLast?, List.getLast?_eq_some_getLast (List.cons_ne_nil d q)]
          exact List.getLast_mem _
        have := f.2.1 _ hl
        show min c ((d :: q).getLastD 0) = min b ((d :: q).getLastD 0)
        omega
theorem last_mem {cs : List Nat} (h : cs ≠ []) : cs.getLastD 0 ∈ cs := by
  obtain ⟨d, q, rfl⟩ := List.exists_cons_of_ne_nil h
  rw [List.getLastD_eq_getLast?, List.getLast?_eq_some_getLast (List.cons_ne_nil d q)]
  exact List.getLast_mem _
/-- whether some piece is greater than a stretch -/
theorem pt_over {cs : List Nat} (f : Fall cs) (b : Nat) (z : Int) : (∃ x ∈ pt cs [b], z < (x : Int)) ↔ M.leaves cs z = true ∧ z < (b : Int) := by
  constructor
  · rintro ⟨x, hx, hz⟩
    have hb := pt_bound (m := b) f.pos [b] (fun s hs => by rw [List.mem_singleton.mp hs]; exact Nat.le_refl _) x hx
    refine ⟨?_, by omega⟩
    unfold M.leaves
    by_cases h : cs = []
    · rw [decide_eq_true h, Bool.true_or]
    · have := pt_cuts f.pos [b] _ (last_mem h) x hx
      rw [decide_eq_true (show z < ((cs.getLastD 0 : Nat) : Int) by omega), Bool.or_true]
  · rintro ⟨hl, hb⟩
    obtain ⟨x, hx, e1, e2⟩ := pt_max f b
    refine ⟨x, hx, ?_⟩
    by_cases h : cs = []
    · rw [e1 h]
      exact hb
    · have e := e2 h
      unfold M.leaves at hl
      rw [decide_eq_false h, Bool.false_or] at hl
      have := of_decide_eq_true hl
      omega
/-- whether there are more pieces than may be put together -/
theorem PC_over {cs : List Nat} (f : Fall cs) (b : Nat) {m : Nat} (hm : 1 ≤ m) : m < PC cs b ↔ cs ≠ [] ∧ B cs m < b := by
  unfold PC
  by_cases h : b = 0
  · rw [if_pos h]
    constructor
    · intro q
      omega
    · intro q
      omega
  · rw [if_neg h]
    by_cases e : cs = []
    · subst e
      unfold L
      constructor
      · intro q
        omega
      · intro q
        exact absurd rfl q.1
    · have := below cs f b (by omega) m (fun z => absurd z e)
      constructor
      · intro q
        exact ⟨e, this.mpr q⟩
      · intro q
        exact this.mp q.2
end N
namespace M
mutual
/-- the places at which some piece of a letter would end, with what is told there, if it were let through everywhere -/
def Way.ghost (se : Bool) : Way → Nat → List (List Nat × Option Int)
  | .mk h s, b => Step.ghostAll se h s 0 [] b
def Step.ghostAll (se : Bool) (h : Nat) : List Step → Nat → List Nat → Nat → List (List Nat × Option Int)
  | [], _, _, _ => []
  | s :: r, i, cs, b => (Step.ghost se h s cs b).map (fun q => (i :: q.1, q.2)) ++ Step.ghostAll se h r (i + 1) (nxC se h cs s) b
def Step.ghost (se : Bool) (h : Nat) : Step → List Nat → Nat → List (List Nat × Option Int)
  | .road size ts lw, cs, b => if (se = false ∧ lw = .cut) ∨ (N.pt cs [b]).any (fun x => decide ((size : Int) - (h : Int) < (x : Int))) = false then [] else [([], if (se = true ∧ ts = true) ∨ (se = false ∧ lw = .tell) then some (size : Int) else none)]
  | .join most, cs, b => if most < N.PC cs b then [([], none)] else []
  | .tunnel w most t, cs, b => (N.pt cs [b]).flatMap fun x => (Way.ghost se w (h + x)).map (fun q => (q.1, turnG q.2 w.head t)) ++ (if most < N.PC (chE se w.head w.steps []) (h + x) then [([], none)] else [])
end
theorem ghostAll_cons (se : Bool) (h : Nat) (s : Step) (r : List Step) (i : Nat) (cs : List Nat) (b : Nat) : Step.ghostAll se h (s :: r) i cs b = (Step.ghost se h s cs b).map (fun q => (i :: q.1, q.2)) ++ Step.ghostAll se h r (i + 1) (nxC se h cs s) b := by
  conv => lhs; unfold Step.ghostAll
/-- a stop that a gate makes -/
def Stops (l : List Gate) (b : Nat) (q : List Nat × Option Int) : Prop := ∃ g ∈ l, g.place = q.1 ∧ g.ans = q.2 ∧ g.thr < (b : Int)
theorem stops_app {l m : List Gate} {b : Nat} {q : List Nat × Option Int} : Stops (l ++ m) b q ↔ Stops l b q ∨ Stops m b q := by
  constructor
  · rintro ⟨g, hg, h⟩
    rcases List.mem_append.mp hg with hg | hg
    · exact .inl ⟨g, hg, h⟩
    · exact .inr ⟨g, hg, h⟩
  · rintro (⟨g, hg, h⟩ | ⟨g, hg, h⟩)
    · exact ⟨g, List.mem_append_left _ hg, h⟩
    · exact ⟨g, List.mem_append_right _ hg, h⟩
theorem most_stops {cs : List Nat} (c : Ck cs) {m : Nat} (hm : 1 ≤ m) (b : Nat) (q : List Nat × Option Int) : q ∈ (if m < N.PC cs b then [(([] : List Nat), (none : Option Int))] else []) ↔ Stops (mostG m cs) b q := by
  have := N.PC_over c.fall b hm
  unfold mostG Stops
  by_cases h : m < N.PC cs b
  · obtain ⟨h1, h2⟩ := this.mp h
    rw [if_pos h, if_neg h1]
    constructor
    · intro e
      rw [List.mem_singleton.mp e]
      exact ⟨_, List.mem_singleton.mpr rfl, rfl, rfl, by show ((N.B cs m : Nat) : Int) < _; omega⟩
    · rintro ⟨g, hg, e1, e2, _⟩
      rw [List.mem_singleton.mp hg] at e1 e2
      rw [List.mem_singleton]
      exact Prod.ext e1.symm e2.symm
  · rw [if_neg h]
    constructor
    · intro e
      cases e
    · rintro ⟨g, hg, e1, e2, e3⟩
      by_cases z : cs = []
      · rw [if_pos z] at hg
        cases hg
      · rw [if_neg z] at hg
        rw [List.mem_singleton.mp hg] at e3
        have e3 : ((N.B cs m : Nat) : Int) < (b : Int) := e3
        exact absurd (this.mpr ⟨z, by omega⟩) h
theorem road_stops {se : Bool} {h size : Nat} {ts : Bool} {lw : LW} {cs : List Nat} (c : Ck cs) (b : Nat) (q : List Nat × Option Int) : q ∈ Step.ghost se h (.road size ts lw) cs b ↔ Stops (roadG se h size ts lw cs) b q := by
  have po := N.pt_over c.fall b ((size : Int) - (h : Int))
  unfold Step.ghost roadG Stops
  by_cases h1 : se = false ∧ lw = .cut
  · rw [if_pos (.inl h1), if_pos (.inl h1)]
    constructor
    · intro e
      cases e
    · rintro ⟨g, hg, _⟩
      cases hg
  · cases h2 : (N.pt cs [b]).any (fun x => decide ((size : Int) - (h : Int) < (x : Int))) with
    | false =>
      rw [if_pos (.inr rfl)]
      constructor
      · intro e
        cases e
      · rintro ⟨g, hg, e1, e2, e3⟩
        exfalso
        split at hg
        · cases hg
        · rename_i h3
          rw [List.mem_singleton.mp hg] at e3
          have e3 : (size : Int) - (h : Int) < (b : Int) := e3
          have h4 : leaves cs ((size : Int) - (h : Int)) = true := by
            cases z : leaves cs ((size : Int) - (h : Int)) with
            | true => rfl
            | false => exact absurd (.inr z) h3
          obtain ⟨x, hx, hz⟩ := po.mpr ⟨h4, e3⟩
          rw [List.any_eq_false] at h2
          exact h2 x hx (decide_eq_true hz)
    | true =>
      obtain ⟨x, hx, hz⟩ := List.any_eq_true.mp h2
      obtain ⟨h3, h4⟩ := po.mp ⟨x, hx, of_decide_eq_true hz⟩
      have n1 : ¬ ((se = false ∧ lw = .cut) ∨ true = false) := by
        rintro (z | z)
        · exact h1 z
        · cases z
      have n2 : ¬ ((se = false ∧ lw = .cut) ∨ leaves cs ((size : Int) - (h : Int)) = false) := by
        rintro (z | z)
        · exact h1 z
        · rw [h3] at z
          cases z
      rw [if_neg n1, if_neg n2]
      constructor
      · intro e
        rw [List.mem_singleton.mp e]
        exact ⟨_, List.mem_singleton.mpr rfl, rfl, rfl, h4⟩
      · rintro ⟨g, hg, e1, e2, _⟩
        rw [List.mem_singleton.mp hg] at e1 e2
        rw [List.mem_singleton]
        exact Prod.ext e1.symm e2.symm
theorem tun_stops {h ih : Nat} {t : TW} {cs : List Nat} (c : Ck cs) (l : List Gate) (b : Nat) (q : List Nat × Option Int) : (∃ x ∈ N.pt cs [b], ∃ p, Stops l (h + x) p ∧ q = (p.1, turnG p.2 ih t)) ↔ Stops (tunG h ih t cs l) b q := by
  constructor
  · rintro ⟨x, hx, p, ⟨g, hg, e1, e2, e3⟩, rfl⟩
    have := (N.pt_over c.fall b (g.thr - (h : Int))).mp ⟨x, hx, by omega⟩
    refine ⟨⟨g.place, max (g.thr - (h : Int)) (-1), turnG g.ans ih t⟩, ?_, e1, ?_, ?_⟩
    · unfold tunG
      rw [List.mem_flatMap]
      refine ⟨g, hg, ?_⟩
      unfold tunG1
      rw [if_pos this.1]
      exact List.mem_singleton.mpr rfl
    · show turnG g.ans ih t = turnG p.2 ih t
      rw [e2]
    · show max (g.thr - (h : Int)) (-1) < (b : Int)
      have := this.2
      omega
  · rintro ⟨g', hg', e1, e2, e3⟩
    unfold tunG at hg'
    obtain ⟨g, hg, h1⟩ := List.mem_flatMap.mp hg'
    unfold tunG1 at h1
    split at h1
    · rename_i hl
      rw [List.mem_singleton.mp h1] at e1 e2 e3
      have e3 : max (g.thr - (h : Int)) (-1) < (b : Int) := e3
      obtain ⟨x, hx, hz⟩ := (N.pt_over c.fall b (g.thr - (h : Int))).mpr ⟨hl, by omega⟩
      exact ⟨x, hx, (g.place, g.ans), ⟨g, hg, rfl, rfl, by omega⟩, Prod.ext e1.symm e2.symm⟩
    · cases h1
mutual
theorem Way.ghost_gates (se : Bool) : ∀ (w : Way), w.fine → ∀ (b : Nat) q, q ∈ Way.ghost se w b ↔ Stops (Way.gates se w) b q
  | .mk h s, f, b, q => by
    unfold Way.fine at f
    unfold Way.ghost Way.gates
    exact Step.ghost_gatesAll se h s 0 [] f.2.2.1 ck_nil b q
theorem Step.ghost_gatesAll (se : Bool) (h : Nat) : ∀ (s : List Step) (i : Nat) (cs : List Nat), Step.fineAll h s → Ck cs → ∀ (b : Nat) q, q ∈ Step.ghostAll se h s i cs b ↔ Stops (Step.gatesAll se h s i cs) b q
  | [], i, cs, f, c, b, q => by
    unfold Step.ghostAll Step.gatesAll
    constructor
    · intro e
      cases e
    · rintro ⟨g, hg, _⟩
      cases hg
  | s :: r, i, cs, f, c, b, q => by
    unfold Step.fineAll at f
    rw [ghostAll_cons, gatesAll_cons, List.mem_append, stops_app, Step.ghost_gatesAll se h r (i + 1) _ f.2 (ck_nx c f.1) b q]
    refine or_congr ?_ Iff.rfl
    constructor
    · intro e
      obtain ⟨p, hp, rfl⟩ := List.mem_map.mp e
      obtain ⟨g, hg, e1, e2, e3⟩ := (Step.ghost_gate se h s cs f.1 c b p).mp hp
      exact ⟨at_ i g, List.mem_map.mpr ⟨g, hg, rfl⟩, by show i :: g.place = _; rw [e1], e2, e3⟩
    · rintro ⟨g', hg', e1, e2, e3⟩
      obtain ⟨g, hg, rfl⟩ := List.mem_map.mp hg'
      refine List.mem_map.mpr ⟨(g.place, g.ans), (Step.ghost_gate se h s cs f.1 c b _).mpr ⟨g, hg, rfl, rfl, e3⟩, Prod.ext e1 e2⟩
theorem Step.ghost_gate (se : Bool) (h : Nat) : ∀ (s : Step) (cs : List Nat), Step.fine h s → Ck cs → ∀ (b : Nat) q, q ∈ Step.ghost se h s cs b ↔ Stops (Step.gates se h s cs) b q
  | .road size ts lw, cs, f, c, b, q => by
    rw [show Step.gates se h (.road size ts lw) cs = roadG se h size ts lw cs by unfold Step.gates; rfl]
    exact road_stops c b q
  | .join most, cs, f, c, b, q => by
    unfold Step.fine at f
    unfold Step.ghost Step.gates
    exact most_stops c f.1 b q
  | .tunnel w most t, cs, f, c, b, q => by
    unfold Step.fine at f
    have hE : Ck (chE se w.head w.steps []) := by
      refine ck_all ck_nil ?_
      have f1 := f.1
      obtain ⟨wh, ws⟩ := w
      unfold Way.fine at f1
      exact f1.2.2.1
    unfold Step.ghost Step.gates
    rw [← tun_stops c, List.mem_flatMap]
    constructor
    · rintro ⟨x, hx, hq⟩
      refine ⟨x, hx, ?_⟩
      rcases List.mem_append.mp hq with hq | hq
      · obtain ⟨p, hp, rfl⟩ := List.mem_map.mp hq
        exact ⟨p, stops_app.mpr (.inl ((Way.ghost_gates se w f.1 (h + x) p).mp hp)), rfl⟩
      · have := (most_stops hE f.2.1 (h + x) q).mp hq
        refine ⟨q, stops_app.mpr (.inr this), ?_⟩
        split at hq
        · rw [List.mem_singleton.mp hq]
          rfl
        · cases hq
    · rintro ⟨x, hx, p, hp, rfl⟩
      refine ⟨x, hx, ?_⟩
      rcases stops_app.mp hp with hp | hp
      · exact List.mem_append_left _ (List.mem_map.mpr ⟨p, (Way.ghost_gates se w f.1 (h + x) p).mpr hp, rfl⟩)
      · have hq := (most_stops hE f.2.1 (h + x) p).mpr hp
        refine List.mem_append_right _ ?_
        split at hq
        · rename_i hm
          rw [List.mem_singleton.mp hq, if_pos hm]
          exact List.mem_singleton.mpr rfl
        · cases hq
end
end M

end
section
set_option autoImplicit false
set_option Elab.async false
set_option linter.all false
set_option maxRecDepth 100000
set_option maxHeartbeats 4000000
/-! ## list(d.values()) -/
namespace LV
open PySem PySem.Spec PyProof.Rows L2
def tListVals (te : TE) : TE := fun σ H Q => te σ H fun x H1 => ∃ (d : Addr) (kvs : List (Key × V)), x = .ref d ∧ H1 d = some (.dK kvs) ∧ ∀ q, H1 q = none → Q (.ref q) (upd H1 q (.lst (kvs.map (·.2))))
section
variable {X : Cx} {e : Expr} {te : TE} {p apos cpos pos : Pos}
theorem pe_listVals (hc : X.calm = true) (he : PE X e te) (hg : Gl X "list") (hm : X.mg "list" = none) (hv : bootBuiltins "list" = some (.type "list")) (hbase : attributeBase e "values" X.env (eval e X.env) = eval e X.env := by rfl) (hline : (apos.endLine == cpos.line) = true := by rfl)
    (hs : starEach [.Call (.Attribute e "values" apos) [] [] cpos] X.env = (false, eval (.Call (.Attribute e "values" apos) [] [] cpos) X.env) :: starEach [] X.env := by rfl) :
    PE X (.Call (.Name "list" p) [.Call (.Attribute e "values" apos) [] [] cpos] [] pos) (tListVals te) := by
  refine ⟨fun pins s σ H Q I hq => ?_⟩
  refine wpAny_Call_Name_kw (ld_blt I hg hm hv ?_)
  refine PyProof.Rows.callWith_type1 ?_ hs rfl
  rw [hs]
  show wpAny _ _ (spliced ((false, eval (.Call (.Attribute e "values" apos) [] [] cpos) X.env) :: backTo pos (starEach [] X.env))) _ _ s
  refine Calls.spliced_cons ?_
  refine wpAny_Call_method (T := "dict") (id := "dict.values") hbase rfl hline F.plainAttrs_dict F.slot_dict_values F.type_dict_values (thn (he.run pins s σ H _ I hq) fun u s1 ⟨x, H1, I1, rx, d, kvs, ex, hd, q⟩ => ?_)
  subst ex
  obtain rfl : u = Value.ref d := rx
  obtain ⟨hz, lo, vs, rk, hdo⟩ := I1.hok d _ hd
  obtain ⟨ep, hat⟩ := hdo.dictAt
  have lk : kvs.length = vs.length := Paired.length rk
  have I2 : Inv X pins σ H1 { s1 with heap := s1.heap.push { cls := .type "dict_values", data := .fields #[.ref d] } } := I1.kept (t' := s1.toks) fun b ob q => Heap.get?_push_of_some _ q
  refine ⟨hdo.typeIs, hdo.mapOf.noDict, ?_⟩
  show wpAny _ _ (callWith cpos (.builtin "dict.values") [.ref d] [] []) _ X.xe s1
  refine method_meetsIn F.slot_dict_values F.entry_dict_values rfl (PySem.evalArgs_none ⟨rfl, hdo.typeIs, F.args_dict_values_1 _, _, meets_dict_values (mixKind X.prog X.w) d lo, ⟨vs, hdo⟩, ?_⟩)
  refine Calls.spliced_nil ?_
  refine PySem.W.kdl_call (PySem.W.kdl_values (knd := mixKind X.prog X.w) (kvs := vs) (ep := ep) (d := d)) (I1.ok.hd hc) ⟨⟨_, Heap.get?_push_size _ rfl, rfl, rfl⟩, hat.push _⟩ (by omega) fun h' tk acc c hk hS hacc => ?_
  have fr : H1 (s1.heap.push { cls := .type "dict_values", data := .fields #[.ref d] }).objs.size = none := I1.hok.fresh (by rw [Heap.size_push]; omega)
  refine ⟨.ref _, upd H1 (s1.heap.push { cls := .type "dict_values", data := .fields #[.ref d] }).objs.size (.lst (kvs.map (·.2))), I2.laid hk (Nat.le_refl _) (show ObjOk X.prog X.w _ _ _ (.lst (kvs.map (·.2))) from ⟨?_, acc.toList, c, ?_, ?_⟩), rfl, q _ fr⟩
  · rw [List.length_map]
    exact hz
  · have el : acc.toList.length = acc.size := by simp
    refine vals_of_at (by rw [List.length_map, el, hacc.1, lk]) fun j x u h1 h2 => ?_
    obtain ⟨k, hky⟩ := hacc.2 j u (by rw [← Array.getElem?_toList]; exact h2)
    obtain ⟨y, g1, g2⟩ := KV.at' rk hky
    rw [List.getElem?_map, g1] at h1
    cases h1
    exact g2
  · rw [Array.toArray_toList]
    exact hS
end
end LV

end
section
set_option autoImplicit false
set_option Elab.async false
set_option linter.all false
set_option maxRecDepth 100000
set_option maxHeartbeats 4000000
/-! ## ways of plans -/
namespace WP
open PySem L2 G
variable {C : Addr}
open CP (KeepT)
mutual
theorem WayAt.keep {C : Addr} {H H' : Hp} (s : CP.KeepT H H') : ∀ {w : M.Way} {a : Addr}, WayAt C H w a → WayAt C H' w a
  | .mk h st, a, x => by
    unfold WayAt at x ⊢
    obtain ⟨dx, t, xs, h1, h2, h3⟩ := x
    exact ⟨dx, t, xs, s _ _ (fun _ z => by cases z) h1, CP.KeepT.tup s h2, StepsAt.keep s h3⟩
theorem StepsAt.keep {C : Addr} {H H' : Hp} (s : CP.KeepT H H') : ∀ {st : List M.Step} {xs : List V}, StepsAt C H st xs → StepsAt C H' st xs
  | [], xs, x => by
    unfold StepsAt at x ⊢
    exact x
  | y :: r, xs, x => by
    unfold StepsAt at x ⊢
    obtain ⟨u, ys, e, h1, h2⟩ := x
    exact ⟨u, ys, e, StepAt.keep s h1, StepsAt.keep s h2⟩
theorem StepAt.keep {C : Addr} {H H' : Hp} (s : CP.KeepT H H') : ∀ {st : M.Step} {x : V}, StepAt C H st x → StepAt C H' st x
  | .road size ts lw, v, x => by
    unfold StepAt at x ⊢
    obtain ⟨t, e, h⟩ := x
    exact ⟨t, e, CP.KeepT.tup s h⟩
  | .join most, v, x => by
    unfold StepAt at x ⊢
    obtain ⟨t, e, h⟩ := x
    exact ⟨t, e, CP.KeepT.tup s h⟩
  | .tunnel w most tw, v, x => by
    unfold StepAt at x ⊢
    obtain ⟨t, a, e, h, h2⟩ := x
    exact ⟨t, a, e, CP.KeepT.tup s h, WayAt.keep s h2⟩
end
theorem StepsAt.snoc {C : Addr} {H : Hp} : ∀ {s : List M.Step} {xs : List V} {y : M.Step} {x : V}, StepsAt C H s xs → StepAt C H y x → StepsAt C H (s ++ [y]) (xs ++ [x])
  | [], xs, y, x, h, h2 => by
    unfold StepsAt at h
    subst h
    show StepsAt C H [y] [x]
    unfold StepsAt
    exact ⟨x, [], rfl, h2, by unfold StepsAt; rfl⟩
  | z :: s, xs, y, x, h, h2 => by
    unfold StepsAt at h
    obtain ⟨u, ys, rfl, h3, h4⟩ := h
    show StepsAt C H (z :: (s ++ [y])) (u :: (ys ++ [x]))
    unfold StepsAt
    exact ⟨u, ys ++ [x], rfl, h3, StepsAt.snoc h4 h2⟩
structure Mw (P : Program) (w : World) (K : PySem.W.Frag) (mg : Str → Option Value) (base : Heap) (C : Addr) : Prop where
  ex : ∃ (f : Addr) (fd : FuncData), FnOk P w K mg base CX0 6 f fd ["self", "head", "steps"] (spInit C) ∧ Mk K C f ∧ Binds K fd ["self", "head", "steps"] []
theorem made_way {H : Hp} {Q : VK} {E : XK} {l : Addr} {h : Nat} {xs : List V} {st : List M.Step} (hl : SAt H l xs) (hs : StepsAt C H st xs) (hf : M.Way.fine (.mk h st)) (k : ∀ x H', Same H H' → WayAt C H' (.mk h st) x → Q (.ref x) H') :
    ∀ x dx, H x = none → H dx = none → dx ≠ x → spInit C (.ref x :: ([.int (h : Int), .ref l] ++ [])) (upd (upd H dx (.own x)) x (.ins C dx [])) (fun v H2 => v = .non ∧ Q (.ref x) H2) E := fun x dx hx hdx ne =>
  ⟨x, l, dx, h, xs, st, H, rfl, upd_same, hx, (Same.of_upd hdx).trans (Same.of_upd (by rw [upd_ne ne.symm]; exact hx)), hl, hs, hf, fun H' s wa => ⟨rfl, k x H' s wa⟩⟩
end WP
namespace CP
open PySem L2 G Y
theorem PlStep.kind {H : Hp} : ∀ {s : M.Step} {x : V}, PlStep H s x → ∃ t, x = .ref t
  | .road _ _ _, x, h => by unfold PlStep at h; obtain ⟨t, e, h⟩ := h; exact ⟨t, e⟩
  | .join _, x, h => by unfold PlStep at h; obtain ⟨t, e, h⟩ := h; exact ⟨t, e⟩
  | .tunnel _ _ _, x, h => by unfold PlStep at h; obtain ⟨t, v, e, h, _⟩ := h; exact ⟨t, e⟩
section
variable {P : Program} {w : World} {K : PySem.W.Frag} {mg : Str → Option Value} {base : Heap} {C CW : Addr}
def spLWay (C : Addr) (n : Nat) : Sp := fun vs H Q _ => ∃ v wy, vs = [v] ∧ PlanAt H wy v ∧ M.Way.fine wy ∧ wy.depth ≤ n ∧ ∀ a H', Same H H' → WP.WayAt C H' wy a → Q (.ref a) H'
theorem scLw : FnScope ["plan", "head", "steps", "found", "step"] ["plan"] (defScope sLWay) := ⟨rfl, rfl, rfl, by decide +kernel, rfl, by decide +kernel, by decide +kernel⟩
theorem ok_lway {k n : Nat} {f : Addr} {fd : FuncData} (F : Fun K "_law_way" "_law_way" sLWay f fd) (T : WP.Wt K mg CW) (MW : WP.Mw P w K mg base CW) (hk : 7 ≤ k) (DW : Df P w K mg base k "_law_way" ["plan"] (spLWay CW n)) : FnOk P w K mg base CX0 (k + 1) f fd ["plan"] (spLWay CW (n + 1)) := by
  obtain ⟨fI, fdI, GI, MK, bI⟩ := MW.ex
  obtain ⟨fW, fdW, GW, gW, kW, bW⟩ := DW.ex
  refine F.ok scLw (fun vs H Q E h => ?_) (fun cdv A outer s H vs Q E hr h => ?_)
  · obtain ⟨v, wy, rfl, _⟩ := h
    rfl
  · obtain ⟨v, wy, rfl, hR, hf, hd, kk⟩ := h
    refine ⟨_, pss_cons (ps_asg (pv 0) (pg_tup (by rfl) (pgs_cons (pg_name (i := 1) scLw.nd rfl (Or.inl rfl)) (pgs_cons (pg_name (i := 2) scLw.nd rfl (Or.inl rfl)) pgs_nil))))
      (pss_cons (ps_set (i := 3) scLw.nd rfl (Or.inl rfl) (pe_lst pa_nil))
      (pss_cons (ps_for PassesOwn.never rfl (pi_tup (pv 2)) (pg_name (i := 4) scLw.nd rfl (Or.inl rfl)) (pss_one (ps_expr (pe_bm PySem.F.plainAttrs_list PySem.F.slot_list_append PySem.F.type_list_append mt_append (pv 3) (pa_cons (pe_ifExp (pt_cmpR (op_eq) (pe_ix ix_tup (pv 4) (pe_int) (fun _ _ => rfl)) (pe_str) (nomark _)) (pe_tup (pa_cons (pe_str) (pa_cons (pe_call GW (hr.mono (by omega)) rfl gW kW bW .nil pass0 (pa_cons (pe_ix ix_tup (pv 4) (pe_int) (fun _ _ => rfl)) pa_nil)) (pa_cons (pe_ix ix_tup (pv 4) (pe_int) (fun _ _ => rfl)) (pa_cons (pe_ix ix_tup (pv 4) (pe_int) (fun _ _ => rfl)) pa_nil))))) (pv 4)) pa_nil)))))
      (pss_one (ps_ret (pe_make MK GI (hr.mono (by omega)) rfl T.g bI .nil pass0 (pa_cons (pv 1) (pa_cons (pv 3) pa_nil))))))), ?_⟩
    obtain ⟨h, st⟩ := wy
    unfold PlanAt at hR
    obtain ⟨t, L, xs, rfl, ht, hL, hA⟩ := hR
    have hf0 := hf
    unfold M.Way.fine at hf
    obtain ⟨hh, hl, hall, hdd, hzz⟩ := hf
    unfold M.Way.depth at hd
    have lx := hA.len
    have z0 : ∀ {y0 : V} {ys : List V}, atI (y0 :: ys) (0 : Int) = some y0 := fun {y0 ys} => by exact atI_nat (xs := y0 :: ys) (j := 0) rfl
    refine ⟨_, rfl, t, _, rfl, SqT.of ht, rfl, _, _, rfl, _, _, rfl, rfl, ?_⟩
    dsimp only
    refine set_then (i := 3) ⟨line2.2.2.2, fun D hD => ?_⟩
    have s0 : Same H (upd H D (.lst [])) := of_upd hD
    refine ⟨_, rfl, L, rfl, ⟨_, SqT.of (s0 _ _ hL)⟩, ?_⟩
    refine for_it walk_tup (fun i σ G => Same H G ∧ ∃ acc q, σ = [some (.ref t), some (.int (h : Int)), some (.ref L), some (.ref D), q] ∧ G D = some (.lst acc) ∧ WP.StepsAt CW G (st.take i) acc)
      ⟨s0, [], _, rfl, upd_same, by unfold WP.StepsAt; rfl⟩ (fun i σ G _ z => SqT.of (z.1 _ _ hL)) ?_ ?_
    · rintro i x σ G G' hi ⟨s1, acc, q, rfl, hAc, hSt⟩ ⟨rfl, hx⟩
      obtain ⟨y, hy, hat⟩ := hA.get hx
      have la := hSt.len
      have et := take_snoc hy
      have lt : acc.length < sizeLine := small1000 (by rw [la, List.length_take]; omega)
      have fin : ∀ (G2 : Hp) (u : V), Same G' G2 → WP.StepAt CW G2 y u → Same H (upd G2 D (.lst (acc ++ [u]))) ∧ ∃ acc2 q, [some (V.ref t), some (.int (h : Int)), some (.ref L), some (.ref D), some x] = [some (.ref t), some (.int (h : Int)), some (.ref L), some (.ref D), q] ∧ (upd G2 D (.lst (acc ++ [u]))) D = some (.lst acc2) ∧ WP.StepsAt CW (upd G2 D (.lst (acc ++ [u]))) (st.take (i + 1)) acc2 := fun G2 u s2 hu => by
        refine ⟨add_upd hD (s1.trans s2), _, _, rfl, upd_same, ?_⟩
        rw [et]
        have kp : KeepT G2 (upd G2 D (.lst (acc ++ [u]))) := put_keepT (s2 _ _ hAc)
        exact ((hSt.mono s2).keep kp).snoc (hu.keep kp)
      dsimp only
      refine ⟨_, rfl, .inl ⟨rfl, _, SqL.of hAc⟩, ?_⟩
      cases y with
      | road size ts lw =>
        unfold PlStep at hat
        obtain ⟨t2, rfl, h2⟩ := hat
        refine ⟨_, rfl, t2, _, _, _, rfl, rfl, SqT.of (s1 _ _ h2), z0, rfl, _, rfl, ?_⟩
        refine iteN (fun z => absurd (V.str.inj z) (by decide +kernel)) ⟨_, rfl, D, acc, _, rfl, rfl, hAc, lt, fin G' _ (Same.refl _) ?_⟩
        unfold WP.StepAt
        exact ⟨t2, rfl, s1 _ _ h2⟩
      | join most =>
        unfold PlStep at hat
        obtain ⟨t2, rfl, h2⟩ := hat
        refine ⟨_, rfl, t2, _, _, _, rfl, rfl, SqT.of (s1 _ _ h2), z0, rfl, _, rfl, ?_⟩
        refine iteN (fun z => absurd (V.str.inj z) (by decide +kernel)) ⟨_, rfl, D, acc, _, rfl, rfl, hAc, lt, fin G' _ (Same.refl _) ?_⟩
        unfold WP.StepAt
        exact ⟨t2, rfl, s1 _ _ h2⟩
      | tunnel wi most tw =>
        unfold PlStep at hat
        obtain ⟨tx, v2, rfl, h2, hin⟩ := hat
        have fi := WP.fine_get hall hy
        unfold M.Step.fine at fi
        have di := M.dep_le hy
        have h3 := SqT.of (K := K) (s1 _ _ h2)
        have z1 : atI [V.str "tunnel", v2, .int (most : Int), .str (WP.twS tw)] (1 : Int) = some v2 := by exact atI_nat (j := 1) rfl
        have z2 : atI [V.str "tunnel", v2, .int (most : Int), .str (WP.twS tw)] (2 : Int) = some (.int (most : Int)) := by exact atI_nat (j := 2) rfl
        have z3 : atI [V.str "tunnel", v2, .int (most : Int), .str (WP.twS tw)] (3 : Int) = some (.str (WP.twS tw)) := by exact atI_nat (j := 3) rfl
        refine ⟨_, rfl, tx, _, _, _, rfl, rfl, h3, z0, rfl, _, rfl, ?_⟩
        refine iteP rfl ⟨_, rfl, tx, _, _, _, rfl, rfl, h3, z1, v2, wi, rfl, hin.keep (same_keepT s1), fi.1, ?_, fun a G2 s2 hwa => ?_⟩
        · have e : M.Step.dep (.tunnel wi most tw) = wi.depth := rfl
          omega
        have h4 := SqT.of (K := K) (s2 _ _ (s1 _ _ h2))
        refine ⟨_, rfl, tx, _, _, _, rfl, rfl, h4, z2, _, rfl, tx, _, _, _, rfl, rfl, h4, z3, (by show 4 ≤ sizeLine; decide), fun u hu => ?_⟩
        have s3 : Same G2 (upd G2 u (.tup [.str "tunnel", .ref a, .int (most : Int), .str (WP.twS tw)])) := of_upd hu
        refine ⟨D, acc, _, rfl, rfl, s3 _ _ (s2 _ _ hAc), lt, fin _ _ (s2.trans s3) ?_⟩
        unfold WP.StepAt
        exact ⟨u, a, rfl, upd_same, hwa.mono s3⟩
    · rintro σ G ⟨s1, acc, q, rfl, hAc, hSt⟩
      have e : st.take xs.length = st := by rw [lx]; exact List.take_length
      rw [e] at hSt
      refine ⟨_, rfl, _, rfl, ?_⟩
      exact WP.made_way (.inl hAc) hSt hf0 fun x H' s2 wa => kk x H' (s1.trans s2) wa
end
end CP

end
section
set_option autoImplicit false
set_option Elab.async false
set_option linter.all false
set_option maxRecDepth 100000
set_option maxHeartbeats 4000000
/-! ## the places of a plan -/
namespace M
mutual
def Way.places : Way → List (List Nat)
  | .mk _ s => Step.placesAll s 0
def Step.placesAll : List Step → Nat → List (List Nat)
  | [], _ => []
  | s :: r, i => (Step.places s).map (i :: ·) ++ [[i]] ++ Step.placesAll r (i + 1)
def Step.places : Step → List (List Nat)
  | .tunnel w _ _ => Way.places w
  | .road _ _ _ => []
  | .join _ => []
end
theorem placesAll_cons (s : Step) (r : List Step) (i : Nat) : Step.placesAll (s :: r) i = (Step.places s).map (i :: ·) ++ [[i]] ++ Step.placesAll r (i + 1) := by
  conv => lhs; unfold Step.placesAll
mutual
theorem Way.places_len : ∀ w : Way, (Way.places w).length = w.size
  | .mk h s => by
    unfold Way.places Way.size
    exact Step.placesAll_len s 0
theorem Step.placesAll_len : ∀ (s : List Step) (i : Nat), (Step.placesAll s i).length = s.length + Step.inner s
  | [], i => by
    unfold Step.placesAll Step.inner
    rfl
  | s :: r, i => by
    rw [placesAll_cons, inner_cons, List.length_append, List.length_append, List.length_map, Step.placesAll_len r (i + 1), Step.places_len s, List.length_cons, List.length_cons, List.length_nil]
    omega
theorem Step.places_len : ∀ s : Step, (Step.places s).length = isz s
  | .tunnel w a b => by
    unfold Step.places isz
    exact Way.places_len w
  | .road _ _ _ => by
    unfold Step.places
    rfl
  | .join _ => by
    unfold Step.places
    rfl
end
mutual
theorem Way.places_dp : ∀ (w : Way), ∀ p ∈ Way.places w, p.length ≤ w.depth
  | .mk h s, p, m => by
    unfold Way.places at m
    unfold Way.depth
    exact Step.placesAll_dp s 0 p m
theorem Step.placesAll_dp : ∀ (s : List Step) (i : Nat), ∀ p ∈ Step.placesAll s i, p.length ≤ 1 + Step.deepest s
  | [], i, p, m => by
    unfold Step.placesAll at m
    cases m
  | s :: r, i, p, m => by
    rw [placesAll_cons] at m
    rw [deep_cons]
    rcases List.mem_append.mp m with m | m
    · rcases List.mem_append.mp m with m | m
      · obtain ⟨q, hq, rfl⟩ := List.mem_map.mp m
        have := Step.places_dp s q hq
        rw [List.length_cons]
        omega
      · rw [List.mem_singleton.mp m]
        show 1 ≤ _
        omega
    · have := Step.placesAll_dp r (i + 1) p m
      omega
theorem Step.places_dp : ∀ (s : Step), ∀ p ∈ Step.places s, p.length ≤ Step.dep s
  | .tunnel w a b, p, m => by
    unfold Step.places at m
    exact Way.places_dp w p m
  | .road _ _ _, p, m => by
    unfold Step.places at m
    cases m
  | .join _, p, m => by
    unfold Step.places at m
    cases m
end
end M
namespace CP
open PySem L2 G Y
abbrev sPlaces : Stmt := S.top 64
/-- places as tuples -/
inductive LsAt (H : Hp) : List (List Nat) → List V → Prop
  | nil : LsAt H [] []
  | cons {p : List Nat} {l : List (List Nat)} {t : Addr} {xs : List V} : H t = some (.tup (ni p)) → LsAt H l xs → LsAt H (p :: l) (.ref t :: xs)
theorem LsAt.keep {H H' : Hp} (s : KeepT H H') {l : List (List Nat)} {xs : List V} (h : LsAt H l xs) : LsAt H' l xs := by
  induction h with
  | nil => exact .nil
  | cons e _ ih => exact .cons (s.tup e) ih
theorem LsAt.app {H : Hp} {l m : List (List Nat)} {xs ys : List V} (h : LsAt H l xs) (h2 : LsAt H m ys) : LsAt H (l ++ m) (xs ++ ys) := by
  induction h with
  | nil => exact h2
  | cons e _ ih => exact .cons e ih
theorem LsAt.len {H : Hp} {l : List (List Nat)} {xs : List V} (h : LsAt H l xs) : xs.length = l.length := by
  induction h with
  | nil => rfl
  | cons _ _ ih => rw [List.length_cons, List.length_cons, ih]
theorem LsAt.get {H : Hp} {l : List (List Nat)} {xs : List V} (h : LsAt H l xs) : ∀ {i : Nat} {v : V}, xs[i]? = some v → ∃ p t, l[i]? = some p ∧ v = .ref t ∧ H t = some (.tup (ni p)) := by
  induction h with
  | nil => intro i v e; cases e
  | cons e _ ih =>
    intro i v e2
    cases i with
    | zero =>
      cases e2
      exact ⟨_, _, rfl, rfl, e⟩
    | succ i => exact ih (i := i) e2
theorem catA_own {K : PySem.W.Frag} {H : Hp} {Q : VK} {a b : Addr} {xs ys : List V} (ha : H a = some (.tup xs)) (hb : H b = some (.tup ys)) (hl : xs.length + ys.length ≤ sizeLine) (k : ∀ c H', Same H H' → H' c = some (.tup (xs ++ ys)) → Q (.ref c) H') : rCatA K (.ref a) (.ref b) H Q :=
  ⟨a, b, xs, ys, rfl, rfl, SqT.of ha, SqT.of hb, hl, fun z => k b H (Same.refl H) (by rw [z]; exact hb), fun _ z => k a H (Same.refl H) (by rw [z, List.append_nil]; exact ha), fun _ _ p hp => k p _ (of_upd hp) upd_same⟩
section
variable {P : Program} {w : World} {K : PySem.W.Frag} {mg : Str → Option Value} {base : Heap} {C CW : Addr}
def spPlaces (n : Nat) : Sp := fun vs H Q _ => ∃ (v : V) (wy : M.Way), vs = [v] ∧ PlanAt H wy v ∧ M.Way.fine wy ∧ wy.depth ≤ n ∧ ∀ D xs H', Same H H' → H D = none → H' D = some (.lst xs) → LsAt H' (M.Way.places wy) xs → Q (.ref D) H'
abbrev NPl : List Str := ["plan", "found", "at", "step", "place"]
theorem scPl : FnScope NPl ["plan"] (defScope sPlaces) := ⟨rfl, rfl, rfl, by decide +kernel, rfl, by decide +kernel, by decide +kernel⟩
theorem ok_places {k n : Nat} {f : Addr} {fd : FuncData} (F : Fun K "_law_places" "_law_places" sPlaces f fd) (B : Bn mg) (DP : Df P w K mg base k "_law_places" ["plan"] (spPlaces n)) : FnOk P w K mg base CX0 (k + 1) f fd ["plan"] (spPlaces (n + 1)) := by
  obtain ⟨fP, fdP, GP, gP, kP, bP⟩ := DP.ex
  refine F.ok scPl (fun vs H Q E h => ?_) (fun cdv A outer s H vs Q E hr h => ?_)
  · obtain ⟨v, wy, rfl, _⟩ := h
    rfl
  · obtain ⟨v, wy, rfl, hp, hf, hd, kk⟩ := h
    refine ⟨_, pss_cons (ps_set (i := 1) scPl.nd rfl (Or.inl rfl) (pe_lst pa_nil))
      (pss_cons (ps_for PassesOwn.never rfl (WP.pi_et (by rfl) B.enum (pa_cons (pe_ix ix_tup (pv 0) (pe_int) (fun _ _ => rfl)) pa_nil)) (pg_tup (by rfl) (pgs_cons (pg_name (i := 2) scPl.nd rfl (Or.inr rfl)) (pgs_cons (pg_name (i := 3) scPl.nd rfl (Or.inl rfl)) pgs_nil))) (pss_cons (ps_if (pt_cmpR (op_eq) (pe_ix ix_tup (pv 3) (pe_int) (fun _ _ => rfl)) (pe_str) (nomark _)) (pss_one (ps_expr (pe_bm PySem.F.plainAttrs_list PySem.F.slot_list_extend PySem.F.type_list_extend mt_extend (pv 1) (pa_cons (pe_lc (own := [("place", 4)]) (g := gName 4) (tt := tYes) (te := tOp (rCatA K) (tTup (tCons (tVar 2) tNil)) (tVar 4)) rfl scPl.nd (pi_list (pe_call GP (hr.mono (by omega)) rfl gP kP bP .nil pass0 (pa_cons (pe_ix ix_tup (pv 3) (pe_int) (fun _ _ => rfl)) pa_nil))) (blkOk_by (N := NPl) (sc := defScope sPlaces) (by decide +kernel))
          (fun _ _ _ _ _ => pg_name (i := 4) scPl.nd rfl (Or.inl rfl)) (fun _ _ _ _ _ => pts_nil) (fun _ _ _ _ _ => by exact pe_op op_catA (pe_tup (pa_cons (pv 2) pa_nil)) (pv 4))) pa_nil)))) (pss_nil))
      (pss_one (ps_expr (pe_bm PySem.F.plainAttrs_list PySem.F.slot_list_append PySem.F.type_list_append mt_append (pv 1) (pa_cons (pe_tup (pa_cons (pv 2) pa_nil)) pa_nil))))))
      (pss_one (ps_ret (pv 1)))), ?_⟩
    have pz := M.Way.places_len wy
    have dz := fine_dep hf
    have fz := (fine_all hf).2.2
    have fa := (fine_all hf).1
    obtain ⟨wh, sts⟩ := wy
    unfold PlanAt at hp
    obtain ⟨t, L, xs, rfl, ht, hL, hA⟩ := hp
    have il := hA.len
    unfold M.Way.depth at hd dz
    unfold M.Way.places at kk pz
    have i1 : ∀ {z o : V}, atI [z, o] (1 : Int) = some o := fun {z o} => by exact atI_nat (xs := [z, o]) (j := 1) rfl
    have z0 : ∀ {y0 : V} {ys : List V}, atI (y0 :: ys) (0 : Int) = some y0 := fun {y0 ys} => by exact atI_nat (xs := y0 :: ys) (j := 0) rfl
    refine set_then (i := 1) ⟨line2.2.2.2, fun D hD => ?_⟩
    have s0 := of_upd (o := .lst []) hD
    refine ⟨_, rfl, t, _, _, _, rfl, rfl, SqT.of (s0 _ _ ht), i1, L, xs, rfl, SqT.of (s0 _ _ hL), ?_⟩
    refine for_it WP.walk_et (fun i σ G => Same H G ∧ ∃ (ys : List V) (done : List (List Nat)) (q2 q3 q4 : Option V), σ = [some (.ref t), some (.ref D), q2, q3, q4] ∧ G D = some (.lst ys) ∧ LsAt G done ys ∧ M.Step.placesAll sts 0 = done ++ M.Step.placesAll (sts.drop i) i)
      ⟨s0, [], [], _, _, _, rfl, upd_same, .nil, rfl⟩ (fun i σ G _ z => SqT.of (z.1 _ _ hL)) ?_ ?_
    · rintro i v σ G G' hi ⟨s1, ys, done, q2, q3, q4, rfl, eD, gD, eq⟩ ⟨tt, x1, x2, rfl, nt, rfl, e1, hx⟩
      cases e1
      obtain ⟨st, hst, hat⟩ := hA.get hx
      have g1 := of_upd (o := .tup [V.int (i : Nat), x2]) nt
      have s2 := s1.trans g1
      refine ⟨tt, _, rfl, SqT.of upd_same, rfl, _, _, rfl, _, _, rfl, rfl, ?_⟩
      have ed : sts.drop i = st :: sts.drop (i + 1) := by
        obtain ⟨hi3, ex⟩ := List.getElem?_eq_some_iff.mp hst
        rw [← ex, ← List.drop_eq_getElem_cons hi3]
      rw [ed, M.placesAll_cons] at eq
      have ll : done.length + (M.Step.places st).length + 1 ≤ 40 := by
        have := congrArg List.length eq
        rw [List.length_append, List.length_append, List.length_append, List.length_map] at this
        simp only [List.length_cons, List.length_nil] at this
        omega
      have dl := M.dep_le hst
      have eD2 := g1 _ _ eD
      have gD2 := gD.keep (same_keepT g1)
      have hat2 := hat.keep (same_keepT s2)
      generalize upd G tt (.tup [V.int (i : Nat), x2]) = G2 at s2 eD2 gD2 hat2
      have lD := gD2.len
      refine if_then (fun σ' G3 => Same H G3 ∧ ∃ (ys3 : List V) (q4 : Option V), σ' = [some (.ref t), some (.ref D), some (.int ((i : Nat) : Int)), some x2, q4] ∧ G3 D = some (.lst ys3) ∧ LsAt G3 (done ++ (M.Step.places st).map (i :: ·)) ys3) ?r1 (fun k1 => ?_)
      case r1 =>
        rintro σ' G3 ⟨s3, ys3, q4, rfl, e3, l3⟩
        have l3' := l3.len
        rw [List.length_append, List.length_map] at l3'
        refine ⟨_, rfl, .inl ⟨rfl, _, SqL.of e3⟩, _, rfl, line2.2.2.1, fun t2 ht2 => ?_⟩
        have g2 := of_upd (o := .tup [V.int ((i : Nat) : Int)]) ht2
        have e4 := g2 _ _ e3
        have kp := put_keepT (o := .lst (ys3 ++ [.ref t2])) e4
        refine ⟨D, ys3, _, rfl, rfl, e4, small1000 (by omega), add_upd hD (s3.trans g2), _, done ++ (M.Step.places st).map (i :: ·) ++ [[i]], _, _, _, rfl, upd_same, ?_, ?_⟩
        · exact ((l3.keep (same_keepT g2)).keep kp).app (.cons (kp.tup upd_same) .nil)
        · rw [eq]
          simp only [List.append_assoc]
      cases st with
      | road size ts lw =>
        unfold PlStep at hat2
        obtain ⟨t2, rfl, h2⟩ := hat2
        refine ⟨_, rfl, t2, _, _, _, rfl, rfl, SqT.of h2, z0, rfl, _, rfl, iteN (fun z => absurd (V.str.inj z) (by decide +kernel)) (k1 _ _ ⟨s2, ys, _, rfl, eD2, ?_⟩)⟩
        unfold M.Step.places
        rw [List.map_nil, List.append_nil]
        exact gD2
      | join most =>
        unfold PlStep at hat2
        obtain ⟨t2, rfl, h2⟩ := hat2
        refine ⟨_, rfl, t2, _, _, _, rfl, rfl, SqT.of h2, z0, rfl, _, rfl, iteN (fun z => absurd (V.str.inj z) (by decide +kernel)) (k1 _ _ ⟨s2, ys, _, rfl, eD2, ?_⟩)⟩
        unfold M.Step.places
        rw [List.map_nil, List.append_nil]
        exact gD2
      | tunnel wi most tw =>
        unfold PlStep at hat2
        obtain ⟨t2, v2, rfl, h2, hin⟩ := hat2
        have fi := WP.fine_get fa hst
        unfold M.Step.fine at fi
        have z1 : atI [V.str "tunnel", v2, .int (most : Int), .str (WP.twS tw)] (1 : Int) = some v2 := by exact atI_nat (j := 1) rfl
        refine ⟨_, rfl, t2, _, _, _, rfl, rfl, SqT.of h2, z0, rfl, _, rfl, iteP rfl ?_⟩
        refine ⟨_, rfl, .inl ⟨rfl, _, SqL.of eD2⟩, ?_⟩
        refine ⟨_, rfl, t2, _, _, _, rfl, rfl, SqT.of h2, z1, v2, wi, rfl, hin, fi.1, ?_, fun E zs G3 s3 nE eE lE => ?_⟩
        · have e : M.Step.dep (.tunnel wi most tw) = wi.depth := rfl
          omega
        have dz2 : ∀ p ∈ M.Way.places wi, p.length ≤ 3 := fun p hp => by
          have := M.Way.places_dp wi p hp
          have e : M.Step.dep (.tunnel wi most tw) = wi.depth := rfl
          omega
        have lz := lE.len
        have ps : M.Step.places (.tunnel wi most tw) = M.Way.places wi := by unfold M.Step.places; rfl
        rw [ps] at ll k1
        refine ⟨E, rfl, ⟨_, SqL.of eE⟩, fun D2 nD2 => ?_⟩
        refine lc_it walk_list (fun j G => Same G3 G ∧ ∃ ws, G D2 = some (.lst ws) ∧ LsAt G (((M.Way.places wi).take j).map (i :: ·)) ws) ⟨of_upd nD2, [], upd_same, .nil⟩ (fun j G _ z => SqL.of (z.1 _ _ eE)) ?_ ?_
        · rintro j x G4 G4' hj ⟨s4, ws, hw, lw⟩ ⟨rfl, hx4⟩
          obtain ⟨p, tp, hp, rfl, ep⟩ := lE.get hx4
          have lw' := lw.len
          rw [List.length_map] at lw'
          have lt := List.length_take_le j (M.Way.places wi)
          refine ⟨rfl, _, rfl, line2.2.2.1, fun u hu => ?_⟩
          have g4 := of_upd (o := .tup [V.int ((i : Nat) : Int)]) hu
          refine ⟨_, rfl, catA_own (ys := ni p) upd_same (g4 _ _ (s4 _ _ ep)) (by rw [ni_len]; have := dz2 p (List.mem_of_getElem? hp); exact Nat.le_trans (show 1 + p.length ≤ 4 by omega) (by decide)) fun c G5 s5 hc => ?_⟩
          have s45 := g4.trans s5
          have hw2 := s45 _ _ hw
          have kp := put_keepT (o := .lst (ws ++ [.ref c])) hw2
          refine ⟨ws, hw2, small1000 (by omega), add_upd nD2 (s4.trans s45), ws ++ [.ref c], upd_same, ?_⟩
          rw [take_snoc hp, List.map_append]
          refine ((lw.keep (same_keepT s45)).keep kp).app (.cons (kp.tup ?_) .nil)
          exact hc
        · rintro G4 ⟨s4, ws, hw, lw⟩
          rw [lz, List.take_length] at lw
          have eD4 := s4 _ _ (s3 _ _ eD2)
          have gD4 := (gD2.keep (same_keepT s3)).keep (same_keepT s4)
          have kp := put_keepT (o := .lst (ys ++ ws)) eD4
          have lw' := lw.len
          rw [List.length_map] at lw'
          refine ⟨D, D2, ys, ws, rfl, rfl, eD4, hw, Nat.le_trans (show ys.length + ws.length ≤ 1000 by omega) (by decide), k1 _ _ ⟨add_upd hD ((s2.trans s3).trans s4), ys ++ ws, _, rfl, upd_same, ?_⟩⟩
          exact (gD4.keep kp).app (lw.keep kp)
    · rintro σ G ⟨s1, ys, done, q2, q3, q4, rfl, eD, gD, eq⟩
      rw [il, List.drop_length] at eq
      rw [show M.Step.placesAll [] sts.length = [] by unfold M.Step.placesAll; rfl, List.append_nil] at eq
      refine ⟨_, rfl, kk D ys G s1 hD eD ?_⟩
      rw [eq]
      exact gD
end
end CP

end
section
set_option autoImplicit false
set_option Elab.async false
set_option linter.all false
set_option maxRecDepth 100000
set_option maxHeartbeats 4000000
/-! ## pieces as numbers of them by their stretches (mathematics) -/
namespace N
theorem cu_rep {c : Nat} (hc : 0 < c) (x : Nat) (hx : c < x) : cu c x = List.replicate (x / c) c ++ (if x % c = 0 then [] else [x % c]) := by
  induction x using Nat.strongRecOn with
  | ind x ih =>
    rw [cu_lt hc hx]
    have e1 : x / c = (x - c) / c + 1 := by
      rw [← Nat.div_eq_sub_div hc (by omega)]
    have e2 : x % c = (x - c) % c := Nat.mod_eq_sub_mod (by omega)
    by_cases h : c < x - c
    · rw [ih (x - c) (by omega) h, e1, e2, List.replicate_succ]
      rfl
    · rw [cu_le (by omega), e1, e2, List.replicate_succ]
      by_cases h2 : x - c = c
      · rw [h2, Nat.div_self hc, Nat.mod_self, if_pos rfl]
        rfl
      · have h3 : x - c < c := by omega
        rw [Nat.div_eq_of_lt h3, Nat.mod_eq_of_lt h3, if_neg (by omega)]
        rfl
/-- what comes of a number of pieces alike behind a cut -/
def cuts (c x n : Nat) : List Nat := if x ≤ c then List.replicate n x else List.replicate (x / c * n) c ++ (if x % c = 0 then [] else List.replicate n (x % c))
theorem count_rep_flat (y n x : Nat) (f : Nat → List Nat) : ((List.replicate n x).flatMap f).count y = n * (f x).count y := by
  induction n with
  | zero => simp
  | succ n ih =>
    rw [List.replicate_succ, List.flatMap_cons, List.count_append, ih, Nat.add_mul]
    omega
theorem cuts_count {c : Nat} (hc : 0 < c) (x n y : Nat) : (cuts c x n).count y = n * (cu c x).count y := by
  unfold cuts
  by_cases h : x ≤ c
  · rw [if_pos h, cu_le h, List.count_replicate, List.count_singleton]
    by_cases e : x = y
    · simp [e]
    · simp [e]
  · rw [if_neg h, cu_rep hc x (by omega), List.count_append, List.count_append, List.count_replicate, List.count_replicate]
    by_cases e : c = y
    · subst e
      by_cases e2 : x % c = 0
      · rw [if_pos e2, if_pos e2]
        simp [Nat.mul_comm]
      · have : x % c < c := Nat.mod_lt _ hc
        rw [if_neg e2, if_neg e2, List.count_replicate, List.count_singleton]
        have e3 : ¬ x % c = c := by omega
        simp [e3, Nat.mul_comm]
    · by_cases e2 : x % c = 0
      · simp [e, e2]
      · rw [if_neg e2, if_neg e2, List.count_replicate, List.count_singleton]
        by_cases e3 : x % c = y
        · simp [e, e3]
        · simp [e, e3]
theorem count_keys (L : List Nat) : ∀ (ks : List Nat), ks.Nodup → ∀ a, (ks.flatMap fun x => List.replicate (L.count x) x).count a = if a ∈ ks then L.count a else 0
  | [], _, a => by simp
  | k :: ks, h, a => by
    obtain ⟨h1, h2⟩ := List.nodup_cons.mp h
    rw [List.flatMap_cons, List.count_append, count_keys L ks h2 a, List.count_replicate]
    by_cases e : k = a
    · subst e
      simp [h1]
    · have e2 : ¬ a = k := fun z => e z.symm
      simp [e, e2]
/-- the pieces, put in order of their stretches -/
theorem perm_keys {L ks : List Nat} (h : ks.Nodup) (hm : ∀ x, x ∈ L ↔ x ∈ ks) : L.Perm (ks.flatMap fun x => List.replicate (L.count x) x) := by
  rw [List.perm_iff_count]
  intro a
  rw [count_keys L ks h a]
  by_cases e : a ∈ ks
  · rw [if_pos e]
  · rw [if_neg e]
    exact List.count_eq_zero.mpr fun z => e ((hm a).mp z)
theorem flat_keys {L ks : List Nat} {c : Nat} (hc : 0 < c) (h : ks.Nodup) (hm : ∀ x, x ∈ L ↔ x ∈ ks) : (L.flatMap (cu c)).Perm (ks.flatMap fun x => cuts c x (L.count x)) := by
  refine (List.Perm.flatMap_right (cu c) (perm_keys h hm)).trans ?_
  rw [List.flatMap_assoc, List.perm_iff_count]
  intro a
  clear h hm
  induction ks with
  | nil => rfl
  | cons k ks ih => rw [List.flatMap_cons, List.flatMap_cons, List.count_append, List.count_append, ih, count_rep_flat, cuts_count hc]
end N
namespace CP
open PySem L2 G Y
/-- a dict of numbers of pieces by their stretches -/
structure Sz (kvs : List (Key × V)) (L : List Nat) : Prop where
  val : ∀ x : Nat, valV kvs (Sum.inl ((x : Nat) : Int)) = if x ∈ L then some (.int ((L.count x : Nat) : Int)) else none
  key : ∀ k ∈ kvs.map (·.1), ∃ x : Nat, k = Sum.inl ((x : Nat) : Int)
  nod : (kvs.map (·.1)).Nodup
theorem Sz.perm {kvs : List (Key × V)} {L M : List Nat} (h : Sz kvs L) (p : L.Perm M) : Sz kvs M := by
  refine ⟨fun x => ?_, h.key, h.nod⟩
  rw [h.val x, p.count_eq x]
  by_cases e : x ∈ L
  · rw [if_pos e, if_pos (p.mem_iff.mp e)]
  · rw [if_neg e, if_neg (fun z => e (p.mem_iff.mpr z))]
theorem keys_put {kvs : List (Key × V)} {k : Key} {v : V} : (putK kvs k v).map (·.1) = if (valV kvs k).isSome = true then kvs.map (·.1) else kvs.map (·.1) ++ [k] := by
  unfold putK
  rw [valV_any]
  by_cases h : (valV kvs k).isSome = true
  · rw [if_pos h, if_pos h, List.map_map]
    refine List.map_congr_left fun p _ => ?_
    show (if p.1 = k then (p.1, v) else p).1 = p.1
    split <;> rfl
  · rw [if_neg h, if_neg h, List.map_append]
    rfl
theorem val_none {kvs : List (Key × V)} {k : Key} (h : ¬ (valV kvs k).isSome = true) : k ∉ kvs.map (·.1) := fun z => by
  obtain ⟨p, hp, e⟩ := List.mem_map.mp z
  rw [← valV_any k kvs] at h
  exact h (List.any_eq_true.mpr ⟨p, hp, decide_eq_true e⟩)
theorem Sz.add {kvs : List (Key × V)} {L : List Nat} {p m : Nat} (h : Sz kvs L) (hm : 0 < m ∨ p ∈ L) : Sz (putK kvs (Sum.inl ((p : Nat) : Int)) (.int ((L.count p + m : Nat) : Int))) (L ++ List.replicate m p) := by
  refine ⟨fun x => ?_, fun k hk => ?_, ?_⟩
  · rw [valV_put]
    by_cases e : x = p
    · subst e
      rw [if_pos rfl, if_pos, List.count_append, List.count_replicate_self]
      rcases hm with hm | hm
      · exact List.mem_append_right _ (List.mem_replicate.mpr ⟨by omega, rfl⟩)
      · exact List.mem_append_left _ hm
    · have e2 : ¬ (Sum.inl ((x : Nat) : Int) : Key) = Sum.inl ((p : Nat) : Int) := fun z => e (by injection z with z; omega)
      have e3 : ¬ p = x := fun z => e z.symm
      rw [if_neg e2, h.val x, List.count_append, List.count_replicate]
      by_cases e4 : x ∈ L
      · rw [if_pos e4, if_pos (List.mem_append_left _ e4)]
        simp [e3]
      · rw [if_neg e4, if_neg]
        intro z
        rcases List.mem_append.mp z with z | z
        · exact e4 z
        · exact e (List.mem_replicate.mp z).2
  · rw [keys_put] at hk
    split at hk
    · exact h.key k hk
    · rcases List.mem_append.mp hk with hk | hk
      · exact h.key k hk
      · exact ⟨p, List.mem_singleton.mp hk⟩
  · rw [keys_put]
    split
    · exact h.nod
    · rename_i hn
      rw [List.nodup_append]
      refine ⟨h.nod, by simp, ?_⟩
      intro a ha b hb e
      rw [List.mem_singleton.mp hb] at e
      subst e
      exact val_none hn ha
/-- what `get` gives for a stretch, 0 if there is none -/
theorem Sz.get {kvs : List (Key × V)} {L : List Nat} (h : Sz kvs L) (p : Nat) : (valV kvs (Sum.inl ((p : Nat) : Int))).getD (.int 0) = .int ((L.count p : Nat) : Int) := by
  rw [h.val p]
  by_cases e : p ∈ L
  · rw [if_pos e]
    rfl
  · rw [if_neg e, List.count_eq_zero.mpr e]
    rfl
theorem Sz.nil : Sz [] [] := ⟨fun x => by simp [valV_nil], (fun k hk => by cases hk), List.nodup_nil⟩
/-- the stretches, as the dict's own sequence has them -/
theorem Sz.keys {kvs : List (Key × V)} {L : List Nat} (h : Sz kvs L) : ∃ ks : List Nat, kvs.map (·.1) = ks.map (fun x => (Sum.inl ((x : Nat) : Int) : Key)) ∧ ks.Nodup ∧ (∀ x, x ∈ L ↔ x ∈ ks) ∧ ∀ (i : Nat) (k : Key) (v : V), kvs[i]? = some (k, v) → ∃ x, ks[i]? = some x ∧ k = Sum.inl ((x : Nat) : Int) := by
  have ex : ∀ l : List Key, (∀ k ∈ l, ∃ x : Nat, k = Sum.inl ((x : Nat) : Int)) → ∃ ks : List Nat, l = ks.map (fun x => (Sum.inl ((x : Nat) : Int) : Key)) := by
    intro l
    induction l with
    | nil => exact fun _ => ⟨[], rfl⟩
    | cons k l ih =>
      intro q
      obtain ⟨x, e⟩ := q k List.mem_cons_self
      obtain ⟨ks, e2⟩ := ih fun z hz => q z (List.mem_cons_of_mem _ hz)
      exact ⟨x :: ks, by rw [e, e2]; rfl⟩
  obtain ⟨ks, e⟩ := ex _ h.key
  have nd := h.nod
  rw [e] at nd
  have nd2 : ks.Nodup := by
    have q := List.pairwise_map.mp nd
    exact q.imp (fun {a b} (w : (Sum.inl ((a : Nat) : Int) : Key) ≠ Sum.inl ((b : Nat) : Int)) => (fun z : a = b => w (by rw [z]) : a ≠ b))
  refine ⟨ks, e, nd2, fun x => ?_, fun i k v hi => ?_⟩
  · have v := h.val x
    constructor
    · intro hx
      rw [if_pos hx] at v
      have : (kvs.any fun kv => decide (kv.1 = Sum.inl ((x : Nat) : Int))) = true := by rw [valV_any, v]; rfl
      obtain ⟨p, hp, ep⟩ := List.any_eq_true.mp this
      have hm : (Sum.inl ((x : Nat) : Int) : Key) ∈ kvs.map (·.1) := List.mem_map.mpr ⟨p, hp, of_decide_eq_true ep⟩
      rw [e] at hm
      obtain ⟨y, hy, ey⟩ := List.mem_map.mp hm
      injection ey with ey
      have : y = x := by omega
      rwa [this] at hy
    · intro hx
      by_cases z : x ∈ L
      · exact z
      · exfalso
        rw [if_neg z] at v
        refine val_none (kvs := kvs) (k := Sum.inl ((x : Nat) : Int)) (by rw [v]; decide) ?_
        rw [e]
        exact List.mem_map.mpr ⟨x, hx, rfl⟩
  · have h1 : (kvs.map (·.1))[i]? = some k := by rw [List.getElem?_map, hi]; rfl
    rw [e, List.getElem?_map] at h1
    cases h2 : ks[i]? with
    | none =>
      rw [h2] at h1
      cases h1
    | some x =>
      rw [h2] at h1
      cases h1
      exact ⟨x, rfl, rfl⟩
end CP

end
section
set_option autoImplicit false
set_option Elab.async false
set_option linter.all false
set_option maxRecDepth 100000
set_option maxHeartbeats 4000000
/-! ## _law_cut_up -/
namespace N
def cA (c x n : Nat) : List Nat := if x ≤ c then List.replicate n x else List.replicate (x / c * n) c
def cB (c x n : Nat) : List Nat := if x ≤ c then [] else if x % c = 0 then [] else List.replicate n (x % c)
theorem cuts_ab (c x n : Nat) : cuts c x n = cA c x n ++ cB c x n := by
  unfold cuts cA cB
  by_cases h : x ≤ c
  · rw [if_pos h, if_pos h, if_pos h, List.append_nil]
  · rw [if_neg h, if_neg h, if_neg h]
/-- the last piece of a piece behind a cut -/
def lc (c x : Nat) : Nat := if x ≤ c then x else if x % c = 0 then c else x % c
theorem cu_last {c : Nat} (hc : 0 < c) (x : Nat) : (cu c x).getLastD 0 = lc c x := by
  unfold lc
  by_cases h : x ≤ c
  · rw [if_pos h, cu_le h]
    rfl
  · rw [if_neg h, cu_rep hc x (by omega)]
    have hq : 0 < x / c := Nat.div_pos (by omega) hc
    by_cases h2 : x % c = 0
    · rw [if_pos h2, if_pos h2, List.append_nil]
      obtain ⟨q, e⟩ : ∃ q, x / c = q + 1 := ⟨x / c - 1, by omega⟩
      rw [e, List.replicate_succ']
      simp
    · rw [if_neg h2, if_neg h2]
      simp
theorem flat_last {c : Nat} (hc : 0 < c) {ss : List Nat} (ne : ss ≠ []) : (ss.flatMap (cu c)).getLastD 0 = lc c (ss.getLastD 0) := by
  rcases List.eq_nil_or_concat ss with e | ⟨r, y, e⟩
  · exact absurd e ne
  · rw [List.concat_eq_append] at e
    subst e
    have l1 := cu_len hc y
    have e1 : (cu c y).getLastD 0 = lc c y := cu_last hc y
    rw [List.flatMap_append, List.flatMap_singleton]
    rcases List.eq_nil_or_concat (cu c y) with e | ⟨s, z, e⟩
    · rw [e] at l1
      simp at l1
    · rw [List.concat_eq_append] at e
      rw [e] at e1
      rw [e]
      simp at e1
      simp [e1]
end N
namespace CP
open PySem L2 G Y
abbrev sCutUp : Stmt := S.top 65
section
variable {P : Program} {w : World} {K : PySem.W.Frag} {mg : Str → Option Value} {base : Heap} {C CW : Addr}

abbrev tCutBody : TS := tIfS (tOr (tTest (tOp (rI0 fun i j => V.bl (decide (j < i))) (tVar 6) (tC (V.int 0)))) (tTest (tOp rEq (tVar 4) (tC (V.int 0))))) (sDPut (tVar 3) (tVar 6) (tOp (rI0 fun i j => V.int (i + j)) (tDGet2 (tVar 3) (tVar 6) (tC (V.int 0))) (tOp (rI CMul fun i j => V.int (i * j)) (tVar 7) (tDGet (tVar 0) (tVar 4))))) tNext
theorem cut_yes {E' : Ends} {D Fd : Addr} {q1 q2 q5 : Option V} {x p m n : Nat} {fk kvs : List (Key × V)} {od : Obj} {L1 : List Nat} {H : Hp} (hD : H D = some (.frz od (.dK kvs))) (hF : H Fd = some (.dK fk)) (hS : Sz fk L1) (hl : fk.length < sizeLine) (cL : valV kvs (Sum.inl ((x : Nat) : Int)) = some (.int ((n : Nat) : Int))) (hm : m < 2 ^ 63) (hc : 0 < p ∨ x = 0)
    (k : E'.nx [some (.ref D), q1, q2, some (.ref Fd), some (.int (x : Int)), q5, some (.int (p : Int)), some (.int (m : Int))] (upd H Fd (.dK (putK fk (Sum.inl ((p : Nat) : Int)) (.int ((L1.count p + m * n : Nat) : Int)))))) :
    tCutBody E' [some (.ref D), q1, q2, some (.ref Fd), some (.int (x : Int)), q5, some (.int (p : Int)), some (.int (m : Int))] H := by
  have e : ((L1.count p + m * n : Nat) : Int) = (L1.count p : Int) + (m : Int) * (n : Int) := by push_cast; rfl
  rw [e] at k
  have put : (sDPut (tVar 3) (tVar 6) (tOp (rI0 fun i j => V.int (i + j)) (tDGet2 (tVar 3) (tVar 6) (tC (V.int 0))) (tOp (rI CMul fun i j => V.int (i * j)) (tVar 7) (tDGet (tVar 0) (tVar 4))))) E' [some (.ref D), q1, q2, some (.ref Fd), some (.int (x : Int)), q5, some (.int (p : Int)), some (.int (m : Int))] H :=
    ⟨_, rfl, Fd, rfl, .inl ⟨fk, .inl hF⟩, _, rfl, _, DGet.k (k := Sum.inl ((p : Nat) : Int)) hF, _, rfl, _, rfl, _, rfl, D, .int (n : Int), rfl, .inl ⟨kvs, Sum.inl ((x : Nat) : Int), .inr ⟨od, hD⟩, rfl, cL.symm⟩, _, _, rfl, rfl, .inl ⟨by omega, by omega⟩, _, _, hS.get p, rfl, _, rfl, _, rfl, Fd, _, rfl, DPut.k (k := Sum.inl ((p : Nat) : Int)) hF hl, k⟩
  refine ⟨_, rfl, _, _, rfl, rfl, _, rfl, ?_⟩
  refine ite2 (fun _ => iteT put) (fun e2 => ?_)
  have x0 : x = 0 := by
    rcases hc with h | h
    · exact absurd (decide_eq_true (by omega)) e2
    · exact h
  refine ⟨_, rfl, rfl, _, rfl, ?_⟩
  rw [x0] at put ⊢
  exact iteT put
theorem cut_no {E' : Ends} {q0 q1 q2 q3 q5 q7 : Option V} {x : Nat} {H : Hp} (hx : 0 < x) (k : E'.nx [q0, q1, q2, q3, some (.int (x : Int)), q5, some (.int ((0 : Nat) : Int)), q7] H) :
    tCutBody E' [q0, q1, q2, q3, some (.int (x : Int)), q5, some (.int ((0 : Nat) : Int)), q7] H := by
  refine ⟨_, rfl, _, _, rfl, rfl, _, rfl, ?_⟩
  refine iteF ⟨_, rfl, rfl, _, rfl, ?_⟩
  have e : decide (V.int (x : Int) = V.int 0) = false := by
    rw [dec_int]
    exact beq_eq_false_iff_ne.mpr (by omega)
  show if decide (V.int (x : Int) = V.int 0) = true then _ else _
  rw [e]
  exact iteF k
def spCutUp : Sp := fun vs H Q _ => ∃ (D : Addr) (la : Nat) (c : Nat) (kvs : List (Key × V)) (L : List Nat), vs = [.ref D, .int (la : Int), .int (c : Int)] ∧ H D = some (.dK kvs) ∧ Sz kvs L ∧ 0 < c ∧ c ≤ 1000 ∧ (∀ x ∈ L, x < 2000000000000000000) ∧ la < 2000000000000000000 ∧ kvs.length ≤ 100000 ∧
  ∀ (t D2 : Addr) (kvs2 : List (Key × V)) H', Same H H' → H D2 = none → H' t = some (.tup [.ref D2, .int ((N.lc c la : Nat) : Int)]) → H' D2 = some (.dK kvs2) → Sz kvs2 (L.flatMap (N.cu c)) → kvs2.length ≤ 2 * kvs.length → Q (.ref t) H'
abbrev NCu : List Str := ["sizes", "last", "cut", "found", "size", "rest", "part", "many"]
theorem scCu : FnScope NCu ["sizes", "last", "cut"] (defScope sCutUp) := ⟨rfl, rfl, rfl, by decide +kernel, rfl, by decide +kernel, by decide +kernel⟩
theorem ok_cutup {f : Addr} {fd : FuncData} (F : Fun K "_law_cut_up" "_law_cut_up" sCutUp f fd) (B : Bn mg) : FnOk P w K mg base CX0 1 f fd ["sizes", "last", "cut"] spCutUp := by
  refine F.ok scCu (fun vs H Q E h => ?_) (fun cdv A outer s H vs Q E hr h => ?_)
  · obtain ⟨D, la, c, kvs, L, rfl, _⟩ := h
    rfl
  · obtain ⟨D, la, c, kvs, L, rfl, hD, hz, c0, c1, hL, hla, hk, kk⟩ := h
    refine ⟨_, pss_cons (ps_set (i := 3) scCu.nd rfl (Or.inl rfl) (pe_dnewK))
      (pss_cons (ps_lock (ps_for PassesOwn.never rfl (pi_keys (pv 0)) (pg_name (i := 4) scCu.nd rfl (Or.inl rfl)) (pss_cons (ps_set (i := 5) scCu.nd rfl (Or.inl rfl) (pe_op op_sub (pv 4) (pe_op op_mul (pe_op op_fdiv (pv 4) (pv 2)) (pv 2))))
      (pss_one (ps_for PassesOwn.never rfl (pi_list (pe_lst (pa_cons (pe_tup (pa_cons (pe_callB (call_min2 rfl) (by rfl) B.min (by decide +kernel) (pa_cons (pv 2) (pa_cons (pv 4) pa_nil))) (pa_cons (pe_callB (call_max2 rfl) (by rfl) B.max (by decide +kernel) (pa_cons (pe_int) (pa_cons (pe_op op_fdiv (pv 4) (pv 2)) pa_nil))) pa_nil))) (pa_cons (pe_tup (pa_cons (pv 5) (pa_cons (pe_callTy call_int1 (by rfl) B.int (by decide +kernel) (pa_cons (pe_cmpR (op_gt) (pv 4) (pv 2) (nomark _)) pa_nil)) pa_nil))) pa_nil)))) (pg_tup (by rfl) (pgs_cons (pg_name (i := 6) scCu.nd rfl (Or.inl rfl)) (pgs_cons (pg_name (i := 7) scCu.nd rfl (Or.inl rfl)) pgs_nil))) (pss_one (ps_if (PW.pt (pw_or (pt_cmpR (op_gt) (pv 6) (pe_int) (nomark _)) (pw_or1 (pt_cmpR (op_eq) (pv 4) (pe_int) (nomark _))))) (pss_one (ps_dput (hu_of hr) (pv 3) (pv 6) (pe_op op_add (pe_dget2 (hu_of hr) (pv 3) (pv 6) pe_int ⟨rfl, rfl, rfl, rfl⟩) (pe_op op_mul (pv 7) (pe_dget (hu_of hr) (pv 0) (pv 4) (fun _ _ => rfl)))) (by rfl))) (pss_nil))))))))
      (pss_cons (ps_set (i := 5) scCu.nd rfl (Or.inl rfl) (pe_op op_sub (pv 1) (pe_op op_mul (pe_op op_fdiv (pv 1) (pv 2)) (pv 2))))
      (pss_one (ps_ret (pe_tup (pa_cons (pv 3) (pa_cons (pe_ifExp (pt_cmpR (op_le) (pv 1) (pv 2) (nomark _)) (pv 1) (pe_ifExp (pt_cmpR (op_eq) (pv 5) (pe_int) (nomark _)) (pv 2) (pv 5))) pa_nil))))))), ?_⟩
    refine set_then (i := 3) fun Fd hF => ?_
    have nFD : Fd ≠ D := fun z => by
      rw [z, hD] at hF
      cases hF
    have s0 := of_upd (o := .dK []) hF
    obtain ⟨ks, ek, nk, mk, gk⟩ := hz.keys
    have lk : ks.length = kvs.length := by
      have := congrArg List.length ek
      rw [List.length_map, List.length_map] at this
      exact this.symm
    have cc : (0 : Int) < (c : Int) ∧ (c : Int) < 1073741824 := by omega
    refine ⟨D, _, s0 _ _ hD, trivial, fun od => ?_⟩
    refine ⟨_, rfl, D, od, rfl, .inl ⟨_, upd_same, ?_⟩⟩
    refine for_it walk_keys (fun i σ G => (∀ a o, a ≠ D → H a = some o → G a = some o) ∧ G D = some (.frz od (.dK kvs)) ∧ ∃ (fk : List (Key × V)) (q4 q5 q6 q7 : Option V), σ = [some (.ref D), some (.int (la : Int)), some (.int (c : Int)), some (.ref Fd), q4, q5, q6, q7] ∧ G Fd = some (.dK fk) ∧ Sz fk ((ks.take i).flatMap fun x => N.cuts c x (L.count x)) ∧ fk.length ≤ 2 * i)
      ⟨fun a o n e => by rw [upd_ne n]; exact s0 _ _ e, upd_same, [], _, _, _, _, rfl, by rw [upd_ne nFD]; exact upd_same, .nil, Nat.le_refl _⟩ (fun i σ G _ z => z.2.1) ?_ ?_
    · rintro i v σ G G' hi ⟨s1, hDG, fk, q4, q5, q6, q7, rfl, hFG, hS, hl⟩ ⟨rfl, kx, vx, hget, rfl⟩
      obtain ⟨x, hx, rfl⟩ := gk i kx vx hget
      have xL : x ∈ L := (mk x).mpr (List.mem_of_getElem? hx)
      have xb := hL x xL
      have hn : 0 < L.count x := List.count_pos_iff.mpr xL
      have cL : valV kvs (Sum.inl ((x : Nat) : Int)) = some (.int ((L.count x : Nat) : Int)) := by rw [hz.val x, if_pos xL]
      have tk : (ks.take (i + 1)).flatMap (fun x => N.cuts c x (L.count x)) = ((ks.take i).flatMap fun x => N.cuts c x (L.count x)) ++ (N.cA c x (L.count x) ++ N.cB c x (L.count x)) := by
        rw [take_snoc hx, List.flatMap_append, ← N.cuts_ab]
        simp
      generalize (ks.take i).flatMap (fun x => N.cuts c x (L.count x)) = P0 at hS tk
      generalize hnn : L.count x = n at hn cL tk
      have dm := Nat.div_add_mod x c
      have rl : (x : Int) - (x : Int) / (c : Int) * (c : Int) = ((x % c : Nat) : Int) := by
        have e : (x : Int) / (c : Int) = ((x / c : Nat) : Int) := rfl
        rw [e, ← Int.natCast_mul]
        have : x / c * c = c * (x / c) := Nat.mul_comm _ _
        omega
      refine set_then (i := 5) ⟨_, rfl, _, rfl, _, rfl, _, _, rfl, rfl, cc, _, rfl, _, _, rfl, rfl, .inr ⟨by omega, by omega⟩, _, _, rfl, rfl, ?_⟩
      dsimp only
      rw [rl]
      refine ⟨_, rfl, _, rfl, _, _, rfl, _, rfl, _, rfl, _, _, rfl, rfl, cc, _, _, rfl, (show 2 ≤ sizeLine from by decide), fun p1 n1 => ?_⟩
      refine ⟨_, rfl, _, rfl, _, rfl, _, _, rfl, rfl, .inr ⟨_, rfl, (show 2 ≤ sizeLine from by decide), fun p2 n2 => ?_⟩⟩
      refine ⟨(show 2 ≤ sizeLine from by decide), fun q nq => ?_⟩
      have sq := of_upd (o := HO.lst [.ref p1, .ref p2]) nq
      have S0 := ((of_upd n1).trans (of_upd n2)).trans sq
      have hp1 := ((of_upd n2).trans sq) _ _ upd_same
      have hp2 := sq _ _ upd_same
      have e1 : (if (x : Int) < (c : Int) then (x : Int) else (c : Int)) = ((if x ≤ c then x else c : Nat) : Int) := by
        split <;> split <;> omega
      have d1 : x ≤ c → x / c ≤ 1 := fun h => by
        have := Nat.div_le_div_right (c := c) h
        rwa [Nat.div_self c0] at this
      have d2 : ¬ x ≤ c → 1 ≤ x / c := fun h => Nat.div_pos (by omega) c0
      have d3 : x / c ≤ x := Nat.div_le_self x c
      have e2 : (if (x : Int) / (c : Int) > 1 then (x : Int) / (c : Int) else 1) = ((if x ≤ c then 1 else x / c : Nat) : Int) := by
        have e : (x : Int) / (c : Int) = ((x / c : Nat) : Int) := rfl
        rw [e]
        by_cases h : x ≤ c
        · have := d1 h
          rw [if_pos h]
          split <;> omega
        · have := d2 h
          rw [if_neg h]
          split <;> omega
      have e3 : (if decide ((c : Int) < (x : Int)) = true then (1 : Int) else 0) = ((if x ≤ c then 0 else 1 : Nat) : Int) := by
        by_cases h : x ≤ c
        · rw [if_pos h, if_neg (by simp; omega)]
          rfl
        · rw [if_neg h, if_pos (by simp; omega)]
          rfl
      obtain ⟨pn, epn⟩ : ∃ pn, pn = if x ≤ c then x else c := ⟨_, rfl⟩
      obtain ⟨mn, emn⟩ : ∃ mn, mn = if x ≤ c then 1 else x / c := ⟨_, rfl⟩
      obtain ⟨kn, ekn⟩ : ∃ kn, kn = if x ≤ c then 0 else 1 := ⟨_, rfl⟩
      have eA : N.cA c x n = List.replicate (mn * n) pn := by
        unfold N.cA
        rw [epn, emn]
        split <;> simp
      have pc : 0 < pn ∨ x = 0 := by
        rw [epn]
        split <;> omega
      have mb : mn < 2 ^ 63 ∧ 0 < mn := by
        rw [emn]
        split
        · exact ⟨by decide, by decide⟩
        · rename_i h
          have := d2 h
          omega
      have kb : kn < 2 ^ 63 := by
        rw [ekn]
        split <;> decide
      refine ⟨q, rfl, ⟨_, SqL.of upd_same⟩, for_list (xs := [.ref p1, .ref p2]) (fun j σ G => (∀ a o, a ≠ D → H a = some o → G a = some o) ∧ G D = some (.frz od (.dK kvs)) ∧ G q = some (.lst [.ref p1, .ref p2]) ∧ G p1 = some (.tup [.int (pn : Int), .int (mn : Int)]) ∧ G p2 = some (.tup [.int ((x % c : Nat) : Int), .int (kn : Int)]) ∧
        ∃ (fj : List (Key × V)) (q6 q7 : Option V), σ = [some (.ref D), some (.int (la : Int)), some (.int (c : Int)), some (.ref Fd), some (.int (x : Int)), some (.int ((x % c : Nat) : Int)), q6, q7] ∧ G Fd = some (.dK fj) ∧ Sz fj (P0 ++ if j = 0 then [] else if j = 1 then N.cA c x n else N.cA c x n ++ N.cB c x n) ∧ fj.length ≤ 2 * i + j)
        ⟨fun a o nn e => S0 _ _ (s1 a o nn e), S0 _ _ hDG, upd_same, hp1.trans (by rw [e1, e2, epn, emn]), hp2.trans (by rw [e3, ekn]), fk, _, _, rfl, S0 _ _ hFG, (by rw [if_pos rfl, List.append_nil]; exact hS), by omega⟩ (fun j σ G _ z => SqL.of z.2.2.1) ?_ ?_⟩
      · rintro j v σ G hj ⟨z1, zD, zq, zp1, zp2, fj, q6, q7, rfl, zF, zS, zl⟩
        have nf1 : p1 ≠ Fd := fun z => by
          rw [z, zF] at zp1
          cases zp1
        have nf2 : p2 ≠ Fd := fun z => by
          rw [z, zF] at zp2
          cases zp2
        have nfq : q ≠ Fd := fun z => by
          rw [z, zF] at zq
          cases zq
        have nfa : ∀ a o, H a = some o → a ≠ Fd := fun a o e z => by
          rw [z, hF] at e
          cases e
        rcases j with _ | _ | j
        · cases hj
          refine ⟨p1, _, rfl, SqT.of zp1, rfl, _, _, rfl, _, _, rfl, rfl, ?_⟩
          rw [if_pos rfl, List.append_nil] at zS
          refine cut_yes (q5 := some (.int ((x % c : Nat) : Int))) zD zF zS (by have : sizeLine = 16777216 := by decide
                                                                                omega) cL mb.1 pc ?_
          refine ⟨fun a o nn e => ?_, ?_, ?_, ?_, ?_, _, _, _, rfl, upd_same, ?_, ?_⟩
          · rw [upd_ne (nfa a o e)]
            exact z1 a o nn e
          · rw [upd_ne (Ne.symm nFD)]
            exact zD
          · rw [upd_ne nfq]
            exact zq
          · rw [upd_ne nf1]
            exact zp1
          · rw [upd_ne nf2]
            exact zp2
          · rw [if_neg (by decide), if_pos rfl, eA]
            exact zS.add (.inl (Nat.mul_pos mb.2 hn))
          · have := length_putK fj (Sum.inl ((pn : Nat) : Int)) (.int ((P0.count pn + mn * n : Nat) : Int))
            omega
        · cases hj
          refine ⟨p2, _, rfl, SqT.of zp2, rfl, _, _, rfl, _, _, rfl, rfl, ?_⟩
          rw [if_neg (by decide), if_pos rfl] at zS
          by_cases hr2 : 0 < x % c ∨ x = 0
          · refine cut_yes (q5 := some (.int ((x % c : Nat) : Int))) zD zF zS (by have : sizeLine = 16777216 := by decide
                                                                                  omega) cL kb hr2 ?_
            have hin : 0 < kn * n ∨ x % c ∈ P0 ++ N.cA c x n := by
              by_cases h : x ≤ c
              · refine .inr (List.mem_append_right _ ?_)
                unfold N.cA
                rw [if_pos h]
                refine List.mem_replicate.mpr ⟨by omega, ?_⟩
                by_cases h2 : x = c
                · rw [h2, Nat.mod_self] at hr2
                  omega
                · exact Nat.mod_eq_of_lt (by omega)
              · refine .inl ?_
                rw [ekn, if_neg h]
                omega
            have eB : List.replicate (kn * n) (x % c) = N.cB c x n := by
              unfold N.cB
              by_cases h : x ≤ c
              · rw [if_pos h, ekn, if_pos h, Nat.zero_mul]
                rfl
              · rw [if_neg h, ekn, if_neg h, Nat.one_mul, if_neg (by omega)]
            refine ⟨fun a o nn e => ?_, ?_, ?_, ?_, ?_, _, _, _, rfl, upd_same, ?_, ?_⟩
            · rw [upd_ne (nfa a o e)]
              exact z1 a o nn e
            · rw [upd_ne (Ne.symm nFD)]
              exact zD
            · rw [upd_ne nfq]
              exact zq
            · rw [upd_ne nf1]
              exact zp1
            · rw [upd_ne nf2]
              exact zp2
            · rw [if_neg (by decide), if_neg (by decide), ← List.append_assoc, ← eB]
              exact zS.add hin
            · have := length_putK fj (Sum.inl ((x % c : Nat) : Int)) (.int (((P0 ++ N.cA c x n).count (x % c) + kn * n : Nat) : Int))
              omega
          · have hr0 : x % c = 0 := by omega
            have eB : N.cB c x n = [] := by
              unfold N.cB
              by_cases h : x ≤ c
              · rw [if_pos h]
              · rw [if_neg h, if_pos hr0]
            rw [hr0] at zp2 ⊢
            refine cut_no (by omega) ?_
            refine ⟨z1, zD, zq, zp1, zp2, fj, _, _, rfl, zF, ?_, by omega⟩
            rw [if_neg (by decide), if_neg (by decide), eB, List.append_nil]
            exact zS
        · simp at hj
      · rintro σ G ⟨z1, zD, zq, zp1, zp2, fj, q6, q7, rfl, zF, zS, zl⟩
        refine ⟨z1, zD, fj, _, _, _, _, rfl, zF, ?_, by have : [V.ref p1, V.ref p2].length = 2 := rfl
                                                        omega⟩
        rw [tk]
        exact zS
    · rintro σ G ⟨z1, zD, fj, q4, q5, q6, q7, rfl, zF, zS, zl⟩
      refine ⟨zD, ?_⟩
      have s2 : Same H (upd G D (.dK kvs)) := fun a o e => by
        by_cases nn : a = D
        · subst nn
          rw [hD] at e
          cases e
          exact upd_same
        · rw [upd_ne nn]
          exact z1 a o nn e
      have hF2 : (upd G D (.dK kvs)) Fd = some (.dK fj) := by
        rw [upd_ne nFD]
        exact zF
      rw [show ks.take kvs.length = ks from by rw [← lk, List.take_length]] at zS
      have zT := zS.perm (N.flat_keys c0 nk mk).symm
      have fin : ∀ (z : Int) (p : Addr), z = ((N.lc c la : Nat) : Int) → (upd G D (.dK kvs)) p = none → Q (.ref p) (upd (upd G D (.dK kvs)) p (.tup [.ref Fd, .int z])) := fun z p ez hp =>
        kk p Fd fj _ (s2.trans (of_upd hp)) hF (by rw [← ez]; exact upd_same) (of_upd hp _ _ hF2) zT (by omega)
      have dm := Nat.div_add_mod la c
      have rl : (la : Int) - (la : Int) / (c : Int) * (c : Int) = ((la % c : Nat) : Int) := by
        have e : (la : Int) / (c : Int) = ((la / c : Nat) : Int) := rfl
        rw [e, ← Int.natCast_mul]
        have : la / c * c = c * (la / c) := Nat.mul_comm _ _
        omega
      dsimp only
      refine set_then (i := 5) ⟨_, rfl, _, rfl, _, rfl, _, _, rfl, rfl, cc, _, rfl, _, _, rfl, rfl, .inr ⟨by omega, by omega⟩, _, _, rfl, rfl, ?_⟩
      dsimp only
      rw [rl]
      refine ⟨_, rfl, _, rfl, _, rfl, _, _, rfl, rfl, _, rfl, ?_⟩
      refine ite2 (fun h => ⟨_, rfl, (show 2 ≤ sizeLine from by decide), fun p => fin _ p ?_⟩) (fun h => ⟨_, rfl, rfl, _, rfl, ?_⟩)
      · have := of_decide_eq_true h
        unfold N.lc
        rw [if_pos (by omega)]
      have h1 : ¬ la ≤ c := fun z => h (decide_eq_true (by omega))
      refine ite2 (fun h => ⟨_, rfl, (show 2 ≤ sizeLine from by decide), fun p => fin _ p ?_⟩) (fun h => ⟨_, rfl, (show 2 ≤ sizeLine from by decide), fun p => fin _ p ?_⟩)
      · have h2 : la % c = 0 := by
          have := V.int.inj (of_decide_eq_true h)
          omega
        unfold N.lc
        rw [if_neg h1, if_pos h2]
      · have h2 : ¬ la % c = 0 := fun z => h (decide_eq_true (by rw [z]; rfl))
        unfold N.lc
        rw [if_neg h1, if_neg h2]
end
end CP

end
section
set_option autoImplicit false
set_option Elab.async false
set_option linter.all false
set_option maxRecDepth 100000
set_option maxHeartbeats 4000000
/-! ## what is in a dict of numbers of pieces: the sum of its values, its greatest key -/
namespace CP
open PySem L2 G Y
theorem val_mem {kvs : List (Key × V)} (nd : (kvs.map (·.1)).Nodup) {k : Key} {v : V} (h : (k, v) ∈ kvs) : valV kvs k = some v := by
  induction kvs with
  | nil => cases h
  | cons p r ih =>
    rw [List.map_cons, List.nodup_cons] at nd
    rcases List.mem_cons.mp h with e | h2
    · subst e
      exact valV_pos rfl
    · have ne : ¬ p.1 = k := fun z => nd.1 (List.mem_map.mpr ⟨_, h2, z.symm⟩)
      rw [valV_neg ne]
      exact ih nd.2 h2
theorem sum_counts (L : List Nat) : ∀ ks : List Nat, (ks.map fun x => ((L.count x : Nat) : Int)).sum = ((ks.flatMap fun x => List.replicate (L.count x) x).length : Int)
  | [] => rfl
  | k :: ks => by
    rw [List.map_cons, List.sum_cons, sum_counts L ks, List.flatMap_cons, List.length_append, List.length_replicate]
    push_cast
    rfl
/-- list(sizes.values()): whole numbers; their sum is the number of pieces -/
theorem Sz.vals {kvs : List (Key × V)} {L : List Nat} (h : Sz kvs L) : ∃ ns : List Int, kvs.map (·.2) = ns.map V.int ∧ ns.sum = (L.length : Int) := by
  obtain ⟨ks, ek, nk, mk, gk⟩ := h.keys
  refine ⟨ks.map fun x => ((L.count x : Nat) : Int), ?_, ?_⟩
  · refine List.ext_getElem? fun i => ?_
    rw [List.getElem?_map, List.getElem?_map, List.getElem?_map]
    rcases e : kvs[i]? with _ | ⟨k, v⟩
    · have : ks[i]? = none := by
        have q := congrArg (fun l => l[i]?) ek
        simp only [List.getElem?_map, e] at q
        rcases e2 : ks[i]? with _ | y
        · rfl
        · rw [e2] at q
          cases q
      rw [this]
      rfl
    · obtain ⟨x, hx, rfl⟩ := gk i k v e
      have m := val_mem h.nod (List.mem_of_getElem? e)
      rw [h.val x, if_pos ((mk x).mpr (List.mem_of_getElem? hx))] at m
      rw [hx]
      cases m
      rfl
  · rw [sum_counts, (N.perm_keys nk mk).length_eq]
/-- list(sizes): the stretches of the pieces -/
theorem Sz.ints {kvs : List (Key × V)} {L : List Nat} (h : Sz kvs L) : ∃ ns : List Int, (kvs.map fun p => kV p.1) = ns.map V.int ∧ ∀ z : Int, z ∈ ns ↔ ∃ x ∈ L, z = ((x : Nat) : Int) := by
  obtain ⟨ks, ek, nk, mk, gk⟩ := h.keys
  refine ⟨ks.map fun x => ((x : Nat) : Int), ?_, fun z => ?_⟩
  · have e : (kvs.map fun p => kV p.1) = (kvs.map (·.1)).map kV := by
      rw [List.map_map]
      rfl
    rw [e, ek, List.map_map, List.map_map]
    rfl
  · rw [List.mem_map]
    exact ⟨fun ⟨x, hx, e⟩ => ⟨x, (mk x).mpr hx, e.symm⟩, fun ⟨x, hx, e⟩ => ⟨x, (mk x).mp hx, e.symm⟩⟩
/-- {body: 1} -/
theorem Sz.one (b : Nat) : Sz [(Sum.inl ((b : Nat) : Int), .int 1)] [b] := by
  have := Sz.nil.add (p := b) (m := 1) (.inl (by decide))
  exact this
end CP

end
section
set_option autoImplicit false
set_option Elab.async false
set_option linter.all false
set_option maxRecDepth 100000
set_option maxHeartbeats 4000000
/-! ## sum(list(sizes.values())), max(list(sizes)), {body: 1} -/
namespace CP
open PySem L2 G Y
theorem sum_vals_at {K : PySem.W.Frag} {te : TE} {σ : St} {H : Hp} {Q : VK} {d : Addr} {kvs : List (Key × V)} {L : List Nat} (ht : ∀ R : VK, R (.ref d) H → te σ H R) (hd : H d = some (.dK kvs)) (hz : Sz kvs L) (k : ∀ H', Same H H' → Q (.int (L.length : Int)) H') :
    tCB (rSum K) (tCons (LV.tListVals te) tNil) σ H Q := by
  obtain ⟨ns, e1, e2⟩ := hz.vals
  refine ht _ ⟨d, kvs, rfl, hd, fun q hq => ⟨q, ns, rfl, SqL.of (by rw [← e1]; exact upd_same), ?_⟩⟩
  rw [e2]
  exact k _ (of_upd hq)
theorem max_keys_at {K : PySem.W.Frag} {te : TE} {σ : St} {H : Hp} {Q : VK} {d : Addr} {kvs : List (Key × V)} {L : List Nat} (ht : ∀ R : VK, R (.ref d) H → te σ H R) (hd : H d = some (.dK kvs)) (hz : Sz kvs L) (ne : L ≠ []) (k : ∀ (m : Nat) H', m ∈ L → (∀ y ∈ L, y ≤ m) → Same H H' → Q (.int (m : Int)) H') :
    tCB (rMax K) (tCons (tCB rListD (tCons te tNil)) tNil) σ H Q := by
  obtain ⟨ns, e1, e2⟩ := hz.ints
  refine ht _ ⟨d, kvs, rfl, hd, fun q hq => ⟨q, ns, rfl, SqL.of (by rw [← e1]; exact upd_same), ?_, fun m hm hy => ?_⟩⟩
  · obtain ⟨x, hx⟩ := List.exists_mem_of_ne_nil L ne
    exact List.length_pos_of_mem ((e2 _).mpr ⟨x, hx, rfl⟩)
  · obtain ⟨x, hx, rfl⟩ := (e2 m).mp hm
    refine k x _ hx (fun y h => ?_) (of_upd hq)
    have := hy _ ((e2 _).mpr ⟨y, h, rfl⟩)
    omega
theorem one_at {tk : TE} {σ : St} {H : Hp} {Q : VK} {b : Nat} (hk : ∀ (H1 : Hp) (R : VK), R (.int (b : Int)) H1 → tk σ H1 R) (k : ∀ (p : Addr) H' kvs, Same H H' → H p = none → H' p = some (.dK kvs) → Sz kvs [b] → kvs.length = 1 → Q (.ref p) H') :
    tDisp [(tk, tC (.int 1))] σ H Q := by
  intro p hp
  refine hk _ _ ?_
  refine ⟨upd_same, [(Sum.inl ((b : Nat) : Int), .int 1)], rfl, (show 1 ≤ 15 from by decide), ?_⟩
  rw [upd_upd]
  exact k p _ _ (of_upd hp) hp upd_same (Sz.one b) rfl
end CP

end
section
set_option autoImplicit false
set_option Elab.async false
set_option linter.all false
set_option maxRecDepth 100000
set_option maxHeartbeats 4000000
/-! ## stops: a dict of what is told by places -/
namespace CP
open PySem L2 G Y
def pk (p : List Nat) : List Key := p.map fun x => (Sum.inl ((x : Nat) : Int) : Key)
def tldV : Option Int → V
  | none => .non
  | some z => .int z
theorem pk_inj : ∀ {p q : List Nat}, pk p = pk q → p = q
  | [], [], _ => rfl
  | [], _ :: _, e => by cases e
  | _ :: _, [], e => by cases e
  | x :: p, y :: q, e => by
    obtain ⟨e1, e2⟩ := List.cons.inj e
    have e3 : ((x : Nat) : Int) = ((y : Nat) : Int) := Sum.inl.inj e1
    rw [pk_inj e2, Int.ofNat.inj e3]
theorem keysT_put {kvs : List (List Key × V)} {k : List Key} {v : V} : (putK kvs k v).map (·.1) = if (valV kvs k).isSome = true then kvs.map (·.1) else kvs.map (·.1) ++ [k] := by
  unfold putK
  rw [valV_any]
  by_cases h : (valV kvs k).isSome = true
  · rw [if_pos h, if_pos h, List.map_map]
    refine List.map_congr_left fun p _ => ?_
    show (if p.1 = k then (p.1, v) else p).1 = p.1
    split <;> rfl
  · rw [if_neg h, if_neg h, List.map_append]
    rfl
theorem valT_none {kvs : List (List Key × V)} {k : List Key} (h : ¬ (valV kvs k).isSome = true) : k ∉ kvs.map (·.1) := fun z => by
  obtain ⟨p, hp, e⟩ := List.mem_map.mp z
  rw [← valV_any k kvs] at h
  exact h (List.any_eq_true.mpr ⟨p, hp, decide_eq_true e⟩)
structure Tk (kvs : List (List Key × V)) (l : List (List Nat × Option Int)) : Prop where
  got : ∀ p v, valV kvs (pk p) = some v → ∃ a, v = tldV a ∧ (p, a) ∈ l
  has : ∀ p a, (p, a) ∈ l → ∃ v, valV kvs (pk p) = some v
  key : ∀ k ∈ kvs.map (·.1), ∃ p, k = pk p
  nod : (kvs.map (·.1)).Nodup
theorem Tk.nil : Tk [] [] := ⟨fun p v h => (by cases h), fun p a h => (by cases h), fun k h => (by cases h), List.nodup_nil⟩
theorem Tk.put {kvs : List (List Key × V)} {l : List (List Nat × Option Int)} {p : List Nat} {a : Option Int} (h : Tk kvs l) : Tk (putK kvs (pk p) (tldV a)) (l ++ [(p, a)]) := by
  refine ⟨fun q v e => ?_, fun q b m => ?_, fun k hk => ?_, ?_⟩
  · rw [valV_put] at e
    by_cases z : pk q = pk p
    · rw [if_pos z] at e
      rw [pk_inj z]
      exact ⟨a, (Option.some.inj e).symm, List.mem_append_right _ List.mem_cons_self⟩
    · rw [if_neg z] at e
      obtain ⟨b, e1, m⟩ := h.got q v e
      exact ⟨b, e1, List.mem_append_left _ m⟩
  · rw [valV_put]
    by_cases z : pk q = pk p
    · rw [if_pos z]
      exact ⟨_, rfl⟩
    · rw [if_neg z]
      rcases List.mem_append.mp m with m | m
      · exact h.has q b m
      · cases List.mem_singleton.mp m
        exact absurd rfl z
  · rw [keysT_put] at hk
    split at hk
    · exact h.key k hk
    · rcases List.mem_append.mp hk with m | m
      · exact h.key k m
      · exact ⟨p, List.mem_singleton.mp m⟩
  · rw [keysT_put]
    split
    · exact h.nod
    · rename_i n
      refine List.nodup_append.mpr ⟨h.nod, (List.nodup_cons.mpr ⟨(fun z => by cases z), List.nodup_nil⟩), fun x hx y hy e => ?_⟩
      rw [List.mem_singleton.mp hy] at e
      rw [e] at hx
      exact valT_none n hx
/-- the same places in another sequence, or told twice -/
theorem Tk.same {kvs : List (List Key × V)} {l m : List (List Nat × Option Int)} (h : Tk kvs l) (e : ∀ q, q ∈ l ↔ q ∈ m) : Tk kvs m :=
  ⟨fun p v x => (h.got p v x).elim fun a z => ⟨a, z.1, (e _).mp z.2⟩, fun p a x => h.has p a ((e _).mpr x), h.key, h.nod⟩
end CP

end
section
set_option autoImplicit false
set_option Elab.async false
set_option linter.all false
set_option maxRecDepth 100000
set_option maxHeartbeats 4000000
/-! ## the gates of a way stand at places of it, in their sequence, one at a place -/
namespace M
theorem road_sub {se : Bool} {h size : Nat} {ts : Bool} {lw : LW} {cs : List Nat} : ((roadG se h size ts lw cs).map (·.place)).Sublist [[]] := by
  unfold roadG
  split
  · exact List.nil_sublist _
  · exact List.Sublist.refl _
theorem most_sub {m : Nat} {cs : List Nat} : ((mostG m cs).map (·.place)).Sublist [[]] := by
  unfold mostG
  split
  · exact List.nil_sublist _
  · exact List.Sublist.refl _
theorem tun_sub {h ih : Nat} {t : TW} {cs : List Nat} : ∀ l : List Gate, ((tunG h ih t cs l).map (·.place)).Sublist (l.map (·.place))
  | [] => List.Sublist.refl _
  | g :: l => by
    have e : tunG h ih t cs (g :: l) = tunG1 h ih t cs g ++ tunG h ih t cs l := by
      unfold tunG
      rw [List.flatMap_cons]
    rw [e, List.map_append, List.map_cons]
    have q : ((tunG1 h ih t cs g).map (·.place)).Sublist [g.place] := by
      unfold tunG1
      split
      · exact List.Sublist.refl _
      · exact List.nil_sublist _
    exact q.append (tun_sub l)
mutual
theorem Way.gates_sub (se : Bool) : ∀ w : Way, ((Way.gates se w).map (·.place)).Sublist (Way.places w)
  | .mk h s => by
    unfold Way.gates Way.places
    exact Step.gatesAll_sub se h s 0 []
theorem Step.gatesAll_sub (se : Bool) (h : Nat) : ∀ (s : List Step) (i : Nat) (cs : List Nat), ((Step.gatesAll se h s i cs).map (·.place)).Sublist (Step.placesAll s i)
  | [], i, cs => by
    unfold Step.gatesAll Step.placesAll
    exact List.Sublist.refl _
  | s :: r, i, cs => by
    rw [gatesAll_cons, placesAll_cons, List.map_append]
    refine List.Sublist.append ?_ (Step.gatesAll_sub se h r (i + 1) _)
    have q := (Step.gates_sub se h s cs).map (fun p => i :: p)
    rw [List.map_append] at q
    rw [List.map_map]
    rw [List.map_map] at q
    exact q
theorem Step.gates_sub (se : Bool) (h : Nat) : ∀ (s : Step) (cs : List Nat), ((Step.gates se h s cs).map (·.place)).Sublist (Step.places s ++ [[]])
  | .road size ts lw, cs => by
    unfold Step.gates Step.places
    exact road_sub
  | .join most, cs => by
    unfold Step.gates Step.places
    exact most_sub
  | .tunnel w most t, cs => by
    unfold Step.gates Step.places
    refine (tun_sub _).trans ?_
    rw [List.map_append]
    exact (Way.gates_sub se w).append most_sub
end
theorem placesAll_from : ∀ (s : List Step) (i : Nat) (p : List Nat), p ∈ Step.placesAll s i → ∃ j r, p = j :: r ∧ i ≤ j
  | [], i, p, h => by
    unfold Step.placesAll at h
    cases h
  | s :: r, i, p, h => by
    rw [placesAll_cons, List.append_assoc, List.mem_append, List.mem_append] at h
    rcases h with h | h | h
    · obtain ⟨q, _, e⟩ := List.mem_map.mp h
      exact ⟨i, q, e.symm, Nat.le_refl _⟩
    · exact ⟨i, [], List.mem_singleton.mp h, Nat.le_refl _⟩
    · obtain ⟨j, q, e, hj⟩ := placesAll_from r (i + 1) p h
      exact ⟨j, q, e, by omega⟩
theorem cons_nodup {i : Nat} {l : List (List Nat)} (h : l.Nodup) (n : [] ∉ l) : (l.map (i :: ·) ++ [[i]]).Nodup := by
  refine List.nodup_append.mpr ⟨?_, (List.nodup_cons.mpr ⟨(fun z => by cases z), List.nodup_nil⟩), fun x hx y hy e => ?_⟩
  · exact List.pairwise_map.mpr (h.imp fun {a b} w z => w (List.cons.inj z).2)
  · rw [List.mem_singleton.mp hy] at e
    obtain ⟨q, hq, e2⟩ := List.mem_map.mp hx
    rw [e] at e2
    rw [(List.cons.inj e2).2] at hq
    exact n hq
mutual
theorem Way.places_nodup : ∀ w : Way, (Way.places w).Nodup ∧ [] ∉ Way.places w
  | .mk h s => by
    unfold Way.places
    refine ⟨Step.placesAll_nodup s 0, fun z => ?_⟩
    obtain ⟨j, r, e, _⟩ := placesAll_from s 0 _ z
    cases e
theorem Step.placesAll_nodup : ∀ (s : List Step) (i : Nat), (Step.placesAll s i).Nodup
  | [], i => by
    unfold Step.placesAll
    exact List.nodup_nil
  | s :: r, i => by
    rw [placesAll_cons]
    obtain ⟨h1, h2⟩ := Step.places_nodup s
    refine List.nodup_append.mpr ⟨cons_nodup h1 h2, Step.placesAll_nodup r (i + 1), fun x hx y hy e => ?_⟩
    obtain ⟨j, q, e2, hj⟩ := placesAll_from r (i + 1) y hy
    rcases List.mem_append.mp hx with m | m
    · obtain ⟨z, _, e3⟩ := List.mem_map.mp m
      rw [e, e2] at e3
      have := (List.cons.inj e3).1
      omega
    · rw [List.mem_singleton.mp m, e2] at e
      have := (List.cons.inj e).1
      omega
theorem Step.places_nodup : ∀ s : Step, (Step.places s).Nodup ∧ [] ∉ Step.places s
  | .road .. => by
    unfold Step.places
    exact ⟨List.nodup_nil, fun z => by cases z⟩
  | .join _ => by
    unfold Step.places
    exact ⟨List.nodup_nil, fun z => by cases z⟩
  | .tunnel w _ _ => by
    unfold Step.places
    exact Way.places_nodup w
end
/-- one gate at a place -/
theorem gate_one {se : Bool} {w : Way} {g k : Gate} (hg : g ∈ Way.gates se w) (hk : k ∈ Way.gates se w) (e : g.place = k.place) : g = k := by
  have nd := (Way.gates_sub se w).nodup (Way.places_nodup w).1
  generalize Way.gates se w = l at *
  induction l with
  | nil => cases hg
  | cons x l ih =>
    rw [List.map_cons, List.nodup_cons] at nd
    rcases List.mem_cons.mp hg with rfl | a <;> rcases List.mem_cons.mp hk with rfl | b
    · rfl
    · exact absurd (List.mem_map.mpr ⟨k, b, e.symm⟩) nd.1
    · exact absurd (List.mem_map.mpr ⟨g, a, e⟩) nd.1
    · exact ih a b nd.2
end M

end
section
set_option autoImplicit false
set_option Elab.async false
set_option linter.all false
set_option maxRecDepth 100000
set_option maxHeartbeats 4000000
/-! ## a stop read out of the dict -/
namespace CP
open PySem L2 G Y
theorem Tk.at_gate {kvs : List (List Key × V)} {se : Bool} {w : M.Way} {b : Nat} (hf : w.fine) (h : Tk kvs (M.Way.ghost se w b)) {g : M.Gate} (hg : g ∈ M.Way.gates se w) : valV kvs (pk g.place) = if g.thr < (b : Int) then some (tldV g.ans) else none := by
  by_cases z : g.thr < (b : Int)
  · rw [if_pos z]
    obtain ⟨v, e⟩ := h.has g.place g.ans ((M.Way.ghost_gates se w hf b _).mpr ⟨g, hg, rfl, rfl, z⟩)
    obtain ⟨a, e2, m⟩ := h.got _ _ e
    obtain ⟨k, hk, e3, e4, _⟩ := (M.Way.ghost_gates se w hf b _).mp m
    have : k = g := M.gate_one hk hg e3
    subst this
    rw [e, e2]
    rw [show k.ans = a from e4]
  · rw [if_neg z]
    rcases e : valV kvs (pk g.place) with _ | v
    · rfl
    · obtain ⟨a, _, m⟩ := h.got _ _ e
      obtain ⟨k, hk, e3, _, e5⟩ := (M.Way.ghost_gates se w hf b _).mp m
      have : k = g := M.gate_one hk hg e3
      subst this
      exact absurd e5 z
theorem Tk.no_gate {kvs : List (List Key × V)} {se : Bool} {w : M.Way} {b : Nat} (hf : w.fine) (h : Tk kvs (M.Way.ghost se w b)) {p : List Nat} (n : ∀ g ∈ M.Way.gates se w, g.place ≠ p) : valV kvs (pk p) = none := by
  rcases e : valV kvs (pk p) with _ | v
  · rfl
  · obtain ⟨a, _, m⟩ := h.got _ _ e
    obtain ⟨k, hk, e3, _, _⟩ := (M.Way.ghost_gates se w hf b _).mp m
    exact absurd e3 (n k hk)
end CP

end
section
set_option autoImplicit false
set_option Elab.async false
set_option linter.all false
set_option maxRecDepth 100000
set_option maxHeartbeats 4000000
/-! ## what the ghost's walk wants of mathematics -/
namespace N
theorem pt_one (c : Nat) (ss : List Nat) : pt [c] ss = ss.flatMap (cu c) := rfl
theorem pt_zero : ∀ cs : List Nat, pt cs [0] = [0]
  | [] => rfl
  | c :: r => by
    rw [pt_le r (Nat.zero_le c)]
    exact pt_zero r
theorem pt_PC {cs : List Nat} (f : Fall cs) (b : Nat) : (pt cs [b]).length = PC cs b := by
  unfold PC
  by_cases h : b = 0
  · rw [if_pos h, h, pt_zero]
    rfl
  · rw [if_neg h]
    exact (pt_L cs f b (by omega)).1
theorem pt_ne {cs : List Nat} (f : Fall cs) (b : Nat) : pt cs [b] ≠ [] := fun z => by
  have := pt_len (l := cs) f.pos [b]
  rw [z] at this
  simp at this
end N
namespace M
theorem ghost_one {se : Bool} {w : Way} (hf : w.fine) {b : Nat} {p : List Nat} {a c : Option Int} (h1 : (p, a) ∈ Way.ghost se w b) (h2 : (p, c) ∈ Way.ghost se w b) : a = c := by
  obtain ⟨g, hg, e1, e2, _⟩ := (Way.ghost_gates se w hf b _).mp h1
  obtain ⟨k, hk, e3, e4, _⟩ := (Way.ghost_gates se w hf b _).mp h2
  have := gate_one hg hk (e1.trans e3.symm)
  subst this
  exact e2.symm.trans e4
theorem ghost_places {se : Bool} {w : Way} (hf : w.fine) {b : Nat} {q : List Nat × Option Int} (h : q ∈ Way.ghost se w b) : q.1 ∈ Way.places w := by
  obtain ⟨g, hg, e1, _, _⟩ := (Way.ghost_gates se w hf b _).mp h
  rw [← e1]
  exact (Way.gates_sub se w).subset (List.mem_map.mpr ⟨g, hg, rfl⟩)
theorem placesAll_get : ∀ {s : List Step} {i j : Nat} {x : Step}, s[i]? = some x → (∀ p ∈ Step.places x, (i + j) :: p ∈ Step.placesAll s j) ∧ [i + j] ∈ Step.placesAll s j
  | [], i, j, x, h => by cases h
  | y :: r, 0, j, x, h => by
    have e : y = x := Option.some.inj h
    subst e
    rw [placesAll_cons, Nat.zero_add]
    exact ⟨fun p hp => List.mem_append_left _ (List.mem_append_left _ (List.mem_map.mpr ⟨p, hp, rfl⟩)), List.mem_append_left _ (List.mem_append_right _ List.mem_cons_self)⟩
  | y :: r, i + 1, j, x, h => by
    obtain ⟨h1, h2⟩ := placesAll_get (s := r) (i := i) (j := j + 1) (x := x) h
    rw [placesAll_cons, show i + 1 + j = i + (j + 1) by omega]
    exact ⟨fun p hp => List.mem_append_right _ (h1 p hp), List.mem_append_right _ h2⟩
theorem ck_E {se : Bool} {w : Way} (hf : w.fine) : Ck (chE se w.head w.steps []) := by
  obtain ⟨wh, ws⟩ := w
  unfold Way.fine at hf
  exact ck_all ck_nil hf.2.2.1
theorem pt_cut {se : Bool} {h size b : Nat} {ts : Bool} {lw : LW} {cs : List Nat} (c : Ck cs) (f : Step.fine h (.road size ts lw)) (e : se = false ∧ lw = .cut) : N.pt (nxC se h cs (.road size ts lw)) [b] = (N.pt cs [b]).flatMap (N.cu (size - h)) := by
  unfold Step.fine at f
  unfold nxC
  dsimp only
  rw [if_pos e]
  have f1 : N.Fall [size - h] := ⟨by omega, (fun d hd => by cases hd), trivial⟩
  have l1 : ∀ c ∈ [size - h], c ≤ 1000 := fun c hc => by
    rw [List.mem_singleton.mp hc]
    omega
  rw [N.pt_add c.fall f1 l1, N.pt_one]
theorem pt_still {se : Bool} {h size b : Nat} {ts : Bool} {lw : LW} {cs : List Nat} (c : Ck cs) (f : Step.fine h (.road size ts lw)) (n : ∀ x ∈ N.pt cs [b], x ≤ size - h) : N.pt (nxC se h cs (.road size ts lw)) [b] = N.pt cs [b] := by
  by_cases e : se = false ∧ lw = .cut
  · rw [pt_cut c f e, N.flat_id n]
  · unfold nxC
    dsimp only
    rw [if_neg e]
/-- what a tunnel's stops are for pieces with given stretches -/
def stopsIn (se : Bool) (h i : Nat) (w : Way) (most : Nat) (t : TW) (x : Nat) : List (List Nat × Option Int) :=
  (Way.ghost se w (h + x)).map (fun q => (i :: q.1, turnG q.2 w.head t)) ++ (if most < N.PC (chE se w.head w.steps []) (h + x) then [([i], none)] else [])
theorem ghost_tun (se : Bool) (h i : Nat) (w : Way) (most : Nat) (t : TW) (cs : List Nat) (b : Nat) : (Step.ghost se h (.tunnel w most t) cs b).map (fun q => (i :: q.1, q.2)) = (N.pt cs [b]).flatMap (stopsIn se h i w most t) := by
  unfold Step.ghost
  rw [List.map_flatMap]
  congr 1
  funext x
  unfold stopsIn
  rw [List.map_append, List.map_map]
  congr 1
  split <;> rfl
end M
namespace CP
open PySem L2 G Y
theorem pk_ni : ∀ p : List Nat, (pk p).map kV = ni p
  | [] => rfl
  | x :: p => by
    show V.int ((x : Nat) : Int) :: (pk p).map kV = V.int ((x : Nat) : Int) :: ni p
    rw [pk_ni p]
theorem tldV_inj : ∀ {a b : Option Int}, tldV a = tldV b → a = b
  | none, none, _ => rfl
  | none, some _, e => by cases e
  | some _, none, e => by cases e
  | some x, some y, e => by
    rw [V.int.inj e]
theorem mem_of_val {β : Type} [DecidableEq β] {kvs : List (β × V)} {k : β} {v : V} (h : valV kvs k = some v) : (k, v) ∈ kvs := by
  induction kvs with
  | nil => cases h
  | cons p r ih =>
    by_cases e : p.1 = k
    · rw [valV_pos e] at h
      cases h
      rw [← e]
      exact List.mem_cons_self
    · rw [valV_neg e] at h
      exact List.mem_cons_of_mem _ (ih h)
theorem val_of_mem {β : Type} [DecidableEq β] {kvs : List (β × V)} (nd : (kvs.map (·.1)).Nodup) {k : β} {v : V} (h : (k, v) ∈ kvs) : valV kvs k = some v := by
  induction kvs with
  | nil => cases h
  | cons p r ih =>
    rw [List.map_cons, List.nodup_cons] at nd
    rcases List.mem_cons.mp h with e | h2
    · subst e
      exact valV_pos rfl
    · have ne : ¬ p.1 = k := fun z => nd.1 (List.mem_map.mpr ⟨_, h2, z.symm⟩)
      rw [valV_neg ne]
      exact ih nd.2 h2
/-- as many stops as places at most -/
theorem Tk.len {kvs : List (List Key × V)} {l : List (List Nat × Option Int)} (h : Tk kvs l) {ps : List (List Nat)} (q : ∀ x ∈ l, x.1 ∈ ps) : kvs.length ≤ ps.length := by
  have := h.nod.length_le_of_subset (l₂ := ps.map pk) (fun k hk => ?_)
  · rw [List.length_map, List.length_map] at this
    exact this
  · obtain ⟨p, rfl⟩ := h.key k hk
    obtain ⟨⟨k2, v⟩, hm, e⟩ := List.mem_map.mp hk
    have e : k2 = pk p := e
    subst e
    obtain ⟨a, _, m⟩ := h.got p v (val_of_mem h.nod hm)
    exact List.mem_map.mpr ⟨p, q _ m, rfl⟩
/-- all tuples stay -/
def KeepU (H H' : Hp) : Prop := ∀ a xs, H a = some (.tup xs) → H' a = some (.tup xs)
theorem KeepU.same {H H' : Hp} (s : Same H H') : KeepU H H' := fun a xs e => s a _ e
theorem KeepU.trans {H H1 H2 : Hp} (a : KeepU H H1) (b : KeepU H1 H2) : KeepU H H2 := fun x xs e => b x xs (a x xs e)
mutual
theorem PlanAt.keepU {H H' : Hp} (s : KeepU H H') : ∀ {w : M.Way} {v : V}, PlanAt H w v → PlanAt H' w v
  | .mk h st, v, x => by
    unfold PlanAt at x ⊢
    obtain ⟨t, L, xs, e, h1, h2, h3⟩ := x
    exact ⟨t, L, xs, e, s _ _ h1, s _ _ h2, PlAll.keepU s h3⟩
theorem PlAll.keepU {H H' : Hp} (s : KeepU H H') : ∀ {st : List M.Step} {xs : List V}, PlAll H st xs → PlAll H' st xs
  | [], xs, x => by
    unfold PlAll at x ⊢
    exact x
  | y :: r, xs, x => by
    unfold PlAll at x ⊢
    obtain ⟨u, ys, e, h1, h2⟩ := x
    exact ⟨u, ys, e, PlStep.keepU s h1, PlAll.keepU s h2⟩
theorem PlStep.keepU {H H' : Hp} (s : KeepU H H') : ∀ {st : M.Step} {x : V}, PlStep H st x → PlStep H' st x
  | .road size ts lw, v, x => by
    unfold PlStep at x ⊢
    obtain ⟨t, e, h⟩ := x
    exact ⟨t, e, s _ _ h⟩
  | .join most, v, x => by
    unfold PlStep at x ⊢
    obtain ⟨t, e, h⟩ := x
    exact ⟨t, e, s _ _ h⟩
  | .tunnel w most tw, v, x => by
    unfold PlStep at x ⊢
    obtain ⟨t, u, e, h, h2⟩ := x
    exact ⟨t, u, e, s _ _ h, PlanAt.keepU s h2⟩
end
end CP

end
section
set_option autoImplicit false
set_option Elab.async false
set_option linter.all false
set_option maxRecDepth 100000
set_option maxHeartbeats 4000000
/-! ## a letter ends at the first gate that it doesn't pass (mathematics) -/
namespace N
theorem cu_parts {c : Nat} (hc : 0 < c) (x : Nat) (hx : 0 < x) : cu c x = M.parts c x :=
  M.parts_ind (P := fun x => cu c x = M.parts c x) hc (fun x h1 h2 => by rw [cu_le h2, M.parts_small h1 h2]) (fun x h1 ih => by rw [cu_lt hc h1, M.parts_more hc h1, ih]) x hx
theorem flat_cut {c : Nat} (hc : 0 < c) : ∀ {l : List Nat}, (∀ x ∈ l, 0 < x) → l.flatMap (cu c) = M.cutAll c l
  | [], _ => rfl
  | x :: l, h => by
    have a := flat_cut hc (l := l) fun y hy => h y (List.mem_cons_of_mem _ hy)
    unfold M.cutAll at a ⊢
    rw [List.flatMap_cons, List.flatMap_cons, a, cu_parts hc x (h x List.mem_cons_self)]
theorem pt_good {b : Nat} : ∀ {cs ss : List Nat}, (∀ c ∈ cs, 0 < c) → M.Good b ss → M.Good b (pt cs ss)
  | [], ss, _, g => g
  | c :: r, ss, h, g => by
    have hc := h c List.mem_cons_self
    show M.Good b (pt r (ss.flatMap (cu c)))
    refine pt_good (fun d hd => h d (List.mem_cons_of_mem _ hd)) ?_
    by_cases hb : b = 0
    · rw [g.zero hb, hb]
      show M.Good 0 ([0].flatMap (cu c))
      rw [List.flatMap_singleton, cu_le (Nat.zero_le c)]
      exact M.good_one 0
    · rw [flat_cut hc (g.pos (by omega))]
      exact M.good_cut hc (by omega) g
end N
namespace M
def firstG (l : List Gate) (b : Nat) : Option Gate := l.find? fun g => decide (g.thr < (b : Int))
def endA : Option Int → List Nat → Fate
  | some z, p => .told z p
  | none, p => .silent p
def endG : Option Gate → List Nat → Fate
  | none, l => .comes l
  | some g, _ => endA g.ans g.place
theorem firstG_app (l m : List Gate) (b : Nat) : firstG (l ++ m) b = (firstG l b).or (firstG m b) := by
  unfold firstG
  exact List.find?_append
theorem firstG_at (i : Nat) (b : Nat) : ∀ l : List Gate, firstG (l.map (at_ i)) b = (firstG l b).map (at_ i)
  | [] => rfl
  | g :: l => by
    have ih := firstG_at i b l
    unfold firstG at ih ⊢
    rw [List.map_cons, List.find?_cons, List.find?_cons]
    show (match decide (g.thr < (b : Int)) with | true => _ | false => _) = _
    cases decide (g.thr < (b : Int)) with
    | true => rfl
    | false => exact ih
theorem endG_at (i : Nat) (g : Gate) (l m : List Nat) : endG (some (at_ i g)) l = seen i (endG (some g) m) := by
  show endA g.ans (i :: g.place) = seen i (endA g.ans g.place)
  generalize g.ans = a
  cases a <;> rfl
theorem endG_some (g : Gate) (l m : List Nat) : endG (some g) l = endG (some g) m := rfl
theorem first_some {l : List Gate} {b : Nat} {g : Gate} (h : firstG l b = some g) : g ∈ l ∧ g.thr < (b : Int) := by
  unfold firstG at h
  exact ⟨List.mem_of_find?_eq_some h, of_decide_eq_true (List.find?_some (p := fun g : Gate => decide (g.thr < (b : Int))) h)⟩
theorem first_none {l : List Gate} {b : Nat} (h : ∀ g ∈ l, ¬ g.thr < (b : Int)) : firstG l b = none := List.find?_eq_none.mpr fun g hg z => h g hg (of_decide_eq_true z)
theorem none_first {l : List Gate} {b : Nat} (h : firstG l b = none) : ∀ g ∈ l, ¬ g.thr < (b : Int) := fun g hg z => List.find?_eq_none.mp h g hg (decide_eq_true z)
def turnGate (h ih : Nat) (t : TW) (g : Gate) : Gate := ⟨g.place, max (g.thr - (h : Int)) (-1), turnG g.ans ih t⟩
theorem tun_first {h ih : Nat} {t : TW} {cs : List Nat} {b x0 : Nat} (hx : ∀ z : Int, (leaves cs z = true ∧ z < (b : Int)) ↔ z < (x0 : Int)) : ∀ l : List Gate, firstG (tunG h ih t cs l) b = (firstG l (h + x0)).map (turnGate h ih t)
  | [] => rfl
  | g :: l => by
    have ih2 := tun_first (h := h) (ih := ih) (t := t) hx l
    have e : tunG h ih t cs (g :: l) = tunG1 h ih t cs g ++ tunG h ih t cs l := by
      unfold tunG
      rw [List.flatMap_cons]
    rw [e, firstG_app, ih2]
    have q := hx (g.thr - (h : Int))
    unfold tunG1
    by_cases hl : leaves cs (g.thr - (h : Int)) = true
    · rw [if_pos hl]
      by_cases hb : g.thr - (h : Int) < (b : Int)
      · have hz := q.mp ⟨hl, hb⟩
        have e1 : firstG [turnGate h ih t g] b = some (turnGate h ih t g) := by
          unfold firstG
          rw [List.find?_cons, decide_eq_true (show (turnGate h ih t g).thr < (b : Int) by unfold turnGate; show max _ _ < _; omega)]
        have e2 : firstG (g :: l) (h + x0) = some g := by
          unfold firstG
          rw [List.find?_cons, decide_eq_true (show g.thr < ((h + x0 : Nat) : Int) by omega)]
        rw [e2]
        show (firstG [turnGate h ih t g] b).or _ = _
        rw [e1]
        rfl
      · have hz : ¬ g.thr - (h : Int) < (x0 : Int) := fun z => hb (q.mpr z).2
        have e1 : firstG [turnGate h ih t g] b = none := first_none fun k hk z => by
          rw [List.mem_singleton.mp hk] at z
          unfold turnGate at z
          have z : max (g.thr - (h : Int)) (-1) < (b : Int) := z
          omega
        have e2 : firstG (g :: l) (h + x0) = firstG l (h + x0) := by
          unfold firstG
          rw [List.find?_cons, decide_eq_false (show ¬ g.thr < ((h + x0 : Nat) : Int) by omega)]
        rw [e2]
        show (firstG [turnGate h ih t g] b).or _ = _
        rw [e1]
        rfl
    · rw [if_neg hl]
      have hz : ¬ g.thr - (h : Int) < (x0 : Int) := fun z => hl (q.mpr z).1
      have e2 : firstG (g :: l) (h + x0) = firstG l (h + x0) := by
        unfold firstG
        rw [List.find?_cons, decide_eq_false (show ¬ g.thr < ((h + x0 : Nat) : Int) by omega)]
      rw [e2]
      rfl
theorem turned_end (h ih : Nat) (t : TW) (g : Gate) (l m : List Nat) : turned ih t (endG (some g) l) = endG (some (turnGate h ih t g)) m := by
  show turned ih t (endA g.ans g.place) = endA (turnG g.ans ih t) g.place
  generalize g.ans = a
  cases a with
  | none => rfl
  | some z =>
    show (if t = .turn then Fate.told (z - (ih : Int)) g.place else .silent g.place) = endA (if t = .turn then some (z - (ih : Int)) else none) g.place
    by_cases e : t = .turn
    · rw [if_pos e, if_pos e]
      rfl
    · rw [if_neg e, if_neg e]
      rfl
theorem most_first {cs : List Nat} (c : Ck cs) {m : Nat} (hm : 1 ≤ m) (b : Nat) : firstG (mostG m cs) b = if m < N.PC cs b then some ⟨[], ((N.B cs m : Nat) : Int), none⟩ else none := by
  have := N.PC_over c.fall b hm
  unfold mostG
  by_cases h : m < N.PC cs b
  · obtain ⟨h1, h2⟩ := this.mp h
    rw [if_pos h, if_neg h1]
    unfold firstG
    rw [List.find?_cons, decide_eq_true (show ((N.B cs m : Nat) : Int) < (b : Int) by omega)]
  · rw [if_neg h]
    by_cases z : cs = []
    · rw [if_pos z]
      rfl
    · rw [if_neg z]
      refine first_none fun g hg e => ?_
      rw [List.mem_singleton.mp hg] at e
      have e : ((N.B cs m : Nat) : Int) < (b : Int) := e
      exact h (this.mpr ⟨z, by omega⟩)
theorem road_first {se : Bool} {h size : Nat} {ts : Bool} {lw : LW} {cs : List Nat} (c : Ck cs) (f : Step.fine h (.road size ts lw)) (b : Nat) : road h size ts lw se (N.pt cs [b]) = endG (firstG (roadG se h size ts lw cs) b) (N.pt (nxC se h cs (.road size ts lw)) [b]) := by
  have f0 := f
  unfold Step.fine at f
  have po := N.pt_over c.fall b ((size : Int) - (h : Int))
  have gd := N.pt_good (b := b) c.fall.pos (good_one b)
  by_cases ha : ∀ x ∈ N.pt cs [b], x ≤ size - h
  · have e1 : firstG (roadG se h size ts lw cs) b = none := first_none fun g hg z => by
      unfold roadG at hg
      split at hg
      · cases hg
      · rename_i hn
        rw [List.mem_singleton.mp hg] at z
        have z : (size : Int) - (h : Int) < (b : Int) := z
        have hl : leaves cs ((size : Int) - (h : Int)) = true := by
          cases q : leaves cs ((size : Int) - (h : Int)) with
          | true => rfl
          | false => exact absurd (.inr q) hn
        obtain ⟨x, hx, hz⟩ := po.mpr ⟨hl, z⟩
        have := ha x hx
        omega
    rw [e1, pt_still c f0 ha]
    unfold road
    rw [if_pos ha]
    rfl
  · obtain ⟨x, hx, hz⟩ : ∃ x ∈ N.pt cs [b], (size : Int) - (h : Int) < (x : Int) := by
      obtain ⟨x, hx⟩ := Classical.not_forall.mp ha
      obtain ⟨h1, h2⟩ := Classical.not_imp.mp hx
      exact ⟨x, h1, by omega⟩
    obtain ⟨hl, hb⟩ := po.mp ⟨x, hx, hz⟩
    have gate : ¬ (se = false ∧ lw = .cut) → firstG (roadG se h size ts lw cs) b = some ⟨[], (size : Int) - (h : Int), if (se = true ∧ ts = true) ∨ (se = false ∧ lw = .tell) then some (size : Int) else none⟩ := fun hn => by
      unfold roadG
      rw [if_neg (by rintro (z | z); exact hn z; rw [hl] at z; cases z)]
      unfold firstG
      rw [List.find?_cons, decide_eq_true hb]
    unfold road
    rw [if_neg ha]
    cases se with
    | true =>
      rw [gate (fun z => by cases z.1), if_pos rfl]
      cases ts with
      | true => rfl
      | false => rfl
    | false =>
      rw [if_neg (by decide)]
      cases lw with
      | cut =>
        have e1 : roadG false h size ts .cut cs = [] := by
          unfold roadG
          rw [if_pos (.inl ⟨rfl, rfl⟩)]
        have b0 : 0 < b := by omega
        rw [e1, pt_cut c f0 ⟨rfl, rfl⟩, N.flat_cut (by omega) (gd.pos b0)]
        rfl
      | tell =>
        rw [gate (fun z => by cases z.2)]
        cases ts <;> rfl
      | drop =>
        rw [gate (fun z => by cases z.2)]
        cases ts <;> rfl
theorem tunnel_first (inner : Nat → Fate) (ih most : Nat) (t : TW) (l r : List Nat) (x : Nat) : tunnel inner ih most t l (x :: r) = match inner x with
    | .comes m => if m.length > most then .silent [] else tunnel inner ih most t l r
    | f => turned ih t f := rfl
mutual
theorem Way.walk_gates (se : Bool) : ∀ (w : Way), w.fine → ∀ b : Nat, Way.walk se w b = endG (firstG (Way.gates se w) b) (N.pt (chE se w.head w.steps []) [b])
  | .mk h s, f, b => by
    unfold Way.fine at f
    unfold Way.walk Way.gates
    exact Step.from_gates se h s 0 [] f.2.2.1 ck_nil b
theorem Step.from_gates (se : Bool) (h : Nat) : ∀ (s : List Step) (i : Nat) (cs : List Nat), Step.fineAll h s → Ck cs → ∀ b : Nat, Way.from se h s i (N.pt cs [b]) = endG (firstG (Step.gatesAll se h s i cs) b) (N.pt (chE se h s cs) [b])
  | [], i, cs, f, c, b => by
    unfold Way.from Step.gatesAll
    rfl
  | s :: r, i, cs, f, c, b => by
    unfold Step.fineAll at f
    have d := Step.does_gates se h s cs f.1 c b
    rw [from_cons, d, gatesAll_cons, firstG_app, firstG_at]
    cases e : firstG (Step.gates se h s cs) b with
    | none =>
      show (match endG none (N.pt (nxC se h cs s) [b]) with | .comes m => Way.from se h r (i + 1) m | f => seen i f) = _
      exact Step.from_gates se h r (i + 1) _ f.2 (ck_nx c f.1) b
    | some g =>
      show _ = endG (some (at_ i g)) _
      rw [endG_at i g _ (N.pt (nxC se h cs s) [b])]
      show (match endA g.ans g.place with | .comes m => Way.from se h r (i + 1) m | f => seen i f) = seen i (endA g.ans g.place)
      generalize g.ans = a
      cases a <;> rfl
theorem Step.does_gates (se : Bool) (h : Nat) : ∀ (s : Step) (cs : List Nat), Step.fine h s → Ck cs → ∀ b : Nat, Step.does se h s (N.pt cs [b]) = endG (firstG (Step.gates se h s cs) b) (N.pt (nxC se h cs s) [b])
  | .road size ts lw, cs, f, c, b => by
    unfold Step.does Step.gates
    exact road_first c f b
  | .join most, cs, f, c, b => by
    unfold Step.fine at f
    unfold Step.does Step.gates
    rw [most_first c f.1]
    unfold join
    rw [N.pt_PC c.fall, N.pt_sum c.fall.pos]
    by_cases z : most < N.PC cs b
    · rw [if_pos z, if_pos z]
      rfl
    · rw [if_neg z, if_neg z]
      show Fate.comes [[b].sum] = .comes (N.pt [] [b])
      simp [N.pt]
  | .tunnel w most t, cs, f, c, b => by
    unfold Step.fine at f
    have ckE : Ck (chE se w.head w.steps []) := ck_E f.1
    have gd := N.pt_good (b := b) c.fall.pos (good_one b)
    have iw := Way.walk_gates se w f.1
    unfold Step.does Step.gates
    obtain ⟨x0, r, el⟩ : ∃ x0 r, N.pt cs [b] = x0 :: r := List.exists_cons_of_ne_nil gd.ne
    have hmax : ∀ x ∈ N.pt cs [b], x ≤ x0 := fun x hx => by
      have := gd.first x hx
      rw [el] at this
      exact this
    have hx : ∀ z : Int, (leaves cs z = true ∧ z < (b : Int)) ↔ z < (x0 : Int) := fun z => by
      rw [← N.pt_over c.fall b z]
      constructor
      · rintro ⟨x, hx, hz⟩
        have := hmax x hx
        omega
      · intro hz
        exact ⟨x0, by rw [el]; exact List.mem_cons_self, hz⟩
    rw [tun_first hx, firstG_app, most_first ckE f.2.1]
    have en : nxC se h cs (.tunnel w most t) = cs := rfl
    rw [en]
    cases e : firstG (Way.gates se w) (h + x0) with
    | some g =>
      rw [el, tunnel_first]
      show (match Way.walk se w (h + x0) with | .comes m => if m.length > most then Fate.silent [] else tunnel (fun x => Way.walk se w (h + x)) w.head most t (x0 :: r) r | f => turned w.head t f) = _
      rw [iw (h + x0), e]
      show _ = endG (some (turnGate h w.head t g)) _
      rw [← turned_end h w.head t g (N.pt (chE se w.head w.steps []) [h + x0])]
      show (match endA g.ans g.place with | .comes m => if m.length > most then Fate.silent [] else tunnel (fun x => Way.walk se w (h + x)) w.head most t (x0 :: r) r | f => turned w.head t f) = turned w.head t (endA g.ans g.place)
      generalize g.ans = a
      cases a <;> rfl
    | none =>
      by_cases z : most < N.PC (chE se w.head w.steps []) (h + x0)
      · rw [if_pos z, el, tunnel_first]
        show (match Way.walk se w (h + x0) with | .comes m => if m.length > most then Fate.silent [] else tunnel (fun x => Way.walk se w (h + x)) w.head most t (x0 :: r) r | f => turned w.head t f) = _
        rw [iw (h + x0), e]
        show (if (N.pt (chE se w.head w.steps []) [h + x0]).length > most then Fate.silent [] else _) = _
        rw [N.pt_PC ckE.fall, if_pos z]
        rfl
      · rw [if_neg z]
        show _ = Fate.comes (N.pt cs [b])
        refine tunnel_pass fun x hx => ?_
        have hle := hmax x hx
        have e1 : firstG (Way.gates se w) (h + x) = none := first_none fun g hg q => none_first e g hg (by omega)
        refine ⟨N.pt (chE se w.head w.steps []) [h + x], by rw [iw, e1]; rfl, ?_⟩
        rw [N.pt_PC ckE.fall]
        have z2 : ¬ most < N.PC (chE se w.head w.steps []) (h + x) := fun q => by
          have q2 := (N.PC_over ckE.fall (h + x) f.2.1).mp q
          exact z ((N.PC_over ckE.fall (h + x0) f.2.1).mpr ⟨q2.1, by omega⟩)
        omega
end
end M

end
section
set_option autoImplicit false
set_option Elab.async false
set_option linter.all false
set_option maxRecDepth 100000
set_option maxHeartbeats 4000000
/-! ## the first gate, by places and by lows (mathematics) -/
namespace M
theorem first_cons (g : Gate) (l : List Gate) (b : Nat) : firstG (g :: l) b = (firstG [g] b).or (firstG l b) := by
  rw [← firstG_app]
  rfl
theorem low_first (acc : List Gate) (g : Gate) (b : Nat) : firstG (lowStep acc g) b = (firstG acc b).or (firstG [g] b) := by
  unfold lowStep
  by_cases h : acc = [] ∨ g.thr < lastT acc
  · rw [if_pos h, firstG_app]
  · rw [if_neg h]
    obtain ⟨h1, h2⟩ := not_or.mp h
    cases e : firstG acc b with
    | some k => rfl
    | none =>
      have e2 : firstG [g] b = none := first_none fun k hk z => by
        rw [List.mem_singleton.mp hk] at z
        rcases List.eq_nil_or_concat acc with q | ⟨r, y, q⟩
        · exact h1 q
        · rw [List.concat_eq_append] at q
          subst q
          have eL : lastT (r ++ [y]) = y.thr := by
            unfold lastT
            rw [List.getLast?_append]
            rfl
          have := none_first e y (List.mem_append_right _ List.mem_cons_self)
          omega
      rw [e2]
      rfl
theorem lows_first (b : Nat) : ∀ (l acc : List Gate), firstG (l.foldl lowStep acc) b = (firstG acc b).or (firstG l b)
  | [], acc => by
    show firstG acc b = (firstG acc b).or none
    cases firstG acc b <;> rfl
  | g :: l, acc => by
    rw [List.foldl_cons, lows_first b l, low_first, first_cons g l, Option.or_assoc]
theorem Way.lows_first (se : Bool) (w : Way) (b : Nat) : firstG (Way.lows se w) b = firstG (Way.gates se w) b := by
  unfold Way.lows lowsOf
  rw [M.lows_first]
  rfl
theorem first_place {b : Nat} {g : Gate} (hb : g.thr < (b : Int)) : ∀ {ps : List (List Nat)} {l : List Gate} {j : Nat}, (l.map (·.place)).Sublist ps → ps.Nodup → g ∈ l → ps[j]? = some g.place → (∀ k ∈ l, k.place ∈ ps.take j → ¬ k.thr < (b : Int)) → firstG l b = some g
  | [], l, j, h, nd, hg, hj, hn => by cases hj
  | a :: ps, l, j, h, nd, hg, hj, hn => by
    obtain ⟨n1, n2⟩ := List.nodup_cons.mp nd
    generalize hm : l.map (·.place) = m at h
    cases h with
    | cons _ h =>
      subst hm
      cases j with
      | zero =>
        have e : a = g.place := Option.some.inj hj
        exact absurd (h.subset (List.mem_map.mpr ⟨g, hg, e.symm⟩)) n1
      | succ j => exact first_place hb h n2 hg hj fun k hk hp => hn k hk (by rw [List.take_succ_cons]; exact List.mem_cons_of_mem _ hp)
    | cons_cons _ h =>
      cases l with
      | nil => cases hm
      | cons g0 l =>
        obtain ⟨e1, e2⟩ := List.cons.inj hm
        subst e2
        rw [first_cons]
        cases j with
        | zero =>
          have e : a = g.place := Option.some.inj hj
          rcases List.mem_cons.mp hg with q | q
          · subst q
            unfold firstG
            rw [List.find?_cons, decide_eq_true hb]
            rfl
          · exact absurd (h.subset (List.mem_map.mpr ⟨g, q, e.symm⟩)) n1
        | succ j =>
          have h0 : ¬ g0.thr < (b : Int) := hn g0 List.mem_cons_self (by rw [List.take_succ_cons, ← e1]; exact List.mem_cons_self)
          have e0 : firstG [g0] b = none := first_none fun k hk z => h0 (by rw [List.mem_singleton.mp hk] at z; exact z)
          have hj : ps[j]? = some g.place := hj
          have hg2 : g ∈ l := by
            rcases List.mem_cons.mp hg with q | q
            · have := List.mem_of_getElem? hj
              have e1 : g0.place = a := e1
              rw [q, e1] at this
              exact absurd this n1
            · exact q
          rw [e0]
          exact first_place hb h n2 hg2 hj fun k hk hp => hn k (List.mem_cons_of_mem _ hk) (by rw [List.take_succ_cons]; exact List.mem_cons_of_mem _ hp)
end M

end
section
set_option autoImplicit false
set_option Elab.async false
set_option linter.all false
set_option maxRecDepth 100000
set_option maxHeartbeats 4000000
/-! ## _law_ghost_inside -/
namespace CP
open PySem L2 G Y
abbrev sGhIn : Stmt := S.top 67
abbrev sGhost : Stmt := S.top 66
/-- all but one object stays -/
def SameX (p : Addr) (H H' : Hp) : Prop := ∀ a o, a ≠ p → H a = some o → H' a = some o
theorem SameX.same {p : Addr} {H H' : Hp} (s : Same H H') : SameX p H H' := fun a o _ e => s a o e
theorem SameX.trans {p : Addr} {H H1 H2 : Hp} (a : SameX p H H1) (b : SameX p H1 H2) : SameX p H H2 := fun x o n e => b x o n (a x o n e)
theorem SameX.put {p : Addr} {H : Hp} {o : HO} : SameX p H (upd H p o) := fun a u n e => by rw [upd_ne n]; exact e
section
variable {P : Program} {w : World} {K : PySem.W.Frag} {mg : Str → Option Value} {base : Heap} {C CW : Addr}
def spGhost (n : Nat) : Sp := fun vs H Q _ => ∃ (v : V) (wy : M.Way) (b : Nat) (se : Bool), vs = [v, .int (b : Int), .bl se] ∧ PlanAt H wy v ∧ M.Way.fine wy ∧ wy.depth ≤ n ∧ b + 40 * n ≤ 1900000000000000000 ∧
  ∀ (t ST D : Addr) (kst : List (List Key × V)) (kvs : List (Key × V)) H', Same H H' → H ST = none → H D = none → H' t = some (.tup [.ref ST, .ref D, .int (((N.pt (M.chE se wy.head wy.steps []) [b]).getLastD 0 : Nat) : Int)]) → H' ST = some (.dT kst) → Tk kst (M.Way.ghost se wy b) → H' D = some (.dK kvs) → Sz kvs (N.pt (M.chE se wy.head wy.steps []) [b]) → Q (.ref t) H'
def spGhIn (n : Nat) : Sp := fun vs H Q _ => ∃ (ts D ST : Addr) (v : V) (wi : M.Way) (most : Nat) (tw : M.TW) (i h : Nat) (se : Bool) (kvs : List (Key × V)) (L : List Nat) (kst : List (List Key × V)) (l : List (List Nat × Option Int)) (ps : List (List Nat)),
  vs = [.ref ts, .int (i : Int), .int (h : Int), .ref D, .bl se, .ref ST] ∧ H ts = some (.tup [.str "tunnel", v, .int (most : Int), .str (WP.twS tw)]) ∧ PlanAt H wi v ∧ M.Way.fine wi ∧ wi.depth ≤ n ∧ h ≤ 40 ∧ (∀ x ∈ L, x + 40 * (n + 1) ≤ 1900000000000000000) ∧
  H D = some (.dK kvs) ∧ Sz kvs L ∧ H ST = some (.dT kst) ∧ Tk kst l ∧ ps.length ≤ 1000 ∧ (∀ q ∈ l, q.1 ∈ ps) ∧ (∀ p ∈ M.Way.places wi, i :: p ∈ ps) ∧ [i] ∈ ps ∧
  ∀ (kst2 : List (List Key × V)) H', SameX ST H H' → H' ST = some (.dT kst2) → Tk kst2 (l ++ L.flatMap (M.stopsIn se h i wi most tw)) → Q .non H'
abbrev NGi : List Str := ["step", "at", "head", "sizes", "kind", "stops", "size", "inner", "parts", "last", "place", "told"]
theorem scGi : FnScope NGi ["step", "at", "head", "sizes", "kind", "stops"] (defScope sGhIn) := ⟨rfl, rfl, rfl, by decide +kernel, rfl, by decide +kernel, by decide +kernel⟩
theorem ok_ghin {k n : Nat} {f : Addr} {fd : FuncData} (F : Fun K "_law_ghost_inside" "_law_ghost_inside" sGhIn f fd) (B : Bn mg) (hsum : mg "sum" = none) (DG : Df P w K mg base k "_law_ghost" ["plan", "body", "kind"] (spGhost n)) : FnOk P w K mg base CX0 (k + 1) f fd ["step", "at", "head", "sizes", "kind", "stops"] (spGhIn n) := by
  obtain ⟨fG, fdG, GG, gG, kG, bG⟩ := DG.ex
  refine F.ok scGi (fun vs H Q E h => ?_) (fun cdv A outer s H vs Q E hr h => ?_)
  · obtain ⟨ts, D, ST, v, wi, most, tw, i, h, se, kvs, L, kst, l, ps, rfl, _⟩ := h
    rfl
  · obtain ⟨ts, D, ST, v, wi, most, tw, i, h, se, kvs, L, kst, l, ps, rfl, hts, hv, hf, hd, hh, hb, hD, hz, hS, hT, p1, p2, p3, p4, kk⟩ := h
    refine ⟨_, pss_one (ps_lock (ps_for PassesOwn.never rfl (pi_keys (pv 3)) (pg_name (i := 6) scGi.nd rfl (Or.inl rfl)) (pss_cons (ps_asg (pe_call GG (hr.mono (by omega)) rfl gG kG bG .nil pass0 (pa_cons (pe_ix ix_tup (pv 0) (pe_int) (fun _ _ => rfl)) (pa_cons (pe_op op_add (pv 2) (pv 6)) (pa_cons (pv 4) pa_nil)))) (pg_tup (by rfl) (pgs_cons (pg_name (i := 7) scGi.nd rfl (Or.inl rfl)) (pgs_cons (pg_name (i := 8) scGi.nd rfl (Or.inl rfl)) (pgs_cons (pg_name (i := 9) scGi.nd rfl (Or.inl rfl)) pgs_nil)))))
      (pss_cons (ps_lock (ps_for PassesOwn.never rfl (pi_keys (pv 7)) (pg_name (i := 10) scGi.nd rfl (Or.inl rfl)) (pss_cons (ps_set (i := 11) scGi.nd rfl (Or.inl rfl) (pe_dget (hu_of hr) (pv 7) (pv 10) (fun _ _ => rfl)))
      (pss_cons (ps_if (pt_cmp (pc_notN (pv 11))) (pss_one (ps_set (i := 11) scGi.nd rfl (Or.inl rfl) (pe_ifExp (pt_cmpR (op_eq) (pe_ix ix_tup (pv 0) (pe_int) (fun _ _ => rfl)) (pe_str) (nomark _)) (pe_op op_sub (pv 11) (pe_ix ix_tup (pe_ix ix_tup (pv 0) (pe_int) (fun _ _ => rfl)) (pe_int) (fun _ _ => rfl))) pe_non))) (pss_nil))
      (pss_one (ps_dput (hu_of hr) (pv 5) (pe_op op_catA (pe_tup (pa_cons (pv 1) pa_nil)) (pv 10)) (pv 11) (by rfl)))))))
      (pss_one (ps_if (pt_cmpR (op_gt) (pe_callB (cr_sum rfl) (by rfl) hsum (by decide +kernel) (pa_cons (LV.pe_listVals rfl (pv 8) (by rfl) B.list (by decide +kernel)) pa_nil)) (pe_ix ix_tup (pv 0) (pe_int) (fun _ _ => rfl)) (nomark _)) (pss_one (ps_dput (hu_of hr) (pv 5) (pe_tup (pa_cons (pv 1) pa_nil)) (pe_non) (by rfl))) (pss_nil))))))), ?_⟩
    obtain ⟨wh, sts⟩ := wi
    have hv0 := hv
    unfold PlanAt at hv
    obtain ⟨tv, tl, xs, rfl, htv, htl, _⟩ := hv
    obtain ⟨ks, ek, nk, mk, gk⟩ := hz.keys
    have lk : ks.length = kvs.length := by
      have := congrArg List.length ek
      rw [List.length_map, List.length_map] at this
      exact this.symm
    have nSD : ST ≠ D := fun z => by
      rw [z, hD] at hS
      cases hS
    have z0 : ∀ {y0 : V} {ys : List V}, atI (y0 :: ys) (0 : Int) = some y0 := fun {y0 ys} => by exact atI_nat (xs := y0 :: ys) (j := 0) rfl
    have z1 : ∀ {y0 y1 : V} {ys : List V}, atI (y0 :: y1 :: ys) (1 : Int) = some y1 := fun {y0 y1 ys} => by exact atI_nat (xs := y0 :: y1 :: ys) (j := 1) rfl
    have z2 : ∀ {y0 y1 y2 : V} {ys : List V}, atI (y0 :: y1 :: y2 :: ys) (2 : Int) = some y2 := fun {y0 y1 y2 ys} => by exact atI_nat (xs := y0 :: y1 :: y2 :: ys) (j := 2) rfl
    have z3 : ∀ {y0 y1 y2 y3 : V} {ys : List V}, atI (y0 :: y1 :: y2 :: y3 :: ys) (3 : Int) = some y3 := fun {y0 y1 y2 y3 ys} => by exact atI_nat (xs := y0 :: y1 :: y2 :: y3 :: ys) (j := 3) rfl
    refine ⟨D, _, hD, trivial, fun od => ?_⟩
    refine ⟨_, rfl, D, od, rfl, .inl ⟨_, upd_same, ?_⟩⟩
    refine for_it walk_keys (fun j σ G => (∀ a o, a ≠ D → a ≠ ST → H a = some o → G a = some o) ∧ G D = some (.frz od (.dK kvs)) ∧ ∃ (kj : List (List Key × V)) (q6 q7 q8 q9 q10 q11 : Option V), σ = [some (.ref ts), some (.int (i : Int)), some (.int (h : Int)), some (.ref D), some (.bl se), some (.ref ST), q6, q7, q8, q9, q10, q11] ∧ G ST = some (.dT kj) ∧ Tk kj (l ++ (ks.take j).flatMap (M.stopsIn se h i (.mk wh sts) most tw)))
      ⟨fun a o n1 n2 e => by rw [upd_ne n1]; exact e, upd_same, kst, _, _, _, _, _, _, rfl, by rw [upd_ne nSD]; exact hS, by rw [List.take_zero, List.flatMap_nil, List.append_nil]; exact hT⟩ (fun j σ G _ z => z.2.1) ?_ ?_
    · rintro j v σ G0 G hj ⟨s1, hDG, kj, q6, q7, q8, q9, q10, q11, rfl, hSG, hTG⟩ ⟨rfl, kx, vx, hget, rfl⟩
      obtain ⟨x, hx, rfl⟩ := gk j kx vx hget
      have xL : x ∈ L := (mk x).mpr (List.mem_of_getElem? hx)
      have xb := hb x xL
      have tsD : ts ≠ D := fun z => by rw [z, hD] at hts; cases hts
      have tsS : ts ≠ ST := fun z => by rw [z, hS] at hts; cases hts
      have tvD : tv ≠ D := fun z => by rw [z, hD] at htv; cases htv
      have tvS : tv ≠ ST := fun z => by rw [z, hS] at htv; cases htv
      have u1 : KeepU H G := fun a ys e => s1 a _ (fun z => by rw [z, hD] at e; cases e) (fun z => by rw [z, hS] at e; cases e) e
      have gts := u1 _ _ hts
      have gtv := u1 _ _ htv
      have tk : (ks.take (j + 1)).flatMap (M.stopsIn se h i (.mk wh sts) most tw) = (ks.take j).flatMap (M.stopsIn se h i (.mk wh sts) most tw) ++ M.stopsIn se h i (.mk wh sts) most tw x := by
        rw [take_snoc hx, List.flatMap_append]
        simp
      have psj : ∀ q ∈ l ++ (ks.take j).flatMap (M.stopsIn se h i (.mk wh sts) most tw), q.1 ∈ ps := fun q hq => by
        rcases List.mem_append.mp hq with hq | hq
        · exact p2 q hq
        · obtain ⟨y, _, hy⟩ := List.mem_flatMap.mp hq
          unfold M.stopsIn at hy
          rcases List.mem_append.mp hy with hy | hy
          · obtain ⟨r, hr, rfl⟩ := List.mem_map.mp hy
            exact p3 _ (M.ghost_places hf hr)
          · split at hy
            · rw [List.mem_singleton.mp hy]
              exact p4
            · cases hy
      generalize (ks.take j).flatMap (M.stopsIn se h i (.mk wh sts) most tw) = lj at hTG tk psj
      rw [tk]
      refine ⟨_, rfl, ts, _, _, _, rfl, rfl, SqT.of gts, z1, _, rfl, _, rfl, _, _, rfl, rfl, _, rfl, .ref tv, .mk wh sts, h + x, se, rfl, hv0.keepU u1, hf, hd, ?_, fun t IN PD kin kpd G2 s2 nIN nPD ht hIN tIN hPD sPD => ?_⟩
      · omega
      refine ⟨t, _, rfl, SqT.of ht, rfl, _, _, rfl, _, _, rfl, _, _, rfl, rfl, ?_⟩
      dsimp only
      refine ⟨IN, _, hIN, trivial, fun od2 => ?_⟩
      refine ⟨_, rfl, IN, od2, rfl, .inr ⟨_, upd_same, ?_⟩⟩
      have gST := s2 _ _ hSG
      have gD := s2 _ _ hDG
      have gts2 := s2 _ _ gts
      have gtv2 := s2 _ _ gtv
      have nIS : ST ≠ IN := fun z => by
        rw [z, nIN] at hSG
        cases hSG
      have nID : D ≠ IN := fun z => by
        rw [z, nIN] at hDG
        cases hDG
      have nIP : PD ≠ IN := fun z => by
        rw [z, hIN] at hPD
        cases hPD
      have nSP : PD ≠ ST := fun z => by
        rw [← z, nPD] at hSG
        cases hSG
      obtain ⟨fg, efg⟩ : ∃ fg, fg = (fun q : List Nat × Option Int => (i :: q.1, M.turnG q.2 wh tw)) := ⟨_, rfl⟩
      have gm : M.stopsIn se h i (.mk wh sts) most tw x = (M.Way.ghost se (.mk wh sts) (h + x)).map fg ++ (if most < N.PC (M.chE se wh sts []) (h + x) then [([i], none)] else []) := by
        rw [efg]
        rfl
      have psg : ∀ q ∈ (M.Way.ghost se (.mk wh sts) (h + x)).map fg, q.1 ∈ ps := fun q hq => by
        obtain ⟨r, hr, rfl⟩ := List.mem_map.mp hq
        rw [efg]
        exact p3 _ (M.ghost_places hf hr)
      refine for_it walk_keysT (fun m σ G3 => (∀ a o, a ≠ IN → a ≠ ST → G2 a = some o → G3 a = some o) ∧ G3 IN = some (.frz od2 (.dT kin)) ∧ ∃ (km : List (List Key × V)) (q10 q11 : Option V) (lm : List (List Nat × Option Int)),
          σ = [some (.ref ts), some (.int (i : Int)), some (.int (h : Int)), some (.ref D), some (.bl se), some (.ref ST), some (.int (x : Int)), some (.ref IN), some (.ref PD), some (.int (((N.pt (M.chE se wh sts []) [h + x]).getLastD 0 : Nat) : Int)), q10, q11] ∧ G3 ST = some (.dT km) ∧ Tk km (l ++ lj ++ lm) ∧ (∀ q ∈ lm, q ∈ (M.Way.ghost se (.mk wh sts) (h + x)).map fg) ∧
          ∀ i' < m, ∀ k v, kin[i']? = some (k, v) → ∀ p a, k = pk p → v = tldV a → fg (p, a) ∈ lm)
        ⟨fun a o n1 n2 e => by rw [upd_ne n1]; exact e, upd_same, kj, _, _, [], rfl, by rw [upd_ne nIS]; exact gST, by rw [List.append_nil]; exact hTG, (fun q hq => by cases hq), fun i' hi => absurd hi (Nat.not_lt_zero _)⟩ (fun m σ G _ z => z.2.1) ?_ ?_
      · rintro m v σ G30 G3 hm ⟨s3, hIG, km, q10, q11, lm, rfl, hSm, hTm, m1, m2⟩ ⟨rfl, kp, vp, qa, hkp, rfl, hqa⟩
        have kmem := List.mem_of_getElem? hkp
        obtain ⟨p, rfl⟩ := tIN.key kp (List.mem_map.mpr ⟨_, kmem, rfl⟩)
        have hval := val_of_mem tIN.nod kmem
        obtain ⟨a, rfl, ma⟩ := tIN.got p vp hval
        have tsI : ts ≠ IN := fun z => by rw [z, hIN] at gts2; cases gts2
        have tvI : tv ≠ IN := fun z => by rw [z, hIN] at gtv2; cases gtv2
        have gts3 := s3 _ _ tsI tsS gts2
        have gtv3 := s3 _ _ tvI tvS gtv2
        have fgm : fg (p, a) ∈ (M.Way.ghost se (.mk wh sts) (h + x)).map fg := List.mem_map.mpr ⟨_, ma, rfl⟩
        refine set_then (i := 11) ⟨_, rfl, _, rfl, IN, _, rfl, .inr ⟨kin, pk p, qa, .inr ⟨od2, hIG⟩, rfl, hqa, hval.symm⟩, ?_⟩
        refine if_then (fun σ' G4 => G4 = G3 ∧ σ' = [some (.ref ts), some (.int (i : Int)), some (.int (h : Int)), some (.ref D), some (.bl se), some (.ref ST), some (.int (x : Int)), some (.ref IN), some (.ref PD), some (.int (((N.pt (M.chE se wh sts []) [h + x]).getLastD 0 : Nat) : Int)), some (.ref qa), some (tldV (M.turnG a wh tw))]) ?r1 (fun k1 => ?_)
        case r1 =>
          rintro σ' G4 ⟨rfl, rfl⟩
          refine ⟨_, rfl, _, rfl, _, rfl, line2.2.2.1, fun t2 ht2 => ?_⟩
          have g4 := of_upd (o := .tup [V.int (i : Nat)]) ht2
          refine ⟨_, rfl, catA_own (ys := ni p) upd_same (by rw [← pk_ni]; exact g4 _ _ hqa) ?_ fun c G5 s5 hc => ?_⟩
          · rw [ni_len]
            have d1 := M.Way.places_dp _ p (M.ghost_places hf ma)
            have d2 := fine_dep hf
            exact Nat.le_trans (show 1 + p.length ≤ 4 by omega) (by decide)
          have s45 := g4.trans s5
          have hS5 := s45 _ _ hSm
          have hc2 : G5 c = some (.tup ((pk (i :: p)).map kV)) := by
            rw [pk_ni]
            exact hc
          have psm : ∀ q ∈ l ++ lj ++ lm, q.1 ∈ ps := fun q hq => by
            rcases List.mem_append.mp hq with hq | hq
            · exact psj q hq
            · exact psg q (m1 q hq)
          have lk2 := hTm.len psm
          refine ⟨ST, _, rfl, DPut.t (k := pk (i :: p)) hS5 hc2 (Nat.lt_of_le_of_lt (Nat.le_trans lk2 p1) (by decide)), ?_⟩
          refine ⟨fun b o n1 n2 e => by rw [upd_ne n2]; exact s45 _ _ (s3 _ _ n1 n2 e), by rw [upd_ne (Ne.symm nIS)]; exact s45 _ _ hIG, _, _, _, lm ++ [fg (p, a)], rfl, upd_same, ?_, fun q hq => ?_, fun i' hi k v hk p2 a2 e1 e2 => ?_⟩
          · have := hTm.put (p := i :: p) (a := M.turnG a wh tw)
            rw [List.append_assoc] at this
            rw [efg]
            exact this
          · rcases List.mem_append.mp hq with hq | hq
            · exact m1 q hq
            · rw [List.mem_singleton.mp hq]
              exact fgm
          · by_cases z : i' = m
            · rw [z, hkp] at hk
              obtain ⟨e3, e4⟩ := Prod.mk.inj (Option.some.inj hk)
              rw [← pk_inj (e3.trans e1), ← tldV_inj (e4.trans e2)]
              exact List.mem_append_right _ List.mem_cons_self
            · exact List.mem_append_left _ (m2 i' (by omega) k v hk p2 a2 e1 e2)
        cases a with
        | none => exact ⟨_, rfl, _, rfl, iteF (k1 _ _ ⟨rfl, rfl⟩)⟩
        | some y =>
          refine ⟨_, rfl, _, rfl, iteT ⟨_, rfl, ts, _, _, _, rfl, rfl, SqT.of gts3, z3, rfl, _, rfl, ?_⟩⟩
          cases tw with
          | turn => exact iteP rfl ⟨_, rfl, _, rfl, ts, _, _, _, rfl, rfl, SqT.of gts3, z1, tv, _, _, _, rfl, rfl, SqT.of gtv3, z0, _, _, rfl, rfl, k1 _ _ ⟨rfl, rfl⟩⟩
          | keep => exact iteN nks.2.2.2.2.2.2.2.2.1 (k1 _ _ ⟨rfl, rfl⟩)
          | lose => exact iteN nks.2.2.2.2.2.2.2.2.2 (k1 _ _ ⟨rfl, rfl⟩)
      · rintro σ G3 ⟨s3, hIG, km, q10, q11, lm, rfl, hSm, hTm, m1, m2⟩
        refine ⟨hIG, ?_⟩
        have hS3 : (upd G3 IN (.dT kin)) ST = some (.dT km) := by
          rw [upd_ne nIS]
          exact hSm
        have s23 : ∀ a o, a ≠ ST → G2 a = some o → (upd G3 IN (.dT kin)) a = some o := fun a o n2 e => by
          by_cases z : a = IN
          · subst z
            rw [hIN] at e
            cases e
            exact upd_same
          · rw [upd_ne z]
            exact s3 a o z n2 e
        have hTn : Tk km (l ++ lj ++ (M.Way.ghost se (.mk wh sts) (h + x)).map fg) := hTm.same fun q => by
          rw [List.mem_append, List.mem_append (t := List.map _ _)]
          refine or_congr Iff.rfl ⟨m1 q, fun hq => ?_⟩
          obtain ⟨⟨p, a⟩, hr, rfl⟩ := List.mem_map.mp hq
          obtain ⟨v, hv⟩ := tIN.has p a hr
          obtain ⟨c, rfl, mc⟩ := tIN.got p v hv
          obtain ⟨i', hi', ei⟩ := List.getElem_of_mem (mem_of_val hv)
          rw [M.ghost_one hf hr mc]
          exact m2 i' hi' _ _ (List.getElem?_eq_some_iff.mpr ⟨hi', ei⟩) p c rfl rfl
        generalize upd G3 IN (.dT kin) = G4 at hS3 s23
        have gts4 := s23 _ _ tsS gts2
        have gPD4 := s23 _ _ nSP hPD
        show tCB (rSum K) (tCons (LV.tListVals (tVar 8)) tNil) _ _ _
        refine sum_vals_at (fun R h => ⟨_, rfl, h⟩) gPD4 sPD fun G5 s5 => ?_
        refine ⟨_, rfl, ts, _, _, _, rfl, rfl, SqT.of (s5 _ _ gts4), z2, _, _, rfl, rfl, _, rfl, ?_⟩
        have ePC : (N.pt (M.chE se wh sts []) [h + x]).length = N.PC (M.chE se wh sts []) (h + x) := N.pt_PC (M.ck_E hf).fall _
        have s15 : ∀ a o, a ≠ D → a ≠ ST → H a = some o → G5 a = some o := fun a o n1 n2 e => s5 _ _ (s23 _ _ n2 (s2 _ _ (s1 a o n1 n2 e)))
        have hD5 := s5 _ _ (s23 _ _ (Ne.symm nSD) gD)
        have hS5 := s5 _ _ hS3
        refine ite2 (fun c => ?_) (fun c => ?_)
        · have c2 : most < N.PC (M.chE se wh sts []) (h + x) := by
            have c3 : (most : Int) < ((N.PC (M.chE se wh sts []) (h + x) : Nat) : Int) := by
              rw [← ePC]
              exact of_decide_eq_true c
            omega
          rw [if_pos c2] at gm
          refine ⟨_, rfl, _, rfl, line2.2.2.1, fun t2 ht2 => ?_⟩
          have g5 := of_upd (o := .tup [V.int (i : Nat)]) ht2
          have psm : ∀ q ∈ l ++ lj ++ (M.Way.ghost se (.mk wh sts) (h + x)).map fg, q.1 ∈ ps := fun q hq => by
            rcases List.mem_append.mp hq with hq | hq
            · exact psj q hq
            · exact psg q hq
          have lk2 := hTn.len psm
          refine ⟨ST, _, rfl, DPut.t (k := pk [i]) (g5 _ _ hS5) (by exact upd_same) (Nat.lt_of_le_of_lt (Nat.le_trans lk2 p1) (by decide)), ?_⟩
          refine ⟨fun a o n1 n2 e => by rw [upd_ne n2]; exact g5 _ _ (s15 a o n1 n2 e), by rw [upd_ne (Ne.symm nSD)]; exact g5 _ _ hD5, _, _, _, _, _, _, _, rfl, upd_same, ?_⟩
          have := hTn.put (p := [i]) (a := none)
          rw [show tldV none = V.non from rfl] at this
          rw [gm]
          simpa only [List.append_assoc] using this
        · have c2 : ¬ most < N.PC (M.chE se wh sts []) (h + x) := fun z => c (decide_eq_true (show (most : Int) < ((N.pt (M.chE se wh sts []) [h + x]).length : Int) by
            rw [ePC]
            omega))
          rw [if_neg c2, List.append_nil] at gm
          refine ⟨s15, hD5, _, _, _, _, _, _, _, rfl, hS5, ?_⟩
          rw [gm]
          simpa only [List.append_assoc] using hTn
    · rintro σ G ⟨s1, hDG, kj, q6, q7, q8, q9, q10, q11, rfl, hSG, hTG⟩
      refine ⟨hDG, ?_⟩
      refine kk kj _ (fun a o n e => ?_) (by rw [upd_ne nSD]; exact hSG) ?_
      · by_cases z : a = D
        · subst z
          rw [hD] at e
          cases e
          exact upd_same
        · rw [upd_ne z]
          exact s1 a o z n e
      · rw [show ks.take kvs.length = ks from by rw [← lk, List.take_length]] at hTG
        refine hTG.same fun q => ?_
        rw [List.mem_append, List.mem_append, List.mem_flatMap, List.mem_flatMap]
        exact or_congr Iff.rfl ⟨fun ⟨x, hx, hq⟩ => ⟨x, (mk x).mpr hx, hq⟩, fun ⟨x, hx, hq⟩ => ⟨x, (mk x).mp hx, hq⟩⟩
end
end CP

end
section
set_option autoImplicit false
set_option Elab.async false
set_option linter.all false
set_option maxRecDepth 100000
set_option maxHeartbeats 4000000
/-! ## _law_ghost -/
namespace CP
open PySem L2 G Y
/-- how far the ghost has come -/
def InvGh (H : Hp) (t L ST : Addr) (b : Nat) (se : Bool) (wh : Nat) (sts : List M.Step) (i : Nat) (σ : L2.St) (G : Hp) : Prop :=
  Same H G ∧ ∃ (D : Addr) (kst : List (List Key × V)) (kvs : List (Key × V)) (done : List (List Nat × Option Int)) (q8 q9 q10 : Option V),
    σ = [some (.ref t), some (.int (b : Int)), some (.bl se), some (.int (wh : Int)), some (.ref L), some (.ref ST), some (.ref D), some (.int (((N.pt (M.chE se wh (sts.take i) []) [b]).getLastD 0 : Nat) : Int)), q8, q9, q10] ∧
    H D = none ∧ G ST = some (.dT kst) ∧ Tk kst done ∧ M.Step.ghostAll se wh sts 0 [] b = done ++ M.Step.ghostAll se wh (sts.drop i) i (M.chE se wh (sts.take i) []) b ∧ G D = some (.dK kvs) ∧ Sz kvs (N.pt (M.chE se wh (sts.take i) []) [b]) ∧ kvs.length ≤ 2 ^ i
section
variable {P : Program} {w : World} {K : PySem.W.Frag} {mg : Str → Option Value} {base : Heap} {C CW : Addr}
abbrev NGh : List Str := ["plan", "body", "kind", "head", "steps", "stops", "sizes", "last", "at", "step", "word"]
theorem scGh : FnScope NGh ["plan", "body", "kind"] (defScope sGhost) := ⟨rfl, rfl, rfl, by decide +kernel, rfl, by decide +kernel, by decide +kernel⟩
theorem ok_ghost {k n : Nat} {f : Addr} {fd : FuncData} (F : Fun K "_law_ghost" "_law_ghost" sGhost f fd) (B : Bn mg) (hsum : mg "sum" = none) (hk : 1 ≤ k) (DC : Df P w K mg base 1 "_law_cut_up" ["sizes", "last", "cut"] spCutUp) (DI : Df P w K mg base k "_law_ghost_inside" ["step", "at", "head", "sizes", "kind", "stops"] (spGhIn n)) : FnOk P w K mg base CX0 (k + 1) f fd ["plan", "body", "kind"] (spGhost (n + 1)) := by
  obtain ⟨fC, fdC, GC, gC, kC, bC⟩ := DC.ex
  obtain ⟨fI, fdI, GI, gI, kI, bI⟩ := DI.ex
  refine F.ok scGh (fun vs H Q E h => ?_) (fun cdv A outer s H vs Q E hr h => ?_)
  · obtain ⟨v, wy, b, se, rfl, _⟩ := h
    rfl
  · obtain ⟨v, wy, b, se, rfl, hp, hf, hd, hb, kk⟩ := h
    refine ⟨_, pss_cons (ps_asg (pv 0) (pg_tup (by rfl) (pgs_cons (pg_name (i := 3) scGh.nd rfl (Or.inl rfl)) (pgs_cons (pg_name (i := 4) scGh.nd rfl (Or.inl rfl)) pgs_nil))))
      (pss_cons (ps_par3 (i := 5) (j := 6) (l := 7) rfl scGh.nd rfl rfl rfl (by decide) (by decide) (by decide) rfl rfl rfl (pa_cons (pe_dnewT) (pa_cons (pe_disp (pps_cons (pv 1) pe_int pps_nil) rfl rfl (fun z => by cases z) (by decide)) (pa_cons (pv 1) pa_nil))) (by rfl))
      (pss_cons (ps_for PassesOwn.never rfl (WP.pi_et (by rfl) B.enum (pa_cons (pv 4) pa_nil)) (pg_tup (by rfl) (pgs_cons (pg_name (i := 8) scGh.nd rfl (Or.inl rfl)) (pgs_cons (pg_name (i := 9) scGh.nd rfl (Or.inl rfl)) pgs_nil))) (pss_one (ps_if (pt_cmpR (op_eq) (pe_ix ix_tup (pv 9) (pe_int) (fun _ _ => rfl)) (pe_str) (nomark _)) (pss_cons (ps_if (pt_cmpR (op_gt) (pe_callB (cr_sum rfl) (by rfl) hsum (by decide +kernel) (pa_cons (LV.pe_listVals rfl (pv 6) (by rfl) B.list (by decide +kernel)) pa_nil)) (pe_ix ix_tup (pv 9) (pe_int) (fun _ _ => rfl)) (nomark _)) (pss_one (ps_dput (hu_of hr) (pv 5) (pe_tup (pa_cons (pv 8) pa_nil)) (pe_non) (by rfl))) (pss_nil))
      (pss_one (ps_par (i := 6) (j := 7) (by rfl) scGh.nd rfl rfl (by decide) rfl rfl (pa_cons (pe_disp (pps_cons (pv 1) pe_int pps_nil) rfl rfl (fun z => by cases z) (by decide)) (pa_cons (pv 1) pa_nil)) (by rfl)))) (pss_one (ps_if (pt_cmpR (op_eq) (pe_ix ix_tup (pv 9) (pe_int) (fun _ _ => rfl)) (pe_str) (nomark _)) (pss_one (ps_expr (pe_call GI (hr.mono (by omega)) rfl gI kI bI .nil pass0 (pa_cons (pv 9) (pa_cons (pv 8) (pa_cons (pv 3) (pa_cons (pv 6) (pa_cons (pv 2) (pa_cons (pv 5) pa_nil))))))))) (pss_one (ps_if (pt_cmpR (op_gt) (pe_callB (cr_max rfl) (by rfl) B.max (by decide +kernel) (pa_cons (pe_callTy (call_list_dK rfl) (by rfl) B.list (by decide +kernel) (pa_cons (pv 6) pa_nil)) pa_nil)) (pe_op op_sub (pe_ix ix_tup (pv 9) (pe_int) (fun _ _ => rfl)) (pv 3)) (nomark _)) (pss_cons (ps_set (i := 10) scGh.nd rfl (Or.inl rfl) (pe_ifExp (pt_val (pv 2)) (pe_ix ix_tup (pv 9) (pe_int) (fun _ _ => rfl)) (pe_ix ix_tup (pv 9) (pe_int) (fun _ _ => rfl))))
      (pss_one (ps_if (pt_cmpR (op_eq) (pv 10) (pe_str) (nomark _)) (pss_one (ps_asg (pe_call GC (hr.mono (by omega)) rfl gC kC bC .nil pass0 (pa_cons (pv 6) (pa_cons (pv 7) (pa_cons (pe_op op_sub (pe_ix ix_tup (pv 9) (pe_int) (fun _ _ => rfl)) (pv 3)) pa_nil)))) (pg_tup (by rfl) (pgs_cons (pg_name (i := 6) scGh.nd rfl (Or.inl rfl)) (pgs_cons (pg_name (i := 7) scGh.nd rfl (Or.inl rfl)) pgs_nil))))) (pss_one (ps_dput (hu_of hr) (pv 5) (pe_tup (pa_cons (pv 8) pa_nil)) (pe_ifExp (pt_cmpR (op_eq) (pv 10) (pe_str) (nomark _)) (pe_ix ix_tup (pv 9) (pe_int) (fun _ _ => rfl)) pe_non) (by rfl)))))) (pss_nil))))))))
      (pss_one (ps_ret (pe_tup (pa_cons (pv 5) (pa_cons (pv 6) (pa_cons (pv 7) pa_nil)))))))), ?_⟩
    have hfa := fine_all hf
    have gp := fun q => M.ghost_places (se := se) (b := b) (q := q) hf
    have pl := M.Way.places_len wy
    obtain ⟨wh, sts⟩ := wy
    unfold PlanAt at hp
    obtain ⟨t, L, xs, rfl, ht, hL, hA⟩ := hp
    obtain ⟨hall, hl12, hsz⟩ := hfa
    replace hl12 : sts.length ≤ 12 := hl12
    replace hall : M.Step.fineAll wh sts := hall
    have hwh : 1 ≤ wh ∧ wh ≤ 40 := by
      have h0 := hf
      unfold M.Way.fine at h0
      exact h0.1
    unfold M.Way.depth at hd
    unfold M.Way.ghost at kk gp
    unfold M.Way.places at gp pl
    have il := hA.len
    have z0 : ∀ {y0 : V} {ys : List V}, atI (y0 :: ys) (0 : Int) = some y0 := fun {y0 ys} => by exact atI_nat (xs := y0 :: ys) (j := 0) rfl
    have z1 : ∀ {y0 y1 : V} {ys : List V}, atI (y0 :: y1 :: ys) (1 : Int) = some y1 := fun {y0 y1 ys} => by exact atI_nat (xs := y0 :: y1 :: ys) (j := 1) rfl
    have z2 : ∀ {y0 y1 y2 : V} {ys : List V}, atI (y0 :: y1 :: y2 :: ys) (2 : Int) = some y2 := fun {y0 y1 y2 ys} => by exact atI_nat (xs := y0 :: y1 :: y2 :: ys) (j := 2) rfl
    have z3 : ∀ {y0 y1 y2 y3 : V} {ys : List V}, atI (y0 :: y1 :: y2 :: y3 :: ys) (3 : Int) = some y3 := fun {y0 y1 y2 y3 ys} => by exact atI_nat (xs := y0 :: y1 :: y2 :: y3 :: ys) (j := 3) rfl
    refine ⟨_, rfl, t, _, rfl, SqT.of ht, rfl, _, _, rfl, _, _, rfl, rfl, ?_⟩
    dsimp only
    refine fun ST hST => ?_
    show tDisp [(tVar 1, tC (.int 1))] _ _ _
    refine one_at (fun H1 R h => ⟨_, rfl, h⟩) fun D H1 kvs s1 hD hD1 hz hl => ?_
    have g0 := of_upd (o := .dT []) hST
    refine ⟨_, rfl, _, _, _, rfl, ?_⟩
    dsimp only
    have s01 := g0.trans s1
    refine ⟨_, rfl, L, xs, rfl, SqT.of (s01 _ _ hL), ?_⟩
    refine for_it WP.walk_et (InvGh H t L ST b se wh sts)
      ⟨s01, D, [], kvs, [], _, _, _, rfl, g0.free hD, s1 _ _ upd_same, .nil, rfl, hD1, hz, by rw [hl]; exact Nat.le_refl _⟩ (fun i σ G _ z => SqT.of (z.1 _ _ hL)) ?_ ?_
    · rintro i v σ G0 G1 hi ⟨s2, D, kst, kvs, done, q8, q9, q10, rfl, nD, gS, tS, eq, gD, sD, lD⟩ ⟨tt, x1, x2, rfl, nt, rfl, e1, hx⟩
      cases e1
      obtain ⟨st, hst, hat⟩ := hA.get hx
      have hi12 : i < 12 := by omega
      have g1 := of_upd (o := .tup [V.int (i : Nat), x2]) nt
      have s3 := s2.trans g1
      refine ⟨tt, _, rfl, SqT.of upd_same, rfl, _, _, rfl, _, _, rfl, rfl, ?_⟩
      have ed : sts.drop i = st :: sts.drop (i + 1) := by
        obtain ⟨hi3, ex⟩ := List.getElem?_eq_some_iff.mp hst
        rw [← ex, ← List.drop_eq_getElem_cons hi3]
      have hfs := WP.fine_get hall hst
      have ckE : M.Ck (M.chE se wh (sts.take i) []) := M.ck_all M.ck_nil (M.fine_take i hall)
      have eN : M.chE se wh (sts.take (i + 1)) [] = M.nxC se wh (M.chE se wh (sts.take i) []) st := by
        rw [take_snoc hst, M.chE_snoc]
      have psd : ∀ q ∈ done, q.1 ∈ M.Step.placesAll sts 0 := fun q hq => gp q (by rw [eq]; exact List.mem_append_left _ hq)
      have lst := tS.len psd
      have eqT := eq
      rw [ed, M.ghostAll_cons, ← List.append_assoc, ← eN] at eq
      have gS2 := g1 _ _ gS
      have gD2 := g1 _ _ gD
      have hat2 := hat.keep (same_keepT s3)
      have dl := M.dep_le hst
      have plc := M.placesAll_get (s := sts) (i := i) (j := 0) hst
      have l40 : kst.length < sizeLine := Nat.lt_of_le_of_lt (Nat.le_trans lst (by omega)) (show 40 < sizeLine by decide)
      have p2 : kvs.length ≤ 100000 := Nat.le_trans lD (Nat.le_trans (Nat.pow_le_pow_right (by omega) (show i ≤ 12 by omega)) (by decide))
      have p22 : 2 ^ i ≤ 2 ^ (i + 1) := Nat.pow_le_pow_right (by omega) (by omega)
      have bnd : ∀ x ∈ N.pt (M.chE se wh (sts.take i) []) [b], x ≤ b := N.pt_bound (m := b) ckE.fall.pos [b] (fun s hs => by rw [List.mem_singleton.mp hs]; exact Nat.le_refl _)
      have nxt : ∀ (D2 : Addr) (kst2 : List (List Key × V)) (kvs2 : List (Key × V)) (G2 : Hp) (q8 q9 q10 : Option V), Same H G2 → H D2 = none → G2 ST = some (.dT kst2) → Tk kst2 (done ++ (M.Step.ghost se wh st (M.chE se wh (sts.take i) []) b).map (fun q => (i :: q.1, q.2))) → G2 D2 = some (.dK kvs2) → Sz kvs2 (N.pt (M.nxC se wh (M.chE se wh (sts.take i) []) st) [b]) → kvs2.length ≤ 2 ^ (i + 1) →
          InvGh H t L ST b se wh sts (i + 1) [some (.ref t), some (.int (b : Int)), some (.bl se), some (.int (wh : Int)), some (.ref L), some (.ref ST), some (.ref D2), some (.int (((N.pt (M.nxC se wh (M.chE se wh (sts.take i) []) st) [b]).getLastD 0 : Nat) : Int)), q8, q9, q10] G2 := fun D2 kst2 kvs2 G2 q8 q9 q10 a1 a2 a3 a4 a5 a6 a7 => by
        refine ⟨a1, D2, kst2, kvs2, _, q8, q9, q10, ?_, a2, a3, a4, eq, a5, ?_, a7⟩
        · rw [eN]
        · rw [eN]
          exact a6
      generalize upd G0 tt (.tup [V.int (i : Nat), x2]) = G2 at s3 gS2 gD2 hat2
      have hl40 : ∀ x, x ∈ (N.pt (M.chE se wh (sts.take i) []) [b]) → x + 40 * (n + 1) ≤ 1900000000000000000 := fun x hx => by
        have := bnd x hx
        omega
      have lastb : (N.pt (M.chE se wh (sts.take i) []) [b]).getLastD 0 ≤ b := by
        have ne := N.pt_ne ckE.fall b
        exact bnd _ (N.last_mem ne)
      generalize M.chE se wh (sts.take i) [] = cs at *
      cases st with
      | join most =>
        unfold PlStep at hat2
        obtain ⟨t2, rfl, h2⟩ := hat2
        refine ⟨_, rfl, t2, _, _, _, rfl, rfl, SqT.of h2, z0, rfl, _, rfl, iteP rfl ?_⟩
        refine if_then (fun σ' G3 => Same H G3 ∧ (∃ la : V, σ' = [some (.ref t), some (.int (b : Int)), some (.bl se), some (.int (wh : Int)), some (.ref L), some (.ref ST), some (.ref D), some la, some (.int ((i : Nat) : Int)), some (.ref t2), q10]) ∧ ∃ kst2, G3 ST = some (.dT kst2) ∧ Tk kst2 (done ++ (M.Step.ghost se wh (.join most) cs b).map (fun q => (i :: q.1, q.2)))) ?r1 (fun k1 => ?_)
        case r1 =>
          rintro σ' G3 ⟨s4, ⟨la, rfl⟩, kst2, e2, t2'⟩
          unfold tPar tCons
          show tDisp [(tVar 1, tC (.int 1))] _ _ _
          refine one_at (fun H1 R h => ⟨_, rfl, h⟩) fun D2 G4 kv2 s5 nD2 hD2 hz2 hl2 => ?_
          refine ⟨_, rfl, _, _, rfl, ?_⟩
          exact nxt D2 kst2 kv2 G4 _ _ _ (s4.trans s5) (s4.free nD2) (s5 _ _ e2) t2' hD2 hz2 (by rw [hl2]; exact Nat.one_le_two_pow)
        show tCB (rSum K) (tCons (LV.tListVals (tVar 6)) tNil) _ _ _
        refine sum_vals_at (fun R h => ⟨_, rfl, h⟩) gD2 sD fun G3 s4 => ?_
        refine ⟨_, rfl, t2, _, _, _, rfl, rfl, SqT.of (s4 _ _ h2), z1, _, _, rfl, rfl, _, rfl, ?_⟩
        have ePC := N.pt_PC ckE.fall b
        unfold M.Step.ghost at k1
        refine ite2 (fun c => ?_) (fun c => ?_)
        · have c2 : most < N.PC cs b := by
            have c3 : (most : Int) < (((N.pt cs [b]).length : Nat) : Int) := of_decide_eq_true c
            omega
          rw [if_pos c2] at k1
          refine ⟨_, rfl, _, rfl, line2.2.2.1, fun t4 ht4 => ?_⟩
          have g4 := of_upd (o := .tup [V.int ((i : Nat) : Int)]) ht4
          refine ⟨ST, _, rfl, DPut.t (k := pk [i]) (g4 _ _ (s4 _ _ gS2)) (by exact upd_same) l40, ?_⟩
          refine k1 _ _ ⟨add_upd hST ((s3.trans s4).trans g4), ⟨_, rfl⟩, _, upd_same, ?_⟩
          exact tS.put (p := [i]) (a := none)
        · have c2 : ¬ most < N.PC cs b := fun z => c (decide_eq_true (show (most : Int) < (((N.pt cs [b]).length : Nat) : Int) by
            rw [ePC]
            omega))
          rw [if_neg c2] at k1
          exact k1 _ _ ⟨s3.trans s4, ⟨_, rfl⟩, _, s4 _ _ gS2, by rw [List.map_nil, List.append_nil]; exact tS⟩
      | tunnel wi most tw =>
        unfold PlStep at hat2
        obtain ⟨t2, v2, rfl, h2, hin⟩ := hat2
        unfold M.Step.fine at hfs
        have nSD : D ≠ ST := fun z => by
          rw [z, gS2] at gD2
          cases gD2
        refine ⟨_, rfl, t2, _, _, _, rfl, rfl, SqT.of h2, z0, rfl, _, rfl, iteN nks.2.2.2.2.2.1 ?_⟩
        refine ⟨_, rfl, t2, _, _, _, rfl, rfl, SqT.of h2, z0, rfl, _, rfl, iteP rfl ?_⟩
        refine ⟨_, rfl, _, rfl, _, rfl, _, rfl, _, rfl, _, rfl, t2, D, ST, v2, wi, most, tw, i, wh, se, kvs, N.pt cs [b], kst, done, M.Step.placesAll sts 0, rfl, h2, hin, hfs.1, ?_, hwh.2, hl40, gD2, sD, gS2, tS, by omega, psd, fun p hp => plc.1 p ?_, plc.2, fun kst3 G3 sx e3 t3 => ?_⟩
        · have e : M.Step.dep (.tunnel wi most tw) = wi.depth := rfl
          omega
        · unfold M.Step.places
          exact hp
        · refine nxt D kst3 kvs G3 _ _ _ (fun a o e => sx a o (fun z => ?_) (s3 _ _ e)) nD e3 ?_ (sx _ _ nSD gD2) sD (by omega)
          · rw [z, hST] at e
            cases e
          · rw [M.ghost_tun]
            exact t3
      | road size ts lw =>
        have hfs0 := hfs
        unfold PlStep at hat2
        obtain ⟨t2, rfl, h2⟩ := hat2
        unfold M.Step.fine at hfs
        refine ⟨_, rfl, t2, _, _, _, rfl, rfl, SqT.of h2, z0, rfl, _, rfl, iteN nks.2.2.2.2.1 ?_⟩
        refine ⟨_, rfl, t2, _, _, _, rfl, rfl, SqT.of h2, z0, rfl, _, rfl, iteN (fun z => absurd (V.str.inj z) (by decide +kernel)) ?_⟩
        show tCB (rMax K) (tCons (tCB rListD (tCons (tVar 6) tNil)) tNil) _ _ _
        refine max_keys_at (fun R h => ⟨_, rfl, h⟩) gD2 sD (N.pt_ne ckE.fall b) fun m G3 hm hall s4 => ?_
        have h23 := s4 _ _ h2
        refine ⟨_, rfl, t2, _, _, _, rfl, rfl, SqT.of h23, z1, _, rfl, _, _, rfl, rfl, _, _, rfl, rfl, _, rfl, ?_⟩
        have ec : (size : Int) - (wh : Int) = ((size - wh : Nat) : Int) := by omega
        refine ite2 (fun c => ?_) (fun c => ?_)
        · have c2 : (size : Int) - (wh : Int) < (m : Int) := of_decide_eq_true c
          have hany : (N.pt cs [b]).any (fun x => decide ((size : Int) - (wh : Int) < (x : Int))) = true := List.any_eq_true.mpr ⟨m, hm, decide_eq_true c2⟩
          refine set_k (fun v G4 => G4 = G3 ∧ v = .str (wordS se ts lw)) ?r2 (fun k1 => ?_)
          case r2 =>
            rintro v G4 ⟨rfl, rfl⟩
            refine ⟨_, rfl, rfl, _, rfl, ?_⟩
            rw [word_cut]
            by_cases c1 : se = false ∧ lw = .cut
            · rw [decide_eq_true c1]
              refine iteT ⟨_, rfl, _, rfl, _, rfl, t2, _, _, _, rfl, rfl, SqT.of h23, z1, _, rfl, _, _, rfl, rfl, D, (N.pt cs [b]).getLastD 0, size - wh, kvs, N.pt cs [b], by exact congrArg (fun z : Int => ([V.ref D, V.int (((N.pt cs [b]).getLastD 0 : Nat) : Int), V.int z] : List V)) ec, s4 _ _ gD2, sD, by omega, by omega, fun x hx => ?_, by omega, p2, fun t3 D2 kvs2 G5 s5 nD2 ht3 hD2 sz2 lz2 => ?_⟩
              · have := hl40 x hx
                omega
              refine ⟨t3, _, rfl, SqT.of ht3, rfl, _, _, rfl, _, _, rfl, rfl, ?_⟩
              have ept := M.pt_cut (b := b) ckE hfs0 c1
              have := nxt D2 kst kvs2 G5 (some (.int ((i : Nat) : Int))) (some (.ref t2)) (some (.str (wordS se ts lw))) ((s3.trans s4).trans s5) ((s3.trans s4).free nD2) (s5 _ _ (s4 _ _ gS2)) ?_ hD2 (by rw [ept]; exact sz2) (by rw [Nat.pow_succ]; omega)
              · rw [ept, N.flat_last (by omega) (N.pt_ne ckE.fall b)] at this
                exact this
              · unfold M.Step.ghost
                rw [if_pos (.inl c1), List.map_nil, List.append_nil]
                exact tS
            · rw [decide_eq_false c1]
              have eg : M.Step.ghost se wh (.road size ts lw) cs b = [([], if (se = true ∧ ts = true) ∨ (se = false ∧ lw = .tell) then some (size : Int) else none)] := by
                unfold M.Step.ghost
                rw [if_neg (by rintro (z | z); exact c1 z; rw [hany] at z; cases z)]
              have en : M.nxC se wh cs (.road size ts lw) = cs := by
                unfold M.nxC
                dsimp only
                rw [if_neg c1]
              rw [eg, en] at nxt
              have fin : ∀ a : Option Int, a = (if (se = true ∧ ts = true) ∨ (se = false ∧ lw = .tell) then some (size : Int) else none) → ∀ t4, G4 t4 = none → ∃ a1 H4, V.ref ST = .ref a1 ∧ DPut (upd G4 t4 (.tup [.int ((i : Nat) : Int)])) a1 (.ref t4) (tldV a) H4 ∧ InvGh H t L ST b se wh sts (i + 1) [some (.ref t), some (.int (b : Int)), some (.bl se), some (.int (wh : Int)), some (.ref L), some (.ref ST), some (.ref D), some (.int (((N.pt cs [b]).getLastD 0 : Nat) : Int)), some (.int ((i : Nat) : Int)), some (.ref t2), some (.str (wordS se ts lw))] H4 := fun a ea t4 ht4 => by
                have g4 := of_upd (o := .tup [V.int ((i : Nat) : Int)]) ht4
                have nSD : D ≠ ST := fun z => by
                  rw [z, gS2] at gD2
                  cases gD2
                refine ⟨ST, _, rfl, DPut.t (k := pk [i]) (g4 _ _ (s4 _ _ gS2)) (by exact upd_same) l40, ?_⟩
                refine nxt D _ kvs _ _ _ _ (add_upd hST ((s3.trans s4).trans g4)) nD upd_same ?_ (by rw [upd_ne nSD]; exact g4 _ _ (s4 _ _ gD2)) sD (by omega)
                rw [← ea]
                exact tS.put (p := [i]) (a := a)
              refine iteF ?_
              refine ⟨_, rfl, rfl, _, rfl, ?_⟩
              rw [word_tell]
              by_cases c3 : (se = true ∧ ts = true) ∨ (se = false ∧ lw = .tell)
              · rw [decide_eq_true c3]
                exact iteT ⟨_, rfl, t2, _, _, _, rfl, rfl, SqT.of h23, z1, _, rfl, _, rfl, line2.2.2.1, fun t4 ht4 => fin (some (size : Int)) (by rw [if_pos c3]) t4 ht4⟩
              · rw [decide_eq_false c3]
                exact iteF ⟨_, rfl, _, rfl, line2.2.2.1, fun t4 ht4 => fin none (by rw [if_neg c3]) t4 ht4⟩
          refine ⟨_, rfl, _, rfl, ?_⟩
          cases se with
          | true => exact iteT ⟨_, rfl, t2, _, _, _, rfl, rfl, SqT.of h23, z2, k1 _ _ ⟨rfl, rfl⟩⟩
          | false => exact iteF ⟨_, rfl, t2, _, _, _, rfl, rfl, SqT.of h23, z3, k1 _ _ ⟨rfl, rfl⟩⟩
        · have c2 : ∀ x ∈ N.pt cs [b], x ≤ size - wh := fun x hx => by
            have c3 : ¬ (size : Int) - (wh : Int) < (m : Int) := fun z => c (decide_eq_true z)
            have := hall x hx
            omega
          have est := M.pt_still (se := se) (b := b) ckE hfs0 c2
          have eg : M.Step.ghost se wh (.road size ts lw) cs b = [] := by
            unfold M.Step.ghost
            rw [if_pos (.inr (List.any_eq_false.mpr fun x hx => by
              have := c2 x hx
              simp
              omega))]
          rw [eg, est] at nxt
          exact nxt D kst kvs G3 _ _ _ (s3.trans s4) nD (s4 _ _ gS2) (by rw [List.map_nil, List.append_nil]; exact tS) (s4 _ _ gD2) sD (by omega)
    · rintro σ G ⟨s2, D, kst, kvs, done, q8, q9, q10, rfl, nD, gS, tS, eq, gD, sD, lD⟩
      have eT : sts.take xs.length = sts := by rw [il, List.take_length]
      rw [il, List.drop_length] at eq
      rw [show M.Step.ghostAll se wh [] sts.length (M.chE se wh (sts.take sts.length) []) b = [] by unfold M.Step.ghostAll; rfl, List.append_nil] at eq
      rw [eT] at sD ⊢
      refine ⟨_, rfl, _, rfl, _, rfl, line2.2.1, fun t2 ht2 => ?_⟩
      have g2 := of_upd (o := .tup [V.ref ST, V.ref D, V.int (((N.pt (M.chE se wh sts []) [b]).getLastD 0 : Nat) : Int)]) ht2
      exact kk t2 ST D kst kvs _ (s2.trans g2) hST nD upd_same (g2 _ _ gS) (by rw [eq]; exact tS) (g2 _ _ gD) sD
end
end CP

end
section
set_option autoImplicit false
set_option Elab.async false
set_option linter.all false
set_option maxRecDepth 100000
set_option maxHeartbeats 4000000
/-! ## != of an own class that says only == -/
namespace WO
open PySem PySem.Spec PyProof.Rows L2
section
variable {prog : Program} {w : World} {A : Around} {E : Value → Shared → Prop} {s : Shared} {K : PySem.W.Frag} {x y C f : Addr} {ox : Obj} {od : Option Obj}
theorem bound_ne {M : Model} {args : List Value} {Q : Option Value → Shared → Prop} (X : K.In s.heap) (I : PySem.W.InstAt s.heap x ox C od) (hs : PySem.W.findIn K (.ref C) "__ne__" = some (some (.builtin "object.__ne__")))
    (h : wpAny M A (call (.builtin "object.__ne__") (.ref x :: args)) (fun v => Q (some v)) E s) : wpAny M A (callSpecialIfBound? (.ref x) "__ne__" args) Q E s := by
  simp only [callSpecialIfBound?, bindSpecialIfBound?]
  refine wpAny_holding (wpAny_bind (wpAny_bind (wpAny_bind (I.type.here ((PySem.W.looks_findIn X hs).here ?_)))))
  refine wpAny_bind (wpAny_askSetting (wpAny_ite ?_))
  have e : wpAny M A (call (.builtin "object.__ne__") ([.ref x] ++ args) >>= fun v => pure (some v)) Q E s := wpAny_bind (wpAny_mono h (fun v s' q => wpAny_pure q) fun _ _ q => q)
  split
  · exact wpAny_bind (wpAny_of_eq (F.cmp_object.ne.bind _) (wpAny_pure (by exact e)))
  · exact wpAny_tryCatch (wpAny_bind (wpAny_of_eq (F.cmp_object.ne.bind _) (wpAny_pure (by exact e))))
theorem entry_ne {Q : Fin → Shared → Prop} (hu : A.units < cLine) (X : K.In s.heap) (I : PySem.W.InstAt s.heap x ox C od) (he : PySem.W.findIn K (.ref C) "__eq__" = some (some (.ref f))) (hf : PySem.W.isFn K (.ref f) = true)
    (h : wpAny (model prog w) A (call (.ref f) [.ref x, .ref y]) (fun v s' => ∃ b, v = .bool b ∧ Q (.done (.ret (.bool (!b)))) s') E s) : wpAny (model prog w) A (Builtin.«object.__ne__» ⟨[.ref x, .ref y], []⟩) Q E s := by
  unfold Builtin.«object.__ne__»
  repeat (first
    | with_reducible refine wpAny_cRoomFor hu ?_
    | (refine wpAny_bind (m := callSpecialIfBound? (.ref x) (Str.ofString "__eq__") [.ref y]) (PySem.W.ifBound_K X I he hf (wpAny_mono h (fun r s' hr => by
          obtain ⟨b, rfl, hq⟩ := hr
          repeat (first | exact hq | exact wpAny_pure hq | exact wpAny_truthy_bool hq | (refine wpAny_bind (m := truthy (.bool _)) (wpAny_truthy_bool ?_)) | wp_step)) fun _ _ e => e)))
    | wp_step)
theorem rich_ne {Q : Value → Shared → Prop} (hu : A.units + 1 < cLine) (X : K.In s.heap) (I : PySem.W.InstAt s.heap x ox C od) (hy : PySem.W.Looks (model prog w) s.heap (typeOf (.ref y)) (.ref C)) (hm : PySem.W.mroIn K C (.type "object") = some true)
    (hs : PySem.W.findIn K (.ref C) "__ne__" = some (some (.builtin "object.__ne__"))) (he : PySem.W.findIn K (.ref C) "__eq__" = some (some (.ref f))) (hf : PySem.W.isFn K (.ref f) = true)
    (h : wpAny (model prog w) A.in1 (call (.ref f) [.ref x, .ref y]) (fun v s' => ∃ b, v = .bool b ∧ Q (.bool (!b)) s') E s) : wpAny (model prog w) A (richCompare .NotEq (.ref x) (.ref y)) Q E s := by
  have one : wpAny (model prog w) A (tryCompare (.ref x) "__ne__" (.ref y)) (fun r s' => ∃ v, r = some v ∧ Q v s') E s := by
    unfold tryCompare
    refine wpAny_bind (bound_ne X I hs (wpAny_call (codeAny_call_builtin F.cmp_object.ne.plain F.cmpEntry_ne (PySem.W.check_slot F.cmpKind_ne F.cmpSplit_ne (I.type.andThen (PySem.W.looks_mroIn X hm)) (F.cmpArgs_ne _ _)
      (entry_ne (A := A.in1) hu X I he hf (wpAny_mono h (fun v s' hv => ?_) fun _ _ e => e))))))
    obtain ⟨b, rfl, hq⟩ := hv
    exact ⟨b, rfl, wpAny_pure ⟨_, rfl, hq⟩⟩
  unfold richCompare
  simp only [oneThing_ref]
  refine wpAny_holding (wpAny_bind (wpAny_cRoomFor (Nat.lt_of_succ_lt hu) ?_))
  refine wpAny_bind (I.type.here (wpAny_bind (hy.here ?_)))
  split
  · rename_i q
    simp at q
  · refine wpAny_bind (wpAny_pure ?_)
    simp only [Bool.false_eq_true, if_false]
    refine wpAny_bind (wpAny_mono one (fun r s' z => ?_) fun _ _ e => e)
    obtain ⟨v, rfl, hq⟩ := z
    exact wpAny_pure hq
end
section
variable {X : Cx} {CX : CXT} {n : Nat} {C f : Addr} {fd : FuncData} {ps : List Str} {sp : Sp} {E : XK}
/-- != by the own __eq__ -/
def rNeO (C : Addr) (sp : Sp) (E : XK) : R2 := fun x y H Q => ∃ a b, x = .ref a ∧ y = .ref b ∧ InsC C H a ∧ InsC C H b ∧ sp [.ref a, .ref b] H (fun v H1 => ∃ c, v = .bl c ∧ Q (.bl (!c)) H1) E
theorem op_neO (F : FnOk X.prog X.w X.K X.mg X.base CX n f fd ps sp) (hr : Room (n + 1) X.A) (O : Own X.K C f "__eq__") (hm : PySem.W.mroIn X.K C (.type "object") = some true) (hs : PySem.W.findIn X.K (.ref C) "__ne__" = some (some (.builtin "object.__ne__")))
    (hb : Binds X.K fd ps []) (hx : Passes CX X E) : OpR X (compareOp .NotEq) (rNeO C sp E) := by
  intro pins s σ H x y v u Q I rx ry h
  obtain ⟨a, b, rfl, rfl, ⟨dx, fs, ha⟩, ⟨dy, gs, hb'⟩, hsp⟩ := h
  cases rx
  cases ry
  obtain ⟨_, J, _⟩ := ins_get I.hok ha
  obtain ⟨_, J', _⟩ := ins_get I.hok hb'
  obtain ⟨od, J, _⟩ := J.look
  obtain ⟨od', J', _⟩ := J'.look
  show wpAny (model X.prog X.w) X.A (richCompare .NotEq (.ref a) (.ref b)) (EP X pins σ Q) X.xe s
  refine rich_ne hr.in1.units0 I.kIn J J'.type hm hs O.at' O.fn (run_own F (A := X.A.in1) (xs := [.ref a, .ref b]) ⟨hr.in1, rfl⟩ hb hx I (.cons rfl (.cons rfl .nil)) hsp fun z u H1 s1 I1 rz q => ?_)
  obtain ⟨c, rfl, q⟩ := q
  cases rz
  exact ⟨c, rfl, .bl (!c), H1, I1, rfl, q⟩
end
end WO

end
section
set_option autoImplicit false
set_option Elab.async false
set_option linter.all false
set_option maxRecDepth 100000
set_option maxHeartbeats 4000000
/-! ## != of tuples whose items are equal, own objects among them -/
namespace NQ
open PySem PySem.Spec PyProof.Rows L2
open AutoSeq1 (wpAny_loadPart')
section
variable {prog : Program} {w : World} {A : Around} {R : Result → Shared → Prop}
theorem ne_run {a b : Addr} {ia ib : Array Value} {ka kb : Nat} {da db : Option Addr} {sa sb : Array (Option Value)} (sz : ia.size = ib.size) (J : Nat → Shared → Prop)
    (step : ∀ k (p : k < ia.size) (q : k < ib.size) t, J k t → wpAny (model prog w) A.in1 (eqBool ia[k] ib[k]) (fun r t' => r = true ∧ J (k + 1) t') (fun e t' => R (.error e) t') t)
    (stop : ∀ t, J ia.size t → R (.ok (.ret (.bool false))) t) {t : Shared} (ga : t.heap.get? a = some { cls := .type "tuple", dict := da, data := .seq ia ka, slots := sa })
    (gb : t.heap.get? b = some { cls := .type "tuple", dict := db, data := .seq ib kb, slots := sb }) (go : J 0 t) :
    wpAny (model prog w) A.in1 (Builtin.«tuple.__ne__» ⟨[.ref a, .ref b], []⟩) (GQ.FinOf prog w A R) (fun e t' => R (.error e) t') t := by
  have sub := AutoSeq1.sub_tuple_tuple
  have zl : (ia.toList.zip ib.toList).length = ia.size := by simp [sz]
  have go' := go
  obtain ⟨t1, t2, t3, t4, t5⟩ := t
  wp_walk using wpAny_loadPart' ga, wpAny_loadPart' gb, wpAny_forIn_list _ (fun more z t' => z.1 = none ∧ ∃ k, more = (ia.toList.zip ib.toList).drop k ∧ k ≤ ia.size ∧ J k t') _
  case turn =>
    rintro ⟨u, v⟩ more z t' ⟨hz, k, em, hk, hJ⟩
    have kl : k < (ia.toList.zip ib.toList).length := Nat.lt_of_not_le fun g => by
      rw [List.drop_of_length_le g] at em
      cases em
    have k1 : k < ia.size := zl ▸ kl
    have k2 : k < ib.size := sz ▸ k1
    rw [List.drop_eq_getElem_cons kl] at em
    injection em with e1 e2
    have eu : u = ia[k] := by simpa using congrArg Prod.fst e1
    have ev : v = ib[k] := by simpa using congrArg Prod.snd e1
    subst eu ev
    refine wpAny_bind (wpAny_mono (step k k1 k2 t' hJ) (fun r t2 q2 => ?_) fun _ _ x => x)
    obtain ⟨er, q2⟩ := q2
    subst er
    wp_walk
    exact ⟨rfl, k + 1, e2, k1, q2⟩
  case fin =>
    rintro ⟨z1, z2⟩ t' ⟨hz, k, em, hk, hJ⟩
    simp only at hz
    subst hz
    have kg : ia.size ≤ k := Nat.le_of_not_lt fun g => by
      rw [List.drop_eq_getElem_cons (zl.symm ▸ g)] at em
      cases em
    have ek : k = ia.size := Nat.le_antisymm hk kg
    have done := stop t' (ek ▸ hJ)
    wp_walk
    simpa [Builtin.Tuple.tupleCompareSizes, sz] using done
  case h =>
    exact ⟨rfl, 0, rfl, Nat.zero_le _, go'⟩
end
section
variable {prog : Program} {w : World} {A : Around} {E : Value → Shared → Prop} {t : Shared}
theorem rc_ne {a b : Addr} {ia ib : Array Value} {Q : Value → Shared → Prop} (sz : ia.size = ib.size) (hu : A.units < cLine) (J : Nat → Shared → Prop) (ta : t.heap.IsTuple a ia) (tb : t.heap.IsTuple b ib)
    (step : ∀ k (p : k < ia.size) (q : k < ib.size) t, J k t → wpAny (model prog w) A.in1 (eqBool ia[k] ib[k]) (fun r t' => r = true ∧ J (k + 1) t') E t)
    (stop : ∀ t, J ia.size t → Q (.bool false) t) (go : J 0 t) : wpAny (model prog w) A (richCompare .NotEq (.ref a) (.ref b)) Q E t := by
  obtain ⟨⟨ca, da, pa, sa⟩, ga, qa, na, va⟩ := id ta
  obtain ⟨⟨cb, db, pb, sb⟩, gb, qb, nb, vb⟩ := id tb
  simp only at qa va qb vb
  subst qa va qb vb
  refine wpAny_richCompare_same_room (op := .NotEq) ⟨_, ga, rfl⟩ ⟨_, gb, rfl⟩ F.slot_tuple_ne (GQ.call_here F.slot_tuple_ne ⟨_, ga, rfl⟩ F.entry_tuple_ne (F.args_tuple_ne_2 _ _) ?_) hu
  exact ne_run (R := wants (fun v t' => v ≠ .notImplemented ∧ Q v t') E) sz J step (fun t' q => ⟨(fun x => nomatch x), stop t' q⟩) ga gb go
end
section
variable {X : Cx} {n : Nat} {D : Eqv}
/-- x != y of tuples that are equal item by item -/
def rNeT (K : PySem.W.Frag) (D : Eqv) : R2 := fun x y H Q => DTup K D x y H ∧ ∀ H', Ext H H' → Q (.bl false) H'
theorem op_neT (hD : Mon D) (h : EqG X n D) (hr : Room (n + 1) X.A) : OpR X (compareOp .NotEq) (rNeT X.K D) := by
  intro pins s σ H x y v u Q I rx ry hq
  obtain ⟨⟨a, b, xs, ys, rfl, rfl, ha, hb, p⟩, q⟩ := hq
  cases rx
  cases ry
  obtain ⟨ia, ra, ea, -⟩ := I.tuple ha
  obtain ⟨ib, rb, eb, -⟩ := I.tuple hb
  have sz : ia.toArray.size = ib.toArray.size := by
    have := p.1
    rw [ra.length, rb.length] at this
    rw [List.size_toArray, List.size_toArray]
    exact this
  show wpAny (model X.prog X.w) X.A (richCompare .NotEq (.ref a) (.ref b)) (EP X pins σ Q) X.xe s
  refine rc_ne sz hr.units0 (fun _ t => LoopI X pins σ H t) ea eb (fun i h1 h2 t l => turnG hD h ⟨hr, rfl⟩ p ra rb i h1 h2 t l) (fun t l => ?_) ⟨H, I, Ext.rfl'⟩
  obtain ⟨H1, I1, x1⟩ := l
  exact ⟨.bl false, H1, I1, rfl, q H1 x1⟩
end
end NQ
namespace QK
open PySem PySem.Spec PyProof.Rows L2
section
variable {X : Cx} {CX : CXT} {k : Nat} {f : Addr} {fd : FuncData} {ps ks : List Str} {sp : Sp} {E : XK} {x : Str} {p pos : Pos} {kws : List Keyword} {tk : TA} {g : List Value → List Value → List Value} {gV : List V → List V → List V}
theorem pe_kall (F : FnOk X.prog X.w X.K X.mg X.base CX k f fd ps sp) (hr : Room k X.A) (hg : Gl X x) (hm : X.mg x = some (.ref f)) (hk : PySem.W.keepIn X.K (.ref f) = true) (hb : KBinds X.K fd ps ks g gV) (hx : Passes CX X E) (hkw : PK X kws tk)
    (hall : (backToKw pos (keywordEach kws X.env)).all (·.1.isSome) = true := by rfl) (hks : (backToKw pos (keywordEach kws X.env)).filterMap (·.1) = ks := by rfl) (hdb : (x == ("__debug__" : Str)) = false := by decide)
    (hpl : ((backTo pos (starEach [] X.env)).any (·.1) || (backToKw pos (keywordEach kws X.env)).any (·.1.isNone)) = false := by rfl) : PE X (.Call (.Name x p) [] kws pos) (tCallK sp gV E tNil tk) := ⟨fun pins s σ H Q I h =>
  wpAny_Call_Name_kw (ld_glob I hg hm (PySem.W.callWith_KW0 (h₀ := X.base) I.ok.mod.kin hk hall (thn (hkw.run pos pins s σ H _ I h) fun ws s2 ⟨zs, H2, I2, rz, q2⟩ => ⟨I2.kIn, by
    rw [hks]
    exact run_fnk (us := []) (vs := []) F hr hb hx I2 .nil rz q2⟩) hpl) hdb)⟩
end
end QK
namespace CP
open PySem L2 G Y
section
variable {α : Type}
def o3 : List α → List α
  | [l, n, c] => [c, n, l]
  | _ => []
def o1 : List α → List α
  | [l, c] => [c, l]
  | _ => []
def i1 : List α → List α
  | [c] => [c]
  | _ => []
def m2 (d : α) : List α → List α
  | [n, c] => [c, n, d]
  | _ => []
def m1 (d : α) : List α → List α
  | [c] => [c, d]
  | _ => []
def g0 (f : List α → List α) : List α → List α → List α
  | [], ws => f ws
  | _ :: _, _ => []
def g21 : List α → List α → List α
  | [a, b], [c] => [a, b, c]
  | _, _ => []
end
theorem rel0 {fV : List V → List V} {f : List Value → List Value} (h : ∀ {zs : List V} {ws : List Value}, Vals zs ws → Vals (fV zs) (f ws)) {vs : List V} {us : List Value} {zs : List V} {ws : List Value} (r : Vals vs us) (rz : Vals zs ws) : Vals (g0 fV vs zs) (g0 f us ws) := by
  cases r with
  | nil => exact h rz
  | cons _ _ => exact .nil
theorem rel21 {vs : List V} {us : List Value} {zs : List V} {ws : List Value} (r : Vals vs us) (rz : Vals zs ws) : Vals (g21 vs zs) (g21 us ws) := by
  cases r with
  | nil => exact .nil
  | cons r1 r => cases r with
    | nil => cases rz <;> exact .nil
    | cons r2 r => cases r with
      | nil => cases rz with
        | nil => exact .nil
        | cons z1 rz => cases rz with
          | nil => exact .cons r1 (.cons r2 (.cons z1 .nil))
          | cons _ _ => exact .nil
      | cons _ _ => cases rz <;> exact .nil
theorem r3 {zs : List V} {ws : List Value} (rz : Vals zs ws) : Vals (o3 zs) (o3 ws) := by
  cases rz with
  | nil => exact .nil
  | cons a rz => cases rz with
    | nil => exact .nil
    | cons b rz => cases rz with
      | nil => exact .nil
      | cons c rz => cases rz with
        | nil => exact .cons c (.cons b (.cons a .nil))
        | cons _ _ => exact .nil
theorem r1 {zs : List V} {ws : List Value} (rz : Vals zs ws) : Vals (o1 zs) (o1 ws) := by
  cases rz with
  | nil => exact .nil
  | cons a rz => cases rz with
    | nil => exact .nil
    | cons b rz => cases rz with
      | nil => exact .cons b (.cons a .nil)
      | cons _ _ => exact .nil
theorem ri {zs : List V} {ws : List Value} (rz : Vals zs ws) : Vals (i1 zs) (i1 ws) := by
  cases rz with
  | nil => exact .nil
  | cons a rz => cases rz with
    | nil => exact .cons a .nil
    | cons _ _ => exact .nil
theorem q2 {d : V} {e : Value} (rd : RelV d e) {zs : List V} {ws : List Value} (rz : Vals zs ws) : Vals (m2 d zs) (m2 e ws) := by
  cases rz with
  | nil => exact .nil
  | cons a rz => cases rz with
    | nil => exact .nil
    | cons b rz => cases rz with
      | nil => exact .cons b (.cons a (.cons rd .nil))
      | cons _ _ => exact .nil
theorem q1 {d : V} {e : Value} (rd : RelV d e) {zs : List V} {ws : List Value} (rz : Vals zs ws) : Vals (m1 d zs) (m1 e ws) := by
  cases rz with
  | nil => exact .nil
  | cons a rz => cases rz with
    | nil => exact .cons a (.cons rd .nil)
    | cons _ _ => exact .nil
abbrev sCEq : Stmt := inClass (S.top 20) 4
structure Cn2 (K : PySem.W.Frag) (C : Addr) : Prop where
  iA : PySem.W.findIn K (.ref C) "__class__" = some (some (.builtin "object.__class__"))
  iN : PySem.W.specialIn K (.builtin "object.__class__") "__get__" = some (some (.builtin "getset_descriptor.__get__"))
  iT : PySem.W.takesIn K (.builtin "object.__class__") = some true
  iM : PySem.W.mroIn K C (.type "object") = some true
  ne : PySem.W.findIn K (.ref C) "__ne__" = some (some (.builtin "object.__ne__"))
section
variable {P : Program} {w : World} {K : PySem.W.Frag} {mg : Str → Option Value} {base : Heap} {C CW : Addr}
/-- fate as it is called -/
structure DFa (P : Program) (w : World) (K : PySem.W.Frag) (mg : Str → Option Value) (base : Heap) (k : Nat) (sp : Sp) : Prop where
  ex : ∃ (f : Addr) (fd : FuncData), FnOk P w K mg base CX0 k f fd ["way", "body", "sealed"] sp ∧ mg "fate" = some (.ref f) ∧ PySem.W.keepIn K (.ref f) = true ∧ KBinds K fd ["way", "body", "sealed"] ["sealed"] g21 g21 ∧ KBinds K fd ["way", "body", "sealed"] ["sealed", "body", "way"] (g0 o3) (g0 o3) ∧ KBinds K fd ["way", "body", "sealed"] ["body", "way"] (g0 (m2 (.bool false))) (g0 (m2 (.bl false)))
structure DGa (P : Program) (w : World) (K : PySem.W.Frag) (mg : Str → Option Value) (base : Heap) (k : Nat) (sp : Sp) : Prop where
  ex : ∃ (f : Addr) (fd : FuncData), FnOk P w K mg base CX0 k f fd ["way", "sealed"] sp ∧ mg "gates" = some (.ref f) ∧ PySem.W.keepIn K (.ref f) = true ∧ KBinds K fd ["way", "sealed"] ["sealed"] g11 g11 ∧ KBinds K fd ["way", "sealed"] ["sealed", "way"] (g0 o1) (g0 o1) ∧ KBinds K fd ["way", "sealed"] ["way"] (g0 (m1 (.bool false))) (g0 (m1 (.bl false)))
structure DFm (P : Program) (w : World) (K : PySem.W.Frag) (mg : Str → Option Value) (base : Heap) (k : Nat) (sp : Sp) : Prop where
  ex : ∃ (f : Addr) (fd : FuncData), FnOk P w K mg base CX0 k f fd ["way", "upto"] sp ∧ mg "form" = some (.ref f) ∧ PySem.W.keepIn K (.ref f) = true ∧ KBinds K fd ["way", "upto"] ["upto"] g11 g11 ∧ KBinds K fd ["way", "upto"] ["upto", "way"] (g0 o1) (g0 o1) ∧ KBinds K fd ["way", "upto"] ["way"] (g0 (m1 .none)) (g0 (m1 .non))
structure DCo (P : Program) (w : World) (K : PySem.W.Frag) (mg : Str → Option Value) (base : Heap) (k : Nat) (sp : Sp) : Prop where
  ex : ∃ (f : Addr) (fd : FuncData), FnOk P w K mg base CX0 k f fd ["way"] sp ∧ mg "chain_of" = some (.ref f) ∧ PySem.W.keepIn K (.ref f) = true ∧ Binds K fd ["way"] [] ∧ KBinds K fd ["way"] ["way"] (g0 i1) (g0 i1)
/-! ### == of chains -/
theorem dp_ints' {H : Hp} : ∀ l : List Nat, DpAll K H (ni l) (l.map dI) := fun l => dp_ints l
def spCEq (C : Addr) : Sp := fun vs H Q _ => ∃ (a b : Addr) (l : List Nat), vs = [.ref a, .ref b] ∧ ChAt C H l a ∧ ChAt C H l b ∧ ∀ H', Same H H' → Q (.bl true) H'
theorem scEq : FnScope ["self", "other"] ["self", "other"] (defScope sCEq) := ⟨rfl, rfl, rfl, by decide +kernel, rfl, by decide +kernel, by decide +kernel⟩
end
end CP

end
section
set_option autoImplicit false
set_option Elab.async false
set_option linter.all false
set_option maxRecDepth 100000
set_option maxHeartbeats 4000000
/-! ## forms alike; a def called under guards -/
namespace G
open PySem PySem.Spec PyProof.Rows L2
section
variable {X : Cx} {CX : CXT} {k : Nat} {f : Addr} {fd : FuncData} {ps : List Str} {sp : Sp} {E : XK} {x : Str} {p pos : Pos} {e : Expr} {es : List Expr} {t : TA}
theorem go_fn {pins : List (Addr × Obj)} {σ : L2.St} {H : Hp} {s : Shared} {Q : VK} {us : List Value} {vs : List V} (hg : X.A.guards = some []) (F : Ok X.prog X.w X.K X.mg X.base CX k f fd ps sp) (hr : Room k X.A) (hb : Binds X.K fd ps [])
    (hx : Passes CX X E) (I : Inv X pins σ H s) (rv : Vals vs us) (h : sp vs H Q E) : wpAny (model X.prog X.w) X.A (call (.ref f) us) (EP X pins σ Q) X.xe s := by
  have b := hb s us I.kIn (by rw [List.append_nil, ← rv.length]; exact F.len _ _ _ _ h)
  rw [List.append_nil] at b
  refine wpAny_call (codeAny_mono (F.go X.A hg X.stack s H ⟨us, []⟩ us vs Q E hr I.env0 b rv h) ?_)
  intro r s' z
  match r, z with
  | .error e, z => exact hx pins σ H s e s' I z
  | .ok (.ret u), z => exact I.after z
  | .ok .next, z => exact z.elim
  | .ok .brk, z => exact z.elim
  | .ok .cont, z => exact z.elim
theorem pe_callG (hgu : X.A.guards = some []) (F : Ok X.prog X.w X.K X.mg X.base CX k f fd ps sp) (hr : Room k X.A) (hl : Gl X x) (hm : X.mg x = some (.ref f)) (hk : PySem.W.keepIn X.K (.ref f) = true) (hb : Binds X.K fd ps []) (hx : Passes CX X E)
    (ha : PA X (e :: es) t) (hdb : (x == ("__debug__" : Str)) = false := by decide) (he : starEach (e :: es) X.env = (false, eval e X.env) :: starEach es X.env := by rfl) (hpl : (backTo pos (starEach es X.env)).any (·.1) = false := by rfl) :
    PE X (.Call (.Name x p) (e :: es) [] pos) (tCall sp [] E t) := ⟨fun pins s σ H Q I h =>
  wpAny_Call_Name_kw (ld_glob I hl hm (PySem.W.callWith_K (h₀ := X.base) I.ok.mod.kin hk (thn (ha.run pos pins s σ H _ I h) fun us s1 ⟨vs, H1, I1, r, q⟩ => ⟨I1.kIn,
    go_fn hgu F hr hb hx I1 r ((congrArg (fun z => sp z H1 Q E) (List.append_nil vs)).mp q)⟩) he hpl) hdb)⟩
end
structure Du (P : Program) (w : World) (K : PySem.W.Frag) (mg : Str → Option Value) (base : Heap) (k : Nat) (x : Str) (ps : List Str) (sp : Sp) : Prop where
  ex : ∃ (f : Addr) (fd : FuncData), Ok P w K mg base CX0 k f fd ps sp ∧ mg x = some (.ref f) ∧ PySem.W.keepIn K (.ref f) = true ∧ Binds K fd ps []
end G
namespace CP
open PySem L2 G Y
structure Oe (P : Program) (w : World) (K : PySem.W.Frag) (mg : Str → Option Value) (base : Heap) (C : Addr) (k : Nat) (m : Str) (ps : List Str) (sp : Sp) : Prop where
  ex : ∃ (f : Addr) (fd : FuncData), FnOk P w K mg base CX0 k f fd ps sp ∧ WO.Own K C f m ∧ Binds K fd ps []
end CP

end
section
set_option autoImplicit false
set_option Elab.async false
set_option linter.all false
set_option maxRecDepth 100000
set_option maxHeartbeats 4000000
/-! ## _law_fate, _law_end -/
namespace CP
open PySem L2 G Y
abbrev sLFate : Stmt := S.top 68
theorem ans_tld (a : Option Int) : tldV a = ansV a := by cases a <;> rfl
/-- what becomes of a letter, told by its first gate; c is what follows «comes» -/
def EndAt (H : Hp) (c : List V) : Option M.Gate → V → Prop
  | some g, v => ∃ t q, v = .ref t ∧ H q = some (.tup (ni g.place)) ∧ H t = some (.tup (match g.ans with
    | some z => [.str "told", .int z, .ref q]
    | none => [.str "silent", .ref q]))
  | none, v => ∃ t, v = .ref t ∧ H t = some (.tup (.str "comes" :: c))
theorem EndAt.keep {H H' : Hp} (s : KeepT H H') {c : List V} : ∀ {o : Option M.Gate} {v : V}, EndAt H c o v → EndAt H' c o v
  | some g, v, ⟨t, q, e, h1, h2⟩ => ⟨t, q, e, s.tup h1, s.tup h2⟩
  | none, v, ⟨t, e, h1⟩ => ⟨t, e, s.tup h1⟩
section
variable {P : Program} {w : World} {K : PySem.W.Frag} {mg : Str → Option Value} {base : Heap} {C CW : Addr}
def spLFate (n : Nat) : Sp := fun vs H Q _ => ∃ (v : V) (wy : M.Way) (b : Nat) (se : Bool), vs = [v, .int (b : Int), .bl se] ∧ PlanAt H wy v ∧ M.Way.fine wy ∧ wy.depth ≤ n ∧ b + 40 * n ≤ 1900000000000000000 ∧
  ∀ u H', Same H H' → EndAt H' [.int ((N.PC (M.chE se wy.head wy.steps []) b : Nat) : Int), .int (((N.pt (M.chE se wy.head wy.steps []) [b]).getLastD 0 : Nat) : Int)] (M.firstG (M.Way.gates se wy) b) u → Q u H'
abbrev NLf : List Str := ["plan", "body", "kind", "stops", "sizes", "last", "place"]
theorem scLf : FnScope NLf ["plan", "body", "kind"] (defScope sLFate) := ⟨rfl, rfl, rfl, by decide +kernel, rfl, by decide +kernel, by decide +kernel⟩
theorem ok_lfate {k n : Nat} {f : Addr} {fd : FuncData} (F : Fun K "_law_fate" "_law_fate" sLFate f fd) (B : Bn mg) (hsum : mg "sum" = none) (DG : Df P w K mg base k "_law_ghost" ["plan", "body", "kind"] (spGhost n)) (DP : Df P w K mg base k "_law_places" ["plan"] (spPlaces n)) : FnOk P w K mg base CX0 (k + 1) f fd ["plan", "body", "kind"] (spLFate n) := by
  obtain ⟨fG, fdG, GG, gG, kG, bG⟩ := DG.ex
  obtain ⟨fP, fdP, GP, gP, kP, bP⟩ := DP.ex
  refine F.ok scLf (fun vs H Q E h => ?_) (fun cdv A outer s H vs Q E hr h => ?_)
  · obtain ⟨v, wy, b, se, rfl, _⟩ := h
    rfl
  · obtain ⟨v, wy, b, se, rfl, hp, hf, hd, hb, kk⟩ := h
    refine ⟨_, pss_cons (ps_asg (pe_call GG (hr.mono (by omega)) rfl gG kG bG .nil pass0 (pa_cons (pv 0) (pa_cons (pv 1) (pa_cons (pv 2) pa_nil)))) (pg_tup (by rfl) (pgs_cons (pg_name (i := 3) scLf.nd rfl (Or.inl rfl)) (pgs_cons (pg_name (i := 4) scLf.nd rfl (Or.inl rfl)) (pgs_cons (pg_name (i := 5) scLf.nd rfl (Or.inl rfl)) pgs_nil)))))
      (pss_cons (ps_for PassesOwn.never rfl (pi_list (pe_call GP (hr.mono (by omega)) rfl gP kP bP .nil pass0 (pa_cons (pv 0) pa_nil))) (pg_name (i := 6) scLf.nd rfl (Or.inl rfl)) (pss_one (ps_if (pt_cmp (pc_din (hu_of hr) (pv 6) (pv 3))) (pss_one (ps_ret (pe_ifExp (pt_cmp (pc_isN (pe_dget (hu_of hr) (pv 3) (pv 6) (fun _ _ => rfl)))) (pe_tup (pa_cons (pe_str) (pa_cons (pv 6) pa_nil))) (pe_tup (pa_cons (pe_str) (pa_cons (pe_dget (hu_of hr) (pv 3) (pv 6) (fun _ _ => rfl)) (pa_cons (pv 6) pa_nil))))))) (pss_nil))))
      (pss_one (ps_ret (pe_tup (pa_cons (pe_str) (pa_cons (pe_callB (cr_sum rfl) (by rfl) hsum (by decide +kernel) (pa_cons (LV.pe_listVals rfl (pv 4) (by rfl) B.list (by decide +kernel)) pa_nil)) (pa_cons (pv 5) pa_nil))))))), ?_⟩
    have ckE : M.Ck (M.chE se wy.head wy.steps []) := M.ck_E hf
    refine ⟨_, rfl, _, rfl, _, rfl, v, wy, b, se, rfl, hp, hf, hd, hb, fun t ST D kst kvs H1 s1 nST nD ht hST tST hD szD => ?_⟩
    refine ⟨t, _, rfl, SqT.of ht, rfl, _, _, rfl, _, _, rfl, _, _, rfl, rfl, ?_⟩
    dsimp only
    refine ⟨_, rfl, v, wy, rfl, hp.keep (same_keepT s1), hf, hd, fun E1 zs G2 s2 nE eE lE => ?_⟩
    have s12 := s1.trans s2
    have lz := lE.len
    refine ⟨E1, rfl, ⟨_, SqL.of eE⟩, ?_⟩
    refine for_it walk_list (fun j σ G => Same G2 G ∧ (∃ q6, σ = [some v, some (.int (b : Int)), some (.bl se), some (.ref ST), some (.ref D), some (.int (((N.pt (M.chE se wy.head wy.steps []) [b]).getLastD 0 : Nat) : Int)), q6]) ∧ ∀ p ∈ (M.Way.places wy).take j, valV kst (pk p) = none)
      ⟨Same.refl _, ⟨_, rfl⟩, fun p hp => by cases hp⟩ (fun j σ G _ z => SqL.of (z.1 _ _ eE)) ?_ ?_
    · rintro j x σ G0 G hj ⟨s3, ⟨q6, rfl⟩, hn⟩ ⟨rfl, hx⟩
      obtain ⟨p, tp, hp1, rfl, ep⟩ := lE.get hx
      have ep3 := s3 _ _ ep
      have hST3 := s3 _ _ (s2 _ _ hST)
      refine ⟨_, rfl, _, rfl, ST, _, rfl, DGet.t (k := pk p) hST3 (by rw [pk_ni]; exact ep3), _, rfl, ?_⟩
      cases e : valV kst (pk p) with
      | none =>
        refine iteF ⟨s3, ⟨_, rfl⟩, fun r hr => ?_⟩
        rw [take_snoc hp1] at hr
        rcases List.mem_append.mp hr with q | q
        · exact hn r q
        · rw [List.mem_singleton.mp q]
          exact e
      | some y =>
        obtain ⟨a, rfl, ma⟩ := tST.got p y e
        obtain ⟨g, hg, e1, e2, e3⟩ := (M.Way.ghost_gates se wy hf b _).mp ma
        have e1 : g.place = p := e1
        have e2 : g.ans = a := e2
        subst e1
        have hfirst := M.first_place e3 (M.Way.gates_sub se wy) (M.Way.places_nodup wy).1 hg hp1 fun k hk hkp hb2 => by
          have := tST.at_gate hf hk
          rw [if_pos hb2, hn _ hkp] at this
          cases this
        rw [hfirst] at kk
        have dgt : DGet G ST (.ref tp) (some (tldV a)) := .inr ⟨kst, pk g.place, tp, .inl hST3, rfl, by rw [pk_ni]; exact ep3, e.symm⟩
        refine iteT ?_
        refine ⟨_, rfl, _, rfl, ST, _, rfl, dgt, _, rfl, ?_⟩
        have s123 := s12.trans s3
        cases a with
        | none =>
          refine iteP rfl ⟨_, rfl, line2.1, fun t5 ht5 => kk _ _ (s123.trans (of_upd ht5)) ⟨t5, tp, rfl, of_upd ht5 _ _ ep3, ?_⟩⟩
          rw [e2]
          exact upd_same
        | some z =>
          refine iteN (fun h => by cases h) ⟨_, rfl, _, rfl, ST, _, rfl, dgt, _, rfl, line2.2.1, fun t5 ht5 => kk _ _ (s123.trans (of_upd ht5)) ⟨t5, tp, rfl, of_upd ht5 _ _ ep3, ?_⟩⟩
          rw [e2]
          exact upd_same
    · rintro σ G ⟨s3, ⟨q6, rfl⟩, hn⟩
      rw [lz, List.take_length] at hn
      have hfirst : M.firstG (M.Way.gates se wy) b = none := M.first_none fun g hg hb2 => by
        have := tST.at_gate hf hg
        rw [if_pos hb2, hn _ ((M.Way.gates_sub se wy).subset (List.mem_map.mpr ⟨g, hg, rfl⟩))] at this
        cases this
      rw [hfirst] at kk
      have hD3 := s3 _ _ (s2 _ _ hD)
      show tCB (rSum K) (tCons (LV.tListVals (tVar 4)) tNil) _ _ _
      refine sum_vals_at (fun R h => ⟨_, rfl, h⟩) hD3 szD fun G4 s4 => ?_
      rw [N.pt_PC ckE.fall]
      refine ⟨_, rfl, line2.2.1, fun t5 ht5 => kk _ _ ((s12.trans (s3.trans s4)).trans (of_upd ht5)) ⟨t5, rfl, upd_same⟩⟩
end
end CP

end
section
set_option Elab.async false
set_option linter.all false
set_option maxRecDepth 100000
set_option maxHeartbeats 4000000
/-! ## an own error as a plain value: made by place or by name, its field read, isinstance of it -/
namespace PySem.W
open PySem PySem.Spec PySem.Calls PyProof.Rows
section
variable {prog : Program} {w : World} {A : Around} {E : Value → Shared → Prop} {s : Shared} {K : Frag} {x D : Addr} {ox : Obj} {od : Option Obj}
theorem g_findData {name : Str} {a g : Value} (hc : (clsIn K D).isSome = true) (ha : findIn K (.ref D) name = some (some a)) (hg : specialIn K a "__get__" = some (some g)) (ht : takesIn K a = some true) : findObj K D od name = some (.bind g a) := by
  cases e : clsIn K D with
  | none => rw [e] at hc; cases hc
  | some cd => unfold findObj; rw [e, Option.bind_some, ha, Option.bind_some]; simp [hg, ht]
/-- x.__class__, x an error that may have a dict of its own -/
theorem g_class {Q : Option Value → Shared → Prop} (F : L2.ExcC K D) (X : K.In s.heap) (I : InstAt s.heap x ox D od) (h : Q (some (.ref D)) { s with toks := s.toks + 1 }) : wpAny (model prog w) A (getAttr? (.ref x) "__class__") Q E s := by
  have cls : (clsIn K D).isSome = true := by obtain ⟨cd, hc, _⟩ := any_some F.hd; rw [hc]; rfl
  have found := g_findData (od := od) cls F.ha F.hn F.ht
  obtain ⟨hp, g, d, t, os⟩ := s
  have ty := I.type (M := model prog w)
  have look := looks_find (M := model prog w) X I found
  have base : Looks (model prog w) hp (isInstance (.ref x) (.type "BaseException")) true := ty.andThen (looks_subIn X F.hs)
  have other : (Value.builtin "BaseException.__getattribute__" == Value.builtin "object.__getattribute__") = false := by decide +kernel
  unfold getAttr? getAttrBy? getAttrBy
  refine wpAny_bind (wpAny_mkText (wpAny_bind (wpAny_attempt (wpAny_holding (wpAny_bind (ty.at (wpAny_bind ((looks_findIn (M := model prog w) X F.hg).at ?_))))))))
  show wpAny _ _ (if (true && Value.builtin "BaseException.__getattribute__" == Value.builtin "object.__getattribute__") = true then _ else _) _ _ _
  rw [other, Bool.and_false, if_neg Bool.false_ne_true]
  unfold getAttrByItsOwn hookBefore
  refine wpAny_bind (?_ : wpAny _ _ _ _ _ _); rw [if_pos (show onTheHeap (Value.ref D) = true from rfl)]
  refine (looks_findIn (M := model prog w) X F.hk).at (wpAny_bind (wpAny_attempt (wpAny_holding ?_)))
  unfold callGetattribute; rw [if_neg (show ¬ (false && onTheHeap (Value.builtin "BaseException.__getattribute__")) = true from Bool.false_ne_true)]
  unfold boundAndCalled; rw [PySem.F.excAttr_ValueError.ga.bind (.ref x)]
  refine wpAny_bind (wpAny_pure (?_ : wpAny _ _ (call (.builtin "BaseException.__getattribute__") [.ref x, .str "__class__" t]) _ _ _))
  refine wpAny_call (codeAny_call_builtin PySem.F.excAttr_ValueError.ga.plain PySem.F.entry_bexc_ga (@check_slot (model prog w) _ _ ⟨hp, g, d, t + 1, os⟩ "BaseException.__getattribute__" "BaseException" "__getattribute__" (.ref x) [.str "__class__" t] [] _ (by decide +kernel) (by decide +kernel) base (PySem.F.args_bexc_ga (.ref x) (.str "__class__" t)) ?_))
  unfold Builtin.«object.__getattribute__»
  refine wpAny_bind (wpAny_of_eq (a := ((Value.ref x : Value), [Value.str "__class__" t])) (by first | rfl | (simp only [slotArgs]; rfl)) (wpAny_bind (wpAny_pure (wpAny_bind (ty.at (wpAny_bind (look.at ?_)))))))
  refine (?_ : wpAny _ _ (holding [Value.builtin "object.__class__"] (call (.builtin "getset_descriptor.__get__") [.builtin "object.__class__", .ref x, .ref D]) >>= ret) _ _ _)
  refine wpAny_bind (wpAny_holding (wpAny_call (class_get (s := ⟨hp, g, d, t + 1, os⟩) (ox := ox) (od := od) X I F.hm (wpAny_pure (?_ : wpAny _ _ (handedOut (.ref D)) _ _ _)))))
  rw [handedOut_of (v := .ref D) rfl]
  first | exact wpAny_pure (wpAny_pure h) | exact wpAny_pure h | exact wpAny_pure (wpAny_bind (wpAny_pure (wpAny_pure h)))
theorem g_kit (F : L2.ExcC K D) : KitX K (.ref x) (.ref D) (fun h => InstAt h x ox D od) := by
  have there : ∃ o, K.lookup D = some o ∧ ∃ cd, o.data = .cls cd := by
    obtain ⟨cd, hc, _⟩ := any_some F.hd
    unfold clsIn at hc
    split at hc
    · rename_i o; exact ⟨_, o, _, rfl⟩
    · cases hc
  obtain ⟨⟨oc, odd, odata, osl⟩, hk, cd, hcd⟩ := there
  cases (hcd : odata = _)
  refine { ty := fun _ _ _ I => I.type, it := ?_, ne := ?_, ca := fun X I k => g_class F X I k }
  · intro M h X _ A' Q' E' s' k q
    unfold isType loadHead
    exact wpAny_bind (wpAny_loadPart (k _ _ (X _ _ hk)) (wpAny_pure q))
  · intro h tp dd its n sl X htp
    refine Bool.eq_false_iff.mpr fun q => ?_
    have e : D = tp := Value.ref.inj (beq_iff_eq.mp q)
    rw [← e, X _ _ hk] at htp
    cases htp
end
end PySem.W
namespace G
open PySem PySem.Spec PyProof.Rows L2
/-- at e: an error of the class at C whose field f is v -/
def Er (H : Hp) (e C : Addr) (f : Str) (v : V) : Prop := ∃ dx, H e = some (exo e C (some dx)) ∧ H dx = some (exd dx [(f, v)])
/-- what the written part tells of such a class -/
structure Cl (K : PySem.W.Frag) (C : Addr) (f : Str) : Prop where
  T : OexC K C
  F : ExcC K C
  no : PySem.W.findIn K (.ref C) f = some none
section
variable {X : Cx} {C D e : Addr} {f : Str} {v : V} {te : TE} {ex : Expr} {pos : Pos}
theorem er_inst {pins : List (Addr × Obj)} {σ : L2.St} {H : Hp} {s : Shared} (I : Inv X pins σ H s) (h : Er H e C f v) : ∃ (oe : Obj) (od : Obj) (u : Value), PySem.W.InstAt s.heap e oe C (some od) ∧ RelV v u ∧ PySem.W.lookIn f od = some (some u) := by
  obtain ⟨dx, h1, h2⟩ := h
  obtain ⟨t1, ho⟩ := exo_at I.hok h1
  obtain ⟨mA, hns, rel⟩ := exd_at I.hok h2
  obtain ⟨od, hod, hl⟩ := lookIn_ns hns
  have l : List.lookup f [(f, v)] = some v := by simp [List.lookup]
  obtain ⟨u, hu, ru⟩ := RelO.some_of (v := v) (o := mA f) (by rw [← l]; exact rel f)
  exact ⟨_, od, u, ⟨ho, rfl, by unfold PySem.W.notCls; rfl, hod⟩, ru, by rw [hl, hu]⟩
/-- isinstance(e, c) -/
def rIsEr (K : PySem.W.Frag) : List V → Hp → VK → Prop := fun xs H Q => ∃ (e C : Addr) (f : Str) (v c : V) (u : Value) (b : Bool), xs = [.ref e, c] ∧ Er H e C f v ∧ ExcC K C ∧ ClsV c u ∧ PySem.W.kitOne K (.ref C) u = some b ∧ Q (.bl b) H
theorem call_isEr : CallR X (.builtin "isinstance") (rIsEr X.K) := by
  intro pins s σ H xs us Q I r h
  obtain ⟨e, C, f, v, c, u, b, rfl, he, F, k, hb, q⟩ := h
  cases r with
  | cons rx rr =>
    cases rr with
    | cons rt rr =>
      cases rr
      cases rx
      cases k.eq rt
      obtain ⟨oe, od, _, J, _, _⟩ := er_inst I he
      exact PySem.W.kia_one (PySem.W.g_kit F) I.kIn J hb (fun z => nomatch z) fun tk => ⟨.bl b, H, I.tok tk, rfl, q⟩
/-- e.f -/
def tErF (K : PySem.W.Frag) (f : Str) (te : TE) : TE := fun σ H Q => te σ H fun x H1 => ∃ (e C : Addr) (v : V), x = .ref e ∧ Er H1 e C f v ∧ Cl K C f ∧ Q v H1
theorem pe_erF (he : PE X ex te) (hb : attributeBase ex f X.env (eval ex X.env) = eval ex X.env := by rfl) : PE X (.Attribute ex f pos) (tErF X.K f te) := by
  refine ⟨fun pins s σ H Q I h => attr_of hb (thn (he.run pins s σ H _ I h) fun u s1 hh => ?_)⟩
  obtain ⟨x, H1, I1, rx, e, C, v, rfl, hE, L, q⟩ := hh
  cases rx
  obtain ⟨oe, od, u, J, ru, lk⟩ := er_inst I1 hE
  exact HandSPX.exc_get I1.kIn J L.F.hg L.F.hk L.F.hs (PySem.W.findObj_own L.F.hd L.no rfl lk) (handed_of ru) ⟨v, H1, I1.tok _, ru, q⟩
end
end G

end
section
set_option Elab.async false
set_option linter.all false
set_option maxRecDepth 100000
set_option maxHeartbeats 4000000
/-! ## an own error made by a call with any arguments: its own __init__ is called with the same ones -/
namespace PySem.HandSPX
open PySem PySem.Spec PySem.Calls PyProof.Rows PySem.W
section
variable {prog : Program} {w : World} {A : Around} {E : Value → Shared → Prop} {R : Result → Shared → Prop} {h : Heap} {g : Array GenState} {d : Drawn} {t : Nat} {os : OsState}
variable {nm q : Str} {C N fI : Addr} {bs bm : List Value} {hdct : Bool} {sn : List Str} {sub : List Value} {ab : Bool} {col : Option Bool} {dd : Option Addr} {k0 k1 k2 k3 k5 : Option Value} {rest : List Value} {kw : List (Str × Value)}
/-- the class, made by ValueError's __new__ -/
abbrev veC (nm q : Str) (C N : Addr) (bs bm : List Value) (hdct : Bool) (sn : List Str) (sub : List Value) (ab : Bool) (col : Option Bool) (dd : Option Addr) (k0 k1 k2 k3 k5 : Option Value) : Obj := excClassObj nm q C N bs bm hdct sn sub ab col dd k0 k1 k2 k3 k5 "ValueError.__new__"
theorem g_has (hm : refsVE bm = true) (B : String) : (Value.ref C :: bm).contains (.type B) = veTail.contains (.type B) := by
  rw [List.contains_cons, refsVE_contains B bm hm]
  rfl
theorem g_check_new {M : Model} {Q : Unit → Shared → Prop} (hm : refsVE bm = true) (hC : h.get? C = some (veC nm q C N bs bm hdct sn sub ab col dd k0 k1 k2 k3 k5)) (hq : Q () ⟨h, g, d, t, os⟩) :
    wpAny M A (checkBuiltinCall "ValueError.__new__" ⟨.ref C :: rest, kw⟩) Q E ⟨h, g, d, t, os⟩ := by
  have F := PySem.F.excBase_ValueError
  have mine : (Value.ref C :: bm).contains (.type "ValueError") = true := (g_has hm _).trans (by decide +kernel)
  have star := F.noStar
  simp only [checkBuiltinCall, F.newKind, F.newSplit, F.newRow]
  repeat (first
    | (refine wpAny_loadPart_at hC ?_)
    | (refine wpAny_isSubtype_exc hC ?_; rw [mine])
    | (refine wpAny_staticBase_exc hC ?_)
    | (refine wpAny_madeBy_exc hC ?_)
    | (simp only [bne_self_eq_false, Bool.false_eq_true, if_false])
    | wp_step)
  all_goals first | exact hq | trace_state
theorem g_new (hm : refsVE bm = true) (hC : h.get? C = some (veC nm q C N bs bm hdct sn sub ab col dd k0 k1 k2 k3 k5)) (hz : rest.length ≤ sizeLine)
    (hq : R (.ok (.ret (.ref (h.objs.size + 1)))) ⟨(h.push (W.kdv_tup rest)).push (excO C h.objs.size), g, d, t, os⟩) : codeAny (model prog w) A (.builtin "ValueError.__new__" ⟨.ref C :: rest, kw⟩) R ⟨h, g, d, t, os⟩ := by
  have F := PySem.F.excBase_ValueError
  have ends := F.ends
  have mine : (Value.ref C :: bm).contains (.type "ValueError") = true := (g_has hm _).trans (by decide +kernel)
  have noA : (Value.ref C :: bm).contains (.type "AttributeError") = false := (g_has hm _).trans (by decide +kernel)
  have noN : (Value.ref C :: bm).contains (.type "NameError") = false := (g_has hm _).trans (by decide +kernel)
  refine codeAny_builtinAt F.entry ?_
  unfold Builtin.«BaseException.__new__»
  refine wpAt_bind (?_ : wpAt _ _ _ (stack >>= _) _ _ _)
  refine wpAt_bind (wpAt_stack fun p below => wpAt_of_wpAny ?_)
  wp_walk
  refine wpAt_of_wpAny ?_
  rw [F.owner]
  repeat (first
    | (with_reducible refine wpAny_madeHere_exc F.canon hC ?_)
    | (with_reducible refine wpAny_loadPart_at hC ?_)
    | (with_reducible refine wpAny_isSubtype_exc hC ?_; first | rw [mine] | rw [noA] | rw [noN])
    | wp_step)
  refine (?_ : R _ _)
  rw [Heap.size_push]
  exact hq
theorem g_type_call {Q : Fin → Shared → Prop} (hm : refsVE bm = true) (hC : h.get? C = some (veC nm q C N bs bm hdct sn sub ab col dd k0 k1 k2 k3 k5)) (hi : W.Looks (model prog w) h (typeLookup (.ref C) "__init__") (some (.ref fI)))
    (hb : ∀ self, W.Looks (model prog w) h (bindSpecial (.ref fI) self) (.ref fI, [self])) (hz : rest.length ≤ sizeLine)
    (hq : codeAny (model prog w) A (.call (.ref fI) ⟨.ref (h.objs.size + 1) :: rest, kw⟩) (fun r s' => match r with | .ok (.ret v) => v = .none ∧ Q (.done (.ret (.ref (h.objs.size + 1)))) s' | .ok _ => False | .error e => E e s')
      ⟨(h.push (W.kdv_tup rest)).push (excO C h.objs.size), g, d, t, os⟩) : wpAny (model prog w) A (Builtin.«type.__call__» ⟨.ref C :: rest, kw⟩) Q E ⟨h, g, d, t, os⟩ := by
  have F := PySem.F.excBase_ValueError
  repeat (first
    | (with_reducible refine wpAny_loadPart_at hC ?_)
    | (with_reducible refine wpAny_madeBy_exc hC ?_)
    | wp_step)
  refine codeAny_call_builtin_code (Code.quiet_builtin _ F.quiet) (g_check_new hm hC (g_new hm hC hz ?_))
  refine (?_ : wpAny _ _ _ _ _ _)
  have keep : ∀ b o, h.get? b = some o → ((h.push (W.kdv_tup rest)).push (excO C h.objs.size)).get? b = some o := fun b o e => Heap.get?_push_of_some _ (Heap.get?_push_of_some _ e)
  have hC₁ := keep _ _ hC
  have new : ((h.push (W.kdv_tup rest)).push (excO C h.objs.size)).get? (h.objs.size + 1) = some (excO C h.objs.size) := by heap_get
  have self : (Value.ref C :: bm).contains (.ref C) = true := by simp
  unfold isInstance
  repeat (first
    | (with_reducible refine wpAny_loadPart_at new ?_)
    | (with_reducible refine wpAny_isSubtype_exc hC₁ ?_; rw [self])
    | wp_step)
  refine (?_ : wpAny _ _ (typeLookup (.ref C) _) _ _ _)
  refine (hi.keeps keep).at (wpAny_holding (wpAny_bind (((hb (.ref (h.objs.size + 1))).keeps keep).at ?_)))
  refine wpAny_bind (wpAny_call (codeAny_mono hq ?_))
  intro r s' z
  rcases r with e | fl
  · exact z
  · cases fl with
    | ret v =>
      obtain ⟨ev, z'⟩ := z
      subst ev
      first | exact wpAny_pure (wpAny_pure z') | (wp_walk; exact z')
    | next => exact z.elim
    | brk => exact z.elim
    | cont => exact z.elim
theorem g_check_type {M : Model} {Q : Unit → Shared → Prop} (hC : h.get? C = some (veC nm q C N bs bm hdct sn sub ab col dd k0 k1 k2 k3 k5)) (hq : Q () ⟨h, g, d, t, os⟩) : wpAny M A (checkBuiltinCall "type.__call__" ⟨.ref C :: rest, kw⟩) Q E ⟨h, g, d, t, os⟩ := by
  have f3 := tc_sub
  have isT : (⟨h, g, d, t, os⟩ : Shared).TypeIs (.ref C) "type" := ⟨_, hC, rfl⟩
  simp only [checkBuiltinCall, tc_kind, tc_split]
  repeat (any_goals (first
    | assumption
    | (with_reducible refine wpAny_loadPart_at hC ?_)
    | (with_reducible refine wpAny_onRaise ?_)
    | (with_reducible refine wpAny_map ?_)
    | wp_step))
theorem g_call (hm : refsVE bm = true) (hC : h.get? C = some (veC nm q C N bs bm hdct sn sub ab col dd k0 k1 k2 k3 k5)) (hi : W.Looks (model prog w) h (typeLookup (.ref C) "__init__") (some (.ref fI)))
    (hb : ∀ self, W.Looks (model prog w) h (bindSpecial (.ref fI) self) (.ref fI, [self])) (hz : rest.length ≤ sizeLine)
    (hq : codeAny (model prog w) (A.under (.builtin "type.__call__" ⟨.ref C :: rest, kw⟩)) (.call (.ref fI) ⟨.ref (h.objs.size + 1) :: rest, kw⟩) (W.InitBack (h.objs.size + 1) R) ⟨(h.push (W.kdv_tup rest)).push (excO C h.objs.size), g, d, t, os⟩) :
    codeAny (model prog w) A (.call (.ref C) ⟨rest, kw⟩) R ⟨h, g, d, t, os⟩ := by
  have f1 := tc_lookup
  have f2 := tc_bind (.ref C)
  have isT : (⟨h, g, d, t, os⟩ : Shared).TypeIs (.ref C) "type" := ⟨_, hC, rfl⟩
  refine codeAny_of_tree (?_ : wpAny _ _ (callAny (.ref C) _) _ _ _)
  repeat (any_goals (first
    | assumption
    | (with_reducible refine wpAny_loadPart_at hC ?_)
    | wp_step))
  refine ⟨rfl, codeAny_call_builtin_at (Code.quiet_builtin _ (by decide +kernel)) entry_typeCall (g_check_type hC (g_type_call hm hC hi hb hz (codeAny_mono hq ?_)))⟩
  rintro (e | (v | _ | _ | _)) s' z <;> exact z
end
end PySem.HandSPX

end
section
set_option Elab.async false
set_option linter.all false
set_option maxRecDepth 100000
set_option maxHeartbeats 4000000
/-! ## C(v) and C(f=v) as values -/
namespace G
open PySem PySem.Spec PyProof.Rows L2
theorem Er.mono {H H' : Hp} {e C : Addr} {f : Str} {v : V} (s : Same H H') (h : Er H e C f v) : Er H' e C f v := by
  obtain ⟨dx, a, b⟩ := h
  exact ⟨dx, s _ _ a, s _ _ b⟩
/-- self.f = v -/
def spIni (C : Addr) (f : Str) : Sp := fun vs H Q _ => ∃ (a : Addr) (v : V), vs = [.ref a, v] ∧ H a = some (exo a C none) ∧ ∀ dx, H dx = none → dx ≠ a → Q .non (upd (upd H dx (exd dx [(f, v)])) a (exo a C (some dx)))
/-- a class with such an __init__: its def at fI -/
structure Mk (P : Program) (w : World) (K : PySem.W.Frag) (mg : Str → Option Value) (base : Heap) (C : Addr) (f : Str) : Prop where
  L : Cl K C f
  ex : ∃ (fI : Addr) (fd : FuncData) (ps : List Str), PySem.W.findIn K (.ref C) "__init__" = some (some (.ref fI)) ∧ PySem.W.typeIn K (.ref fI) = some (.type "function") ∧ FnOk P w K mg base CX0 1 fI fd ps (spIni C f) ∧
    ps.length = 2 ∧ (∀ (s : Shared) (u v : Value), BindsTo s fd ⟨[u, v], []⟩ (ps.zip [u, v])) ∧ ∀ (s : Shared) (u v : Value), BindsTo s fd ⟨[u], [(f, v)]⟩ (ps.zip [u, v])
section
variable {X : Cx} {C : Addr} {f x : Str} {e : Expr} {ta tk : TA} {p pos : Pos} {kws : List Keyword}
theorem made {pins : List (Addr × Obj)} {σ : L2.St} {H : Hp} {s : Shared} {Q : VK} {v : V} {u : Value} (M : Mk X.prog X.w X.K X.mg X.base C f) (hr : Room 2 X.A) (I : Inv X pins σ H s) (r : RelV v u) (us : List Value) (kw : List (Str × Value)) (hz : us.length ≤ 1)
    (how : (us = [u] ∧ kw = []) ∨ (us = [] ∧ kw = [(f, u)])) (hq : ∀ (e : Addr) (H' : Hp), H e = none → Same H H' → Er H' e C f v → Q (.ref e) H') : wpAny (model X.prog X.w) X.A (call (.ref C) us kw) (EP X pins σ Q) X.xe s := by
  obtain ⟨⟨T, F, no⟩, fI, fd, ps, iC, tI, G1, hl, b1, b2⟩ := M
  obtain ⟨nm, q, N, bs, bm, sn, sub, ab, col, dd, k0, k1, k2, k3, k5, hC, hbm⟩ := T.cls
  obtain ⟨hp, g, dr, tok, os⟩ := s
  have big : hp.objs.size ≤ hp.objs.size + 1 := Nat.le_succ _
  have free : H (hp.objs.size + 1) = none := I.hok.fresh big
  have keep : ∀ b o, hp.get? b = some o → ((hp.push (PySem.W.kdv_tup us)).push (PySem.HandSPX.excO C hp.objs.size)).get? b = some o := fun b o e => Heap.get?_push_of_some _ (Heap.get?_push_of_some _ e)
  have new : ((hp.push (PySem.W.kdv_tup us)).push (PySem.HandSPX.excO C hp.objs.size)).get? (hp.objs.size + 1) = some (PySem.HandSPX.excO C hp.objs.size) := by heap_get
  have J : Inv X pins σ (upd H (hp.objs.size + 1) (exo (hp.objs.size + 1) C none)) ⟨(hp.push (PySem.W.kdv_tup us)).push (PySem.HandSPX.excO C hp.objs.size), g, dr, tok, os⟩ := I.laid (t' := tok) keep big (exo_ok new)
  have bind : BindsTo ⟨(hp.push (PySem.W.kdv_tup us)).push (PySem.HandSPX.excO C hp.objs.size), g, dr, tok, os⟩ fd ⟨Value.ref (hp.objs.size + 1) :: us, kw⟩ (ps.zip [Value.ref (hp.objs.size + 1), u]) := by
    rcases how with ⟨rfl, rfl⟩ | ⟨rfl, rfl⟩
    · exact b1 _ _ _
    · exact b2 _ _ _
  have wish : spIni C f [.ref (hp.objs.size + 1), v] (upd H (hp.objs.size + 1) (exo (hp.objs.size + 1) C none)) (fun z H' => z = .non ∧ Q (.ref (hp.objs.size + 1)) H') E0 := by
    refine ⟨_, _, rfl, upd_same, fun dx h1 h2 => ⟨rfl, hq _ _ free (fun b o q => ?_) ⟨dx, upd_same, ?_⟩⟩⟩
    · have n1 : b ≠ hp.objs.size + 1 := ne_of_none q free
      rw [upd_ne n1, upd_ne (fun z => ?_), upd_ne n1]
      · exact q
      · rw [← z, upd_ne n1, q] at h1
        cases h1
    · rw [upd_ne h2, upd_same]
  refine wpAny_call (PySem.HandSPX.g_call hbm (I.kIn _ _ hC) (PySem.W.looks_findIn I.kIn iC) (fun self => PySem.W.bind_fn I.kIn self tI) (Nat.le_trans hz (by decide))
    (codeAny_mono (G1.run _ X.stack _ _ _ [Value.ref (hp.objs.size + 1), u] [.ref (hp.objs.size + 1), v] _ E0 (hr.make C us kw) (J.env0.make C us kw) bind (.cons (show RelV (.ref _) (.ref _) from rfl) (.cons r .nil)) wish) fun rr s' hh => ?_))
  rcases rr with er | fl
  · exact (hh : False).elim
  · cases fl with
    | ret u' =>
      obtain ⟨z, H', J', rz, ez, q'⟩ := J.after hh
      subst ez
      exact ⟨rz, ⟨.ref (hp.objs.size + 1), H', J', rfl, q'⟩⟩
    | next => exact hh.elim
    | brk => exact hh.elim
    | cont => exact hh.elim
/-- C(v), C(f=v) -/
def tMkE (C : Addr) (f : Str) (t : TA) : TE := fun σ H Q => t σ H fun vs H1 => ∃ v, vs = [v] ∧ ∀ (e : Addr) (H' : Hp), H1 e = none → Same H1 H' → Er H' e C f v → Q (.ref e) H'
theorem pe_mkE (M : Mk X.prog X.w X.K X.mg X.base C f) (hr : Room 2 X.A) (hg : Gl X x) (hm : X.mg x = some (.ref C)) (ha : PA X [e] ta) (hdb : (x == ("__debug__" : Str)) = false := by decide)
    (he : starEach [e] X.env = (false, eval e X.env) :: starEach [] X.env := by rfl) (hpl : (backTo pos (starEach [] X.env)).any (·.1) = false := by rfl) : PE X (.Call (.Name x p) [e] [] pos) (tMkE C f ta) := by
  refine ⟨fun pins s σ H Q I h => wpAny_Call_Name_kw (ld_glob I hg hm ?_ hdb)⟩
  refine PySem.W.callWith_K (h₀ := X.base) I.ok.mod.kin M.L.T.kC (thn (ha.run pos pins s σ H _ I h) fun us s1 hh => ?_) he hpl
  obtain ⟨vs, H1, I1, r1, v, rfl, q⟩ := hh
  cases r1 with
  | cons rv rn =>
    cases rn
    exact ⟨I1.kIn, made M hr I1 rv _ [] (Nat.le_refl _) (.inl ⟨rfl, rfl⟩) q⟩
theorem pe_mkEk (M : Mk X.prog X.w X.K X.mg X.base C f) (hr : Room 2 X.A) (hg : Gl X x) (hm : X.mg x = some (.ref C)) (hkw : PK X kws tk) (hks : (backToKw pos (keywordEach kws X.env)).filterMap (·.1) = [f] := by rfl) (hall : (backToKw pos (keywordEach kws X.env)).all (·.1.isSome) = true := by rfl)
    (hdb : (x == ("__debug__" : Str)) = false := by decide) (hpl : ((backTo pos (starEach [] X.env)).any (·.1) || (backToKw pos (keywordEach kws X.env)).any (·.1.isNone)) = false := by rfl) : PE X (.Call (.Name x p) [] kws pos) (tMkE C f tk) := by
  refine ⟨fun pins s σ H Q I h => wpAny_Call_Name_kw (ld_glob I hg hm ?_ hdb)⟩
  refine PySem.W.callWith_KW0 (h₀ := X.base) I.ok.mod.kin M.L.T.kC hall (thn (hkw.run pos pins s σ H _ I h) fun ws s2 hh => ?_) hpl
  obtain ⟨vs, H1, I1, r1, v, rfl, q⟩ := hh
  cases r1 with
  | cons rv rn =>
    cases rn
    refine ⟨I1.kIn, ?_⟩
    rw [hks]
    exact made M hr I1 rv [] _ (Nat.zero_le _) (.inr ⟨rfl, rfl⟩) q
end
end G

end
section
set_option autoImplicit false
set_option Elab.async false
set_option linter.all false
set_option maxRecDepth 100000
set_option maxHeartbeats 4000000
/-! ## an own error raised and caught: raise C(e); e.f of the error that a suite holds; a call by keyword that may raise -/
namespace G
open PySem PySem.Spec PyProof.Rows L2
section
variable {X : Cx} {C : Addr} {f x : Str} {e : Expr} {ta : TA} {p pos pos2 : Pos}
theorem mk_binds {P : Program} {w : World} {K : PySem.W.Frag} {fd : FuncData} {ps : List Str} (hl : ps.length = 2) (b : ∀ (s : Shared) (u v : Value), BindsTo s fd ⟨[u, v], []⟩ (ps.zip [u, v])) : Binds K fd ps [] := fun s us hk hn => by
  rw [List.append_nil] at hn ⊢
  rw [hl] at hn
  match us, hn with
  | [u, v], _ => exact b s u v
theorem pmk_er (M : Mk X.prog X.w X.K X.mg X.base C f) (hr : Room 2 X.A) (hg : Gl X x) (hm : X.mg x = some (.ref C)) (ha : PA X [e] ta) (hdb : (x == ("__debug__" : Str)) = false := by decide)
    (he : starEach [e] X.env = (false, eval e X.env) :: starEach [] X.env := by rfl) (hpl : (backTo pos (starEach [] X.env)).any (·.1) = false := by rfl) : PMk X (.Call (.Name x p) [e] [] pos) (tMkO C (spIni C f) [] ta) := by
  obtain ⟨L, fI, fd, ps, iC, tI, G1, hl, b1, b2⟩ := M
  exact pmk_oex L.T iC tI G1 hr (mk_binds (P := X.prog) (w := X.w) hl b1) .nil pass0 hg hm ha hdb he hpl
/-- raise C(e) -/
def tRaiseE (C : Addr) (f : Str) (W : WX) (ta : TA) : TS := fun _ σ H => tMkO C (spIni C f) [] ta σ H fun cls d H' => W cls d σ H'
theorem ps_raiseE {W : WX} (hc : X.calm = true) (M : Mk X.prog X.w X.K X.mg X.base C f) (hr : Room 2 X.A) (tk : Takes X W) (hg : Gl X x) (hm : X.mg x = some (.ref C)) (ha : PA X [e] ta) (hdb : (x == ("__debug__" : Str)) = false := by decide)
    (he : starEach [e] X.env = (false, eval e X.env) :: starEach [] X.env := by rfl) (hpl : (backTo pos (starEach [] X.env)).any (·.1) = false := by rfl) : PS X (.Raise (some (.Call (.Name x p) [e] [] pos)) none pos2) (tRaiseE C f W ta) :=
  ps_raise hc tk (pmk_er M hr hg hm ha hdb he hpl)
theorem mkO_of {v : V} {H : Hp} {Q : XK} (k : ∀ d, H d = none → Q (.ref C) (some d) (upd H d (.xd [(f, v)]))) : [v].length ≤ 1000 ∧ ∀ a, H a = none → spIni C f (.ref a :: ([v] ++ [])) (upd H a (exo a C none))
    (fun u H2 => u = .non ∧ ∃ (d : Addr) (fs : List (Str × V)), H2 a = some (exo a C (some d)) ∧ H2 d = some (exd d fs) ∧ H d = none ∧ Q (.ref C) (some d) (upd (del H2 a) d (.xd fs))) (fun _ _ _ => False) := by
  refine ⟨by show 1 ≤ 1000; decide, fun a ha => ⟨a, v, rfl, upd_same, fun dx h1 h2 => ⟨rfl, dx, [(f, v)], upd_same, ?_, ?_, ?_⟩⟩⟩
  · rw [upd_ne h2, upd_same]
  · rw [upd_ne h2] at h1
    exact h1
  · have hd : H dx = none := by
      rw [upd_ne h2] at h1
      exact h1
    have e : upd (del (upd (upd (upd H a (exo a C none)) dx (exd dx [(f, v)])) a (exo a C (some dx))) a) dx (.xd [(f, v)]) = upd H dx (.xd [(f, v)]) := by
      funext b
      by_cases hb : b = dx
      · subst hb
        rw [upd_same, upd_same]
      · rw [upd_ne hb, upd_ne hb]
        by_cases ha2 : b = a
        · subst ha2
          rw [del_same, ha]
        · rw [del_ne ha2, upd_ne ha2, upd_ne hb, upd_ne ha2]
    rw [e]
    exact k dx hd
end
theorem xf_of {K : PySem.W.Frag} {C : Addr} {f : Str} (L : Cl K C f) : XfC K C := ⟨L.F.hg, L.F.hk, L.F.hs, L.F.hd⟩
theorem look_one {f : Str} {v : V} : ([(f, v)] : List (Str × V)).lookup f = some v := by simp [List.lookup]
section
variable {X : Cx} {CX : CXT} {k : Nat} {f : Addr} {fd : FuncData} {ps ks : List Str} {sp : Sp} {E : L2.St → XK} {x : Str} {p pos : Pos} {e : Expr} {es : List Expr} {kws : List Keyword} {t tk : TA} {g : List Value → List Value → List Value} {gV : List V → List V → List V}
def tCallKS (sp : Sp) (gV : List V → List V → List V) (E : L2.St → XK) (t tk : TA) : TE := fun σ H Q => t σ H fun vs H1 => tk σ H1 fun zs H2 => sp (gV vs zs) H2 Q (E σ)
theorem run_fnKS {pins : List (Addr × Obj)} {σ : L2.St} {H : Hp} {s : Shared} {Q : VK} {us ws : List Value} {vs zs : List V} (F : FnOk X.prog X.w X.K X.mg X.base CX k f fd ps sp) (hr : Room k X.A) (hb : KBinds X.K fd ps ks g gV) (hx : PassesAt CX X σ (E σ))
    (I : Inv X pins σ H s) (r : Vals vs us) (rz : Vals zs ws) (h : sp (gV vs zs) H Q (E σ)) : wpAny (model X.prog X.w) X.A (call (.ref f) us (ks.zip ws)) (EP X pins σ Q) X.xe s := by
  have r2 := hb.rel r rz
  have hl : (g us ws).length = ps.length := by rw [← r2.length]; exact F.len _ _ _ _ h
  refine wpAny_call (codeAny_mono (F.run X.A X.stack s H ⟨us, ks.zip ws⟩ (g us ws) (gV vs zs) Q (E σ) hr I.env0 (hb.to s us ws I.kIn hl) r2 h) fun r s' hq => ?_)
  match r, hq with
  | .error er, z => exact hx pins H s er s' I z
  | .ok (.ret u), z => exact I.after z
  | .ok .next, z => exact z.elim
  | .ok .brk, z => exact z.elim
  | .ok .cont, z => exact z.elim
theorem pe_callKS (F : FnOk X.prog X.w X.K X.mg X.base CX k f fd ps sp) (hr : Room k X.A) (hg : Gl X x) (hm : X.mg x = some (.ref f)) (hk : PySem.W.keepIn X.K (.ref f) = true) (hb : KBinds X.K fd ps ks g gV) (hx : ∀ σ, PassesAt CX X σ (E σ))
    (ha : PA X (e :: es) t) (hkw : PK X kws tk) (hall : (backToKw pos (keywordEach kws X.env)).all (·.1.isSome) = true := by rfl) (hks : (backToKw pos (keywordEach kws X.env)).filterMap (·.1) = ks := by rfl)
    (hdb : (x == ("__debug__" : Str)) = false := by decide) (he : starEach (e :: es) X.env = (false, eval e X.env) :: starEach es X.env := by rfl)
    (hpl : ((backTo pos (starEach (e :: es) X.env)).any (·.1) || (backToKw pos (keywordEach kws X.env)).any (·.1.isNone)) = false := by rfl) :
    PE X (.Call (.Name x p) (e :: es) kws pos) (tCallKS sp gV E t tk) := by
  refine ⟨fun pins s σ H Q I h => ?_⟩
  refine wpAny_Call_Name_kw (ld_glob I hg hm ?_ hdb)
  refine PySem.W.callWith_KW (h₀ := X.base) I.ok.mod.kin hk hall (thn (ha.run pos pins s σ H _ I h) fun us s1 hh => ?_) hpl he
  obtain ⟨vs, H1, I1, r, q⟩ := hh
  refine thn (hkw.run pos pins s1 σ H1 _ I1 q) fun ws s2 hh => ?_
  obtain ⟨zs, H2, I2, rz, q2⟩ := hh
  refine ⟨I2.kIn, ?_⟩
  rw [hks]
  exact run_fnKS F hr hb (hx σ) I2 r rz q2
end
/-- «except C» takes an error of the class at C -/
theorem exm_own {K : PySem.W.Frag} {C : Addr} (isC : PySem.W.isClsIn K C = true) (ty : PySem.W.typeIn K (.ref C) = some (.type "type")) (up : PySem.W.subIn K (.ref C) (.type "BaseException") = some true) (self : PySem.W.subIn K (.ref C) (.ref C) = some true) : PySem.W.exmOne K (.ref C) (.ref C) = some true := by
  have c : (PySem.W.clsIn K C).isSome = true := isC
  have k : PySem.W.kitCls K (.ref C) (.ref C) = some true := by
    unfold PySem.W.kitCls
    dsimp only
    rw [c, ty, self]
    rfl
  unfold PySem.W.exmOne
  rw [up, k]
  rfl
end G

end
section
set_option autoImplicit false
set_option Elab.async false
set_option linter.all false
set_option maxRecDepth 100000
set_option maxHeartbeats 4000000
/-! ## is_integer, is_within, is_body of any value; fate, which may refuse -/
namespace CP
open PySem L2 G Y
/-- a value that is no integer: a bool, or of another kind -/
def NI (K : PySem.W.Frag) (H : Hp) (v : V) : Prop := (∃ b, v = .bl b) ∨ ∃ t, TyX K H v t ∧ PySem.W.kitOne K t (.type "int") = some false
/-- what is refused as a body -/
def NB (K : PySem.W.Frag) (H : Hp) (v : V) : Prop := NI K H v ∨ ∃ i : Int, v = .int i ∧ ¬ (0 ≤ i ∧ i ≤ 1000000000000000000)
section
variable {P : Program} {w : World} {K : PySem.W.Frag} {mg : Str → Option Value} {base : Heap} {C CW CB : Addr}
def spInt2 (K : PySem.W.Frag) : Sp := fun vs H Q _ => ∃ v, vs = [v] ∧ ((∃ i, v = .int i ∧ Q (.bl true) H) ∨ (NI K H v ∧ Q (.bl false) H))
theorem ok_int2 {f : Addr} {fd : FuncData} (F : Fun K "is_integer" "is_integer" sInteger f fd) (B : Bn mg) : FnOk P w K mg base CX0 1 f fd ["value"] (spInt2 K) := by
  refine F.ok scIn (fun vs H Q E h => ?_) (fun cdv A outer s H vs Q E hr h => ?_)
  · obtain ⟨v, rfl, _⟩ := h
    rfl
  · obtain ⟨v, rfl, h⟩ := h
    refine ⟨_, pss_one (ps_ret (pe_and (pe_callB call_isi (by rfl) B.isi (by decide +kernel) (pa_cons (pv 0) (pa_cons (pe_bltn (v := .ty "int") (by rfl) B.int (by decide +kernel) rfl) pa_nil)))
      (pe_one (pe_not (pe_callB call_isi (by rfl) B.isi (by decide +kernel) (pa_cons (pv 0) (pa_cons (pe_bltn (v := .ty "bool") (by rfl) B.bool (by decide +kernel) rfl) pa_nil))))))), ?_⟩
    rcases h with ⟨i, rfl, k⟩ | ⟨⟨b, rfl⟩ | ⟨t, ty, e⟩, k⟩
    · exact ⟨_, rfl, _, _, _, _, _, rfl, .ty _, .base (.int _), kit_ty (r := true) (by decide +kernel), _, rfl, iteT ⟨_, rfl, _, _, _, _, _, rfl, .ty _, .base (.int _), kit_ty (r := false) (by decide +kernel), _, rfl, k⟩⟩
    · exact ⟨_, rfl, _, _, _, _, _, rfl, .ty _, .base (.bl _), kit_ty (r := true) (by decide +kernel), _, rfl, iteT ⟨_, rfl, _, _, _, _, _, rfl, .ty _, .base (.bl _), kit_ty (r := true) (by decide +kernel), _, rfl, k⟩⟩
    · exact ⟨_, rfl, _, _, _, _, _, rfl, .ty _, ty, e, _, rfl, iteF k⟩
def spWithin2 (K : PySem.W.Frag) : Sp := fun vs H Q _ => ∃ (v : V) (a b : Int), vs = [v, .int a, .int b] ∧ ((∃ i, v = .int i ∧ Q (.bl (decide (a ≤ i ∧ i ≤ b))) H) ∨ (NI K H v ∧ Q (.bl false) H))
theorem ok_within2 {f : Addr} {fd : FuncData} (F : Fun K "is_within" "is_within" sWithin f fd) (DI : Df P w K mg base 1 "is_integer" ["value"] (spInt2 K)) : FnOk P w K mg base CX0 2 f fd ["value", "least", "greatest"] (spWithin2 K) := by
  obtain ⟨fI, fdI, GI, gI, kI, bI⟩ := DI.ex
  refine F.ok sc3 (fun vs H Q E h => ?_) (fun cdv A outer s H vs Q E hr h => ?_)
  · obtain ⟨v, a, b, rfl, _⟩ := h
    rfl
  · obtain ⟨v, a, b, rfl, h⟩ := h
    refine ⟨_, pss_one (ps_ret (pe_and (pe_call GI hr rfl gI kI bI .nil pass0 (pa_cons (pv 0) pa_nil)) (pe_one (pe_chain op_le op_le (pv 1) (pv 0) (pv 2))))), ?_⟩
    rcases h with ⟨v, rfl, k⟩ | ⟨ni, k⟩
    · refine ⟨_, rfl, _, rfl, .inl ⟨v, rfl, _, rfl, iteT ⟨_, rfl, _, rfl, _, _, rfl, rfl, _, rfl, ?_⟩⟩⟩
      refine ite2 (fun h1 => ⟨_, rfl, _, _, rfl, rfl, ?_⟩) (fun h1 => ?_)
      · have e1 : a ≤ v := of_decide_eq_true h1
        rw [show decide (a ≤ v ∧ v ≤ b) = decide (v ≤ b) from decide_eq_decide.mpr ⟨fun z => z.2, fun z => ⟨e1, z⟩⟩] at k
        exact k
      · rw [show decide (a ≤ v ∧ v ≤ b) = false from decide_eq_false fun q => h1 (decide_eq_true q.1)] at k
        exact k
    · exact ⟨_, rfl, v, rfl, .inr ⟨ni, _, rfl, iteF k⟩⟩
def spBody2 (K : PySem.W.Frag) : Sp := fun vs H Q _ => ∃ v : V, vs = [v] ∧ ((∃ i, v = .int i ∧ Q (.bl (decide (0 ≤ i ∧ i ≤ 1000000000000000000))) H) ∨ (NI K H v ∧ Q (.bl false) H))
theorem ok_body2 {f : Addr} {fd : FuncData} (F : Fun K "is_body" "is_body" WP.sBody f fd) (DW : Df P w K mg base 2 "is_within" ["value", "least", "greatest"] (spWithin2 K)) (g : ∃ t, mg "GREATEST_BODY" = some (.int 1000000000000000000 t)) : FnOk P w K mg base CX0 3 f fd ["value"] (spBody2 K) := by
  obtain ⟨fI, fdI, GI, gI, kI, bI⟩ := DW.ex
  obtain ⟨t, g⟩ := g
  refine F.ok WP.scB (fun vs H Q E h => ?_) (fun cdv A outer s H vs Q E hr h => ?_)
  · obtain ⟨v, rfl, _⟩ := h
    rfl
  · obtain ⟨v, rfl, h⟩ := h
    exact ⟨_, pss_one (ps_ret (pe_call GI hr rfl gI kI bI .nil pass0 (pa_cons (pv 0) (pa_cons pe_int (pa_cons (pe_glob (v := .int 1000000000000000000) rfl g ⟨_, rfl⟩) pa_nil))))), _, rfl, v, 0, 1000000000000000000, rfl, h⟩
/-- fate: what it tells; or it raises BadBody with the very value -/
def spFate2 (K : PySem.W.Frag) (C CW CB : Addr) (n : Nat) : Sp := fun vs H Q E => ∃ (a : Addr) (v : V) (se : Bool) (wy : M.Way), vs = [.ref a, v, .bl se] ∧ WP.WayAt CW H wy a ∧ M.Way.fine wy ∧ wy.depth ≤ n ∧
  ((∃ b : Nat, v = .int (b : Int) ∧ b ≤ 1000000000000000000 ∧ ∀ v H', Same H H' → FAt H' (fateOf (M.Way.lows se wy) b (M.chE se wy.head wy.steps [])) v → Q v H') ∨
   (NB K H v ∧ ∀ d, H d = none → E (.ref CB) (some d) (upd H d (.xd [("value", v)]))))
theorem ok_fate2 {k n : Nat} {f : Addr} {fd : FuncData} (F : Fun K "fate" "fate" sFate f fd) (hk : 7 ≤ k) (T : Ct K mg C) (MB : G.Mk P w K mg base CB "value") (gB2 : mg "BadBody" = some (.ref CB)) (DB : Df P w K mg base 3 "is_body" ["value"] (spBody2 K)) (DG : Dg P w K mg base k "lows" ["way", "sealed"] ["sealed"] (spLows CW n)) (DC : Df P w K mg base 7 "chains_before" ["way", "sealed"] (spChB C CW))
    (MP : Me P w K mg base C 2 "pieces" ["self", "body"] (spCPieces C)) (MX : Me P w K mg base C 3 "stretch" ["self", "body", "number"] (spCStretch C)) : FnOk P w K mg base (L2.CX P w) (k + 1) f fd ["way", "body", "sealed"] (spFate2 K C CW CB n) := by
  obtain ⟨fB, fdB, GB, gB, kB, bB⟩ := DB.ex
  obtain ⟨fG, fdG, GG, gG, kG, bG⟩ := DG.ex
  obtain ⟨fC, fdC, GC, gC, kC, bC⟩ := DC.ex
  obtain ⟨fP, fdP, GP, mP, bP⟩ := MP.ex
  obtain ⟨fX, fdX, GX, mX, bX⟩ := MX.ex
  refine F.okX scFt (fun vs H Q E h => ?_) (fun cdv A outer s H vs Q E hr h => ?_)
  · obtain ⟨a, v, se, wy, rfl, _⟩ := h
    rfl
  · obtain ⟨a, v, se, wy, rfl, hw, hf, hd, hh⟩ := h
    refine ⟨_, pss_cons (ps_if (pt_not (pt_val (pe_call GB (hr.mono (by omega)) rfl gB kB bB .nil pass0 (pa_cons (pv 1) pa_nil)))) (pss_one (ps_raiseE rfl MB (hr.mono (by omega)) (takes_of rfl rfl rfl rfl) rfl gB2 (pa_cons (pv 1) pa_nil))) (pss_nil))
      (pss_cons (ps_for (passes_of rfl) rfl (pi_list (pe_callK GG (hr.mono (by omega)) rfl gG kG bG pass0 (pa_cons (pv 0) pa_nil) (pk_cons (pv 2) pk_nil))) (pg_tup (by rfl) (pgs_cons (pg_name (i := 3) scFt.nd rfl (Or.inl rfl)) (pgs_cons (pg_name (i := 4) scFt.nd rfl (Or.inl rfl)) (pgs_cons (pg_name (i := 5) scFt.nd rfl (Or.inl rfl)) pgs_nil)))) (pss_one (ps_if (pt_cmpR (op_lt) (pv 4) (pv 1) (nomark _)) (pss_one (ps_ret (pe_ifExp (pt_cmp (pc_isN (pv 5))) (pe_tup (pa_cons (pe_str) (pa_cons (pv 3) pa_nil))) (pe_tup (pa_cons (pe_str) (pa_cons (pv 5) (pa_cons (pv 3) pa_nil))))))) (pss_nil))))
      (pss_cons (ps_set (i := 6) scFt.nd rfl (Or.inl rfl) (pe_ix ix_list (pe_call GC (hr.mono (by omega)) rfl gC kC bC .nil pass0 (pa_cons (pv 0) (pa_cons (pv 2) pa_nil))) (pe_un un_neg pe_int) (fun _ _ => rfl)))
      (pss_cons (ps_set (i := 7) scFt.nd rfl (Or.inl rfl) (pe_meth (pv 6) T.cl mP GP (hr.mono (by omega)) bP .nil pass0 (pa_cons (pv 1) pa_nil)))
      (pss_one (ps_ret (pe_tup (pa_cons (pe_str) (pa_cons (pv 7) (pa_cons (pe_meth (pv 6) T.cl mX GX (hr.mono (by omega)) bX .nil pass0 (pa_cons (pv 1) (pa_cons (pv 7) pa_nil))) pa_nil))))))))), ?_⟩
    have ckE : M.Ck (M.chE se wy.head wy.steps []) := M.ck_all M.ck_nil (fine_all hf).1
    rcases hh with ⟨b, rfl, hb, kk⟩ | ⟨nb, ke⟩
    · refine ⟨_, rfl, _, rfl, .inl ⟨(b : Int), rfl, ?_⟩⟩
      rw [decide_eq_true (by omega)]
      refine ⟨_, rfl, iteF ?_⟩
      refine ⟨_, rfl, _, rfl, a, se, wy, rfl, hw, hf, hd, fun E xsE H2 s2 nE eE gE => ?_⟩
      generalize M.Way.lows se wy = gs at gE kk
      have lE := gE.len
      unfold fateOf at kk
      refine ⟨E, rfl, ⟨_, SqL.of eE⟩, ?_⟩
      refine for_it walk_list (fun j σ G => G = H2 ∧ (∃ (p q r o u : Option V), σ = [some (.ref a), some (.int (b : Int)), some (.bl se), p, q, r, o, u]) ∧ gs.find? (fun g => decide (g.thr < (b : Int))) = (gs.drop j).find? (fun g => decide (g.thr < (b : Int))))
        ⟨rfl, ⟨_, _, _, _, _, rfl⟩, rfl⟩ (fun j σ G _ z => by rw [z.1]; exact SqL.of eE) ?_ ?_
      · rintro j v σ G G' hj ⟨rfl, ⟨p, q, r, o, u, rfl⟩, eq⟩ ⟨rfl, hx⟩
        obtain ⟨g, hg, t, qp, rfl, f1, f2⟩ := gE.get hx
        refine ⟨t, _, rfl, SqT.of f1, rfl, _, _, rfl, _, _, rfl, _, _, rfl, rfl, ?_⟩
        have ed : gs.drop j = g :: gs.drop (j + 1) := by
          obtain ⟨hi3, ex⟩ := List.getElem?_eq_some_iff.mp hg
          rw [← ex, ← List.drop_eq_getElem_cons hi3]
        rw [ed] at eq
        refine ⟨_, rfl, _, rfl, _, _, rfl, rfl, _, rfl, ite2 (fun c => ?_) (fun c => ?_)⟩
        · rw [List.find?_cons_of_pos (p := fun (g : M.Gate) => decide (g.thr < (b : Int))) c] at eq
          have kk : ∀ v H', Same H H' → FAt H' (fateG g) v → Q v H' := by
            rw [eq] at kk
            exact kk
          unfold fateG at kk
          refine ⟨_, rfl, ?_⟩
          cases ea : g.ans with
          | none =>
            rw [ea] at kk
            refine ⟨_, rfl, iteT ⟨_, rfl, line2.1, fun t2 ht2 => kk _ _ (s2.trans (of_upd ht2)) ?_⟩⟩
            exact ⟨t2, qp, rfl, upd_same, of_upd ht2 _ _ f2⟩
          | some z =>
            rw [ea] at kk
            refine ⟨_, rfl, iteF ⟨_, rfl, _, rfl, line2.2.1, fun t2 ht2 => kk _ _ (s2.trans (of_upd ht2)) ?_⟩⟩
            exact ⟨t2, qp, rfl, upd_same, of_upd ht2 _ _ f2⟩
        · refine ⟨rfl, ⟨_, _, _, _, _, rfl⟩, ?_⟩
          rw [eq, List.find?_cons_of_neg (p := fun (g : M.Gate) => decide (g.thr < (b : Int))) c]
      · rintro σ G ⟨rfl, ⟨p, q, r, o, u, rfl⟩, eq⟩
        rw [lE, List.drop_length] at eq
        have kk : ∀ v H', Same H H' → FAt H' (.comes (N.PC (M.chE se wy.head wy.steps []) b) (stretchZ (M.chE se wy.head wy.steps []) b (N.PC (M.chE se wy.head wy.steps []) b))) v → Q v H' := by
          rw [eq] at kk
          exact kk
        dsimp only
        refine set_then (i := 6) ?_
        refine ⟨_, rfl, _, rfl, a, se, wy, rfl, hw.mono s2, hf, fun D3 xs3 H3 s3 n3 e3 g3 => ?_⟩
        obtain ⟨X, eX⟩ := M.chB_last se wy.head wy.steps []
        rw [eX] at g3
        obtain ⟨r3, a3, rfl, hc3⟩ := g3.last
        refine ⟨_, rfl, D3, _, _, _, rfl, rfl, SqL.of e3, atI_last _ _, ?_⟩
        have pp := PC_pos ckE.fall b
        obtain ⟨dx, fs, i1, i2⟩ := hc3.ins nk2.1
        refine set_then (i := 7) ⟨_, rfl, a3, dx, fs, rfl, i1, i2, _, rfl, a3, b, _, rfl, hc3, ck_cuts ckE, fun H4 s4 => ?_⟩
        have hc4 := hc3.mono s4
        obtain ⟨dx, fs, i1, i2⟩ := hc4.ins nk2.2.2.2
        refine ⟨_, rfl, _, rfl, a3, dx, fs, rfl, i1, i2, _, rfl, _, rfl, a3, b, _, _, rfl, hc4, ck_cuts ckE, pp, Nat.le_refl _, fun H5 s5 => ?_⟩
        refine ⟨line2.2.1, fun t ht => kk _ _ ((((s2.trans s3).trans s4).trans s5).trans (of_upd ht)) ⟨t, rfl, upd_same⟩⟩
    · have fin : tRaiseE CB "value" (fun cls d _ H => E cls d H) (tCons (tVar 1) tNil) { nx := fun _ H' => Q .non H', rt := Q } (start NFt [.ref a, v, .bl se]) H := ⟨_, rfl, mkO_of fun d hd => ke d hd⟩
      rcases nb with ni | ⟨i, rfl, hi⟩
      · exact ⟨_, rfl, v, rfl, .inr ⟨ni, _, rfl, iteT fin⟩⟩
      · refine ⟨_, rfl, _, rfl, .inl ⟨i, rfl, ?_⟩⟩
        rw [decide_eq_false hi]
        exact ⟨_, rfl, iteT fin⟩
end
end CP

end
section
set_option autoImplicit false
set_option Elab.async false
set_option linter.all false
set_option maxRecDepth 100000
set_option maxHeartbeats 4000000
/-! ## _law_refused -/
namespace CP
open PySem L2 G Y
abbrev sRefused : Stmt := S.top 69
theorem tyX_mono {K : PySem.W.Frag} {H H' : Hp} (s : Same H H') {v : V} {t : Value} (h : TyX K H v t) : TyX K H' v t := by
  cases h with
  | base b =>
    refine .base ?_
    cases b with
    | non => exact .non
    | bl x => exact .bl x
    | int i => exact .int i
    | str x => exact .str x
    | flt x => exact .flt x
    | lst e => exact .lst (s _ _ e)
    | frz e => exact .frz (s _ _ e)
    | tup e => exact .tup (s _ _ e)
    | dK e => exact .dK (s _ _ e)
    | dT e => exact .dT (s _ _ e)
    | ins e cl ha hn htk hm => exact .ins (s _ _ e) cl ha hn htk hm
  | byt b => exact .byt b
  | set e => exact .set (s _ _ e)
  | kList e c => exact .kList e c
  | kTuple e c => exact .kTuple e c
  | kDict e c => exact .kDict e c
  | fTuple e => exact .fTuple (s _ _ e)
  | fDict e => exact .fDict (s _ _ e)
theorem NB.mono {K : PySem.W.Frag} {H H' : Hp} (s : Same H H') {v : V} (h : NB K H v) : NB K H' v := by
  rcases h with (h | ⟨t, ty, e⟩) | h
  · exact .inl (.inl h)
  · exact .inl (.inr ⟨t, tyX_mono s ty, e⟩)
  · exact .inr h
section
variable {P : Program} {w : World} {K : PySem.W.Frag} {mg : Str → Option Value} {base : Heap} {C CW CB : Addr}
def spRefused (K : PySem.W.Frag) (CW : Addr) (n : Nat) : Sp := fun vs H Q _ => ∃ (a : Addr) (v : V) (se : Bool) (wy : M.Way), vs = [.ref a, v, .bl se] ∧ WP.WayAt CW H wy a ∧ M.Way.fine wy ∧ wy.depth ≤ n ∧
  ((∃ b : Nat, v = .int (b : Int) ∧ b ≤ 1000000000000000000 ∧ ∀ p H', Same H H' → H p = none → H' p = some (.lst []) → Q (.ref p) H') ∨
   (NB K H v ∧ ∀ p H', Same H H' → H p = none → H' p = some (.lst [v]) → Q (.ref p) H'))
abbrev NRf : List Str := ["one", "value", "kind", "caught", "error"]
theorem scRf : FnScope NRf ["one", "value", "kind"] (defScope sRefused) := ⟨rfl, rfl, rfl, by decide +kernel, rfl, by decide +kernel, by decide +kernel⟩
structure DFt (P : Program) (w : World) (K : PySem.W.Frag) (mg : Str → Option Value) (base : Heap) (k : Nat) (sp : Sp) : Prop where
  ex : ∃ (f : Addr) (fd : FuncData), FnOk P w K mg base (L2.CX P w) k f fd ["way", "body", "sealed"] sp ∧ mg "fate" = some (.ref f) ∧ PySem.W.keepIn K (.ref f) = true ∧ KBinds K fd ["way", "body", "sealed"] ["sealed"] g21 g21
theorem ok_refused {k n : Nat} {f : Addr} {fd : FuncData} (F : Fun K "_law_refused" "_law_refused" sRefused f fd) (L : G.Cl K CB "value") (hB : mg "BadBody" = some (.ref CB)) (hex : PySem.W.exmOne K (.ref CB) (.ref CB) = some true) (DF : DFt P w K mg base k (spFate2 K C CW CB n)) : FnOk P w K mg base CX0 (k + 1) f fd ["one", "value", "kind"] (spRefused K CW n) := by
  obtain ⟨fF, fdF, GF, gF, kF, bF⟩ := DF.ex
  refine F.ok scRf (fun vs H Q E h => ?_) (fun cdv A outer s H vs Q E hr h => ?_)
  · obtain ⟨a, v, se, wy, rfl, _⟩ := h
    rfl
  · obtain ⟨a, v, se, wy, rfl, hw, hf, hd, hh⟩ := h
    refine ⟨_, pss_cons (ps_set (i := 3) scRf.nd rfl (Or.inl rfl) (pe_lst pa_nil))
      (pss_cons (ps_try_as (i := 4) (tb := fun W => tDrop (tCallKS (spFate2 K C CW CB n) g21 (WE W) (tCons (tVar 0) (tCons (tVar 1) tNil)) (tCons (tVar 2) tNil))) (ts := fun a cls d => tAsg (tLst (tCons (tXf a cls d CB "value" (tVar 4)) tNil)) (gName 3)) (Wout := fun _ _ _ _ => False) rfl rfl scRf.nd rfl rfl ⟨rfl, by decide, Or.inl hB⟩ takes0
          (fun W pn xe tk _ => pss_one (ps_expr (pe_callKS GF hr rfl gF kF bF (fun σ => passAt tk σ) (by exact (pa_cons (pv 0) (pa_cons (pv 1) pa_nil))) (by exact (pk_cons (pv 2) pk_nil)))))
          (fun a oe cls d pn hz hf => pss_one (ps_set (i := 3) scRf.nd rfl (Or.inl rfl) (by exact (pe_lst (pa_cons (pe_xf (xf_of L) L.no hz hf (pv 4)) pa_nil))))))
      (pss_one (ps_ret (pv 3)))), ?_⟩
    refine set_then (i := 3) ⟨line2.2.2.2, fun p hp => ?_⟩
    have s1 := of_upd (o := .lst []) hp
    have e1 : upd H p (.lst []) p = some (.lst []) := upd_same
    generalize upd H p (.lst []) = H1 at s1 e1 ⊢
    refine ⟨_, rfl, _, rfl, _, rfl, a, v, se, wy, rfl, hw.mono s1, hf, hd, ?_⟩
    rcases hh with ⟨b, rfl, hb, kk⟩ | ⟨nb, kk⟩
    · exact .inl ⟨b, rfl, hb, fun u H2 s2 _ => ⟨_, rfl, kk p H2 (s1.trans s2) hp (s2 _ _ e1)⟩⟩
    · refine .inr ⟨nb.mono s1, fun d hd0 => ⟨true, hex, fun _ a0 _ => ?_, fun q => Bool.noConfusion q⟩⟩
      refine ⟨_, rfl, rfl, rfl, d, _, v, rfl, upd_same, look_one, line2.2.2.1, fun p2 hp2 => ⟨_, rfl, ?_⟩⟩
      have s2 := of_upd (o := .xd [("value", v)]) hd0
      have s3 := of_upd (o := .lst [v]) hp2
      exact kk p2 _ (s1.trans (s2.trans s3)) ((s1.trans s2).free hp2) upd_same
end
end CP

end
section
set_option autoImplicit false
set_option Elab.async false
set_option linter.all false
set_option maxRecDepth 100000
set_option maxHeartbeats 4000000
/-! ## what the law compares: lists that hold anything, texts of them, fates -/
namespace N
theorem pt_end {l : List Nat} (f : Fall l) (b : Nat) : ((pt l [b]).getLastD 0 + B l (PC l b - 1) : Nat) = b := by
  unfold PC
  by_cases hb : b = 0
  · subst hb
    rw [pt_zero, if_pos rfl, B_zero]
    rfl
  · have hb0 : 0 < b := Nat.pos_of_ne_zero hb
    rw [if_neg hb]
    have hL := L_pos l f b hb0
    obtain ⟨x, hx, e⟩ := pt_at f (i := L l b - 1) hb0 (by omega)
    rw [if_neg (by omega)] at e
    have hl := (pt_L l f b hb0).1
    have e2 : (pt l [b]).getLastD 0 = x := by
      rw [List.getLastD_eq_getLast?, List.getLast?_eq_getElem?, hl, hx]
      rfl
    rw [e2]
    exact e
theorem pt_end_le {l : List Nat} (f : Fall l) (b : Nat) : (pt l [b]).getLastD 0 ≤ b := by
  have := pt_end f b
  omega
theorem PC_le {l : List Nat} (f : Fall l) (b : Nat) : PC l b ≤ b + 1 := by
  unfold PC
  split
  · omega
  · have := L_le f (b := b) (by omega)
    omega
end N
namespace LN
open PySem PySem.Spec PyProof.Rows L2
def rEqNil (K : PySem.W.Frag) : R2 := fun x y H Q => ∃ (a b : Addr) (v : V) (xs : List V), x = .ref a ∧ y = .ref b ∧ SqL K H a (v :: xs) ∧ SqL K H b [] ∧ Q (.bl false) H
theorem op_eqNil {X : Cx} (hu : X.A.units + 64 < cLine) : OpR X (compareOp .Eq) (rEqNil X.K) := by
  intro pins s σ H x y v u Q I rx ry h
  obtain ⟨a, b, w, xs, rfl, rfl, ha, hb, q⟩ := h
  cases (show v = Value.ref a from rx)
  cases (show u = Value.ref b from ry)
  obtain ⟨ia, ra, la, _⟩ := I.list ha
  obtain ⟨ib, rb, lb, _⟩ := I.list hb
  cases rb
  cases ra with
  | cons r rr => exact SeqAt.RcAt.lists_lengths la.isList lb.isList (by simp) (by omega) _ _ _ _ ⟨.bl false, H, I, rfl, q⟩
theorem op_or {X : Cx} {f : Value → Value → Sem Value} {r1 r2 : R2} (h1 : OpR X f r1) (h2 : OpR X f r2) : OpR X f (fun x y H Q => r1 x y H Q ∨ r2 x y H Q) := fun pins s σ H x y v u Q I rx ry h =>
  h.elim (h1 pins s σ H x y v u Q I rx ry) (h2 pins s σ H x y v u Q I rx ry)
end LN
namespace QR
open PySem PySem.Spec PyProof.Rows L2 G
/-- a value and its text; lists that are not empty may hold dicts -/
def Sh2 (K : PySem.W.Frag) (H : Hp) (x : V) (t : Str) : Prop := Sh K H x t ∨ ∃ (a : Addr) (m : Bool) (y : V) (ys : List V) (ds : List PyData), x = .ref a ∧ SqL K H a (y :: ys) ∧ DrA K H m (y :: ys) ds ∧ (PyData.list ds).showable = true ∧ (PyData.list ds).depth ≤ 20 ∧
  (PyData.list ds).shown.length ≤ sizeLine ∧ t = (PyData.list ds).shown
def rRepr2 (K : PySem.W.Frag) : List V → Hp → VK → Prop := fun xs H Q => ∃ x t, xs = [x] ∧ Sh2 K H x t ∧ Q (.str t) H
theorem call_repr2 {X : Cx} (hg : X.A.guards = some []) (hu : X.A.units + 64 < cLine) : CallR X (.builtin "repr") (rRepr2 X.K) := by
  intro pins s σ H xs us Q I r h
  obtain ⟨x, t, rfl, hs | ⟨a, m, y, ys, ds, rfl, h1, h2, h3, h4, h5, rfl⟩, q⟩ := h
  · exact call_reprS hg hu pins s σ H _ us Q I r ⟨x, t, rfl, hs, q⟩
  · exact call_repr hg hu pins s σ H _ us Q I r ⟨a, m, y, ys, ds, rfl, h1, h2, h3, h4, h5, q⟩
end QR
namespace S
open PySem L2 QR
section
variable {P : Program} {w : World} {K : PySem.W.Frag} {mg : Str → Option Value} {base : Heap}
def spSame2 (K : PySem.W.Frag) : Sp := fun vs H Q _ => ∃ (x y : V) (t : Str), vs = [x, y] ∧ Sh2 K H x t ∧ Sh2 K H y t ∧ Q (.bl true) H
theorem ok_same2 {f : Addr} {fd : FuncData} (F : Fun K "_law_same" "_law_same" sSame f fd) (hrep : mg "repr" = none) : G.Ok P w K mg base CX0 1 f fd ["one", "two"] (spSame2 K) := by
  refine G.mk F scSm (fun vs H Q E h => ?_) (fun cdv A outer s H vs Q E hg hr h => ?_)
  · obtain ⟨x, y, t, rfl, _⟩ := h
    rfl
  · obtain ⟨x, y, t, rfl, h1, h2, k⟩ := h
    refine ⟨_, pss_one (ps_ret (pe_cmpR op_eq (pe_callB (call_repr2 hg hr.units) (by rfl) hrep (by decide +kernel) (pa_cons (pv 0) pa_nil)) (pe_callB (call_repr2 hg hr.units) (by rfl) hrep (by decide +kernel) (pa_cons (pv 1) pa_nil)) (nomark _))), ?_⟩
    refine ⟨_, rfl, x, t, rfl, h1, _, rfl, y, t, rfl, h2, rfl, ?_⟩
    rw [decide_eq_true rfl]
    exact k
end
end S
namespace CP
open PySem L2 G Y QR
theorem nd_big {z : Int} (h : z.natAbs ≤ 10 ^ 18) (k b : Nat) : Nd (.int z) k b := by
  refine ⟨?_, ?_, by simp only [PyData.depth]; omega, by simp only [PyData.bulk]; omega⟩
  · simp only [PyData.showable]
    exact decide_eq_true (Nat.lt_of_lt_of_le (PySem.Flt.log2_lt_of (k := 60) (by decide) (Nat.lt_of_le_of_lt h (by decide))) (by decide))
  · simp only [PyData.leavesShort]
    refine decide_eq_true ?_
    have e := int_text_length_le10 (k := 19) (by decide) (Nat.lt_of_le_of_lt h (by decide))
    show (Str.ofString (toString z)).length ≤ 20
    rw [ofString_length]
    omega
/-- a value that is told in a list of its own -/
structure Fit (d : PyData) : Prop where
  sh : (PyData.list [d]).showable = true
  dp : (PyData.list [d]).depth ≤ 20
  ln : (PyData.list [d]).shown.length ≤ sizeLine
theorem fit_int {z : Int} (h : z.natAbs < 10 ^ 22) : Fit (.int z) := by
  have e := int_text_length_le10 (k := 22) (by decide) h
  have ls : (PyData.list [.int z]).leavesShort 30 = true := by
    simp only [PyData.leavesShort, PyData.leavesShortAll, Bool.and_true]
    refine decide_eq_true ?_
    show (Str.ofString (toString z)).length ≤ 30
    rw [ofString_length]
    omega
  refine ⟨?_, ?_, ?_⟩
  · simp only [PyData.showable, PyData.showableAll, Bool.and_true]
    exact decide_eq_true (Nat.lt_of_lt_of_le (PySem.Flt.log2_lt_of (k := 80) (by decide) (Nat.lt_of_lt_of_le h (by decide))) (by decide))
  · simp only [PyData.depth, PyData.depthAll]
    omega
  · have a := PyData.shown_le_bulk 30 (by decide) _ ls
    have b : (PyData.list [.int z]).bulk = 1 := by simp only [PyData.bulk, PyData.bulkAll]
    rw [b] at a
    exact Nat.le_trans a (by decide)
/-- the odd values -/
inductive Od (H : Hp) : V → Prop
  | non : Od H .non
  | bl (b : Bool) : Od H (.bl b)
  | str {x : Str} : x ∈ (["", "5", "a"] : List Str) → Od H (.str x)
  | lst {a : Addr} {xs : List V} : H a = some (.lst xs) → xs = [] ∨ xs = [.int 5] → Od H (.ref a)
  | tup {a : Addr} {xs : List V} : H a = some (.tup xs) → xs = [] ∨ xs = [.int 5] → Od H (.ref a)
  | dic {a : Addr} {kvs : List (Key × V)} : H a = some (.dK kvs) → kvs = [] ∨ kvs = [(.inr "a", .int 5)] ∨ kvs = [(.inl 1, .int 1)] → Od H (.ref a)
  | int {i : Int} : ¬ (0 ≤ i ∧ i ≤ 1000000000000000000) → i.natAbs < 10 ^ 22 → Od H (.int i)
theorem Od.mono {H H' : Hp} (s : Same H H') {v : V} (h : Od H v) : Od H' v := by
  cases h with
  | non => exact .non
  | bl b => exact .bl b
  | str h => exact .str h
  | lst e h => exact .lst (s _ _ e) h
  | tup e h => exact .tup (s _ _ e) h
  | dic e h => exact .dic (s _ _ e) h
  | int a b => exact .int a b
theorem Od.nb {K : PySem.W.Frag} {H : Hp} {v : V} (h : Od H v) : NB K H v := by
  cases h with
  | non => exact .inl (.inr ⟨_, .base .non, kit_ty (r := false) (by decide +kernel)⟩)
  | bl b => exact .inl (.inl ⟨b, rfl⟩)
  | str h => exact .inl (.inr ⟨_, .base (.str _), kit_ty (r := false) (by decide +kernel)⟩)
  | lst e h => exact .inl (.inr ⟨_, .base (.lst e), kit_ty (r := false) (by decide +kernel)⟩)
  | tup e h => exact .inl (.inr ⟨_, .base (.tup e), kit_ty (r := false) (by decide +kernel)⟩)
  | dic e h => exact .inl (.inr ⟨_, .base (.dK e), kit_ty (r := false) (by decide +kernel)⟩)
  | int a b => exact .inr ⟨_, rfl, a⟩
theorem Od.dr {K : PySem.W.Frag} {H : Hp} {v : V} (h : Od H v) : ∃ (m : Bool) (d : PyData), Dr K H m v d ∧ Fit d := by
  cases h with
  | non => exact ⟨true, _, .non, by decide +kernel, by decide +kernel, by decide +kernel⟩
  | bl b => cases b with
    | true => exact ⟨true, _, .bl _, by decide +kernel, by decide +kernel, by decide +kernel⟩
    | false => exact ⟨true, _, .bl _, by decide +kernel, by decide +kernel, by decide +kernel⟩
  | str h =>
    simp only [List.mem_cons, List.mem_nil_iff, or_false] at h
    rcases h with rfl | rfl | rfl
    · exact ⟨true, _, .str _, by decide +kernel, by decide +kernel, by decide +kernel⟩
    · exact ⟨true, _, .str _, by decide +kernel, by decide +kernel, by decide +kernel⟩
    · exact ⟨true, _, .str _, by decide +kernel, by decide +kernel, by decide +kernel⟩
  | lst e h =>
    rcases h with rfl | rfl
    · exact ⟨true, _, .lst (SqL.of e) .nil, by decide +kernel, by decide +kernel, by decide +kernel⟩
    · exact ⟨true, _, .lst (SqL.of e) (.cons (.int _) .nil), by decide +kernel, by decide +kernel, by decide +kernel⟩
  | tup e h =>
    rcases h with rfl | rfl
    · exact ⟨true, _, .tup (SqT.of e) .nil, by decide +kernel, by decide +kernel, by decide +kernel⟩
    · exact ⟨true, _, .tup (SqT.of e) (.cons (.int _) .nil), by decide +kernel, by decide +kernel, by decide +kernel⟩
  | dic e h =>
    rcases h with rfl | rfl | rfl
    · exact ⟨false, _, .dic e .nil, by decide +kernel, by decide +kernel, by decide +kernel⟩
    · exact ⟨false, _, .dic e (.cons (.int _) .nil), by decide +kernel, by decide +kernel, by decide +kernel⟩
    · exact ⟨false, _, .dic e (.cons (.int _) .nil), by decide +kernel, by decide +kernel, by decide +kernel⟩
  | int a b => exact ⟨true, _, .int _, fit_int b⟩
/-- two lists that hold such a value show alike -/
theorem Od.same {K : PySem.W.Frag} {H : Hp} {v : V} (h : Od H v) : ∃ t, ∀ p, H p = some (.lst [v]) → Sh2 K H (.ref p) t := by
  obtain ⟨m, d, hd, f⟩ := h.dr (K := K)
  exact ⟨_, fun p hp => .inr ⟨p, m, v, [], [d], rfl, SqL.of hp, .cons hd .nil, f.sh, f.dp, f.ln, rfl⟩⟩
/-! ### the program's fate and the law's -/
def dFate : M.FateA → PyData
  | .silent p => .tuple [.str "silent", dPl p]
  | .told z p => .tuple [.str "told", .int z, dPl p]
  | .comes n l => .tuple [.str "comes", .int (n : Int), .int l]
theorem dr_fateA {K : PySem.W.Frag} {H : Hp} {fa : M.FateA} {v : V} (h : FAt H fa v) : Dr K H true v (dFate fa) := by
  cases fa with
  | silent p =>
    obtain ⟨t, q, rfl, h1, h2⟩ := h
    exact .tup (SqT.of h1) (.cons (.str _) (.cons (.tup (SqT.of h2) (dr_ints _)) .nil))
  | told z p =>
    obtain ⟨t, q, rfl, h1, h2⟩ := h
    exact .tup (SqT.of h1) (.cons (.str _) (.cons (.int _) (.cons (.tup (SqT.of h2) (dr_ints _)) .nil)))
  | comes n l =>
    obtain ⟨t, rfl, h1⟩ := h
    exact .tup (SqT.of h1) (.cons (.str _) (.cons (.int _) (.cons (.int _) .nil)))
theorem fat_ref {H : Hp} {fa : M.FateA} {v : V} (h : FAt H fa v) : ∃ t, v = .ref t := by
  cases fa with
  | silent p => exact ⟨_, h.choose_spec.choose_spec.1⟩
  | told z p => exact ⟨_, h.choose_spec.choose_spec.1⟩
  | comes n l => exact ⟨_, h.choose_spec.1⟩
/-- the law's fate is the program's -/
theorem end_fate {H : Hp} {se : Bool} {wy : M.Way} {b : Nat} {v : V} (hf : wy.fine) (h : EndAt H [.int ((N.PC (M.chE se wy.head wy.steps []) b : Nat) : Int), .int (((N.pt (M.chE se wy.head wy.steps []) [b]).getLastD 0 : Nat) : Int)] (M.firstG (M.Way.gates se wy) b) v) :
    FAt H (fateOf (M.Way.lows se wy) b (M.chE se wy.head wy.steps [])) v := by
  have ck : M.Ck (M.chE se wy.head wy.steps []) := M.ck_E hf
  have e := M.Way.lows_first se wy b
  unfold fateOf
  unfold M.firstG at e h
  rw [e]
  cases eg : (M.Way.gates se wy).find? fun g => decide (g.thr < (b : Int)) with
  | none =>
    rw [eg] at h
    obtain ⟨t, rfl, h1⟩ := h
    refine ⟨t, rfl, ?_⟩
    have := N.pt_end ck.fall b
    have pc := PC_pos ck.fall b
    rw [h1]
    unfold stretchZ
    rw [if_pos rfl]
    rw [show (b : Int) - ((N.B (M.chE se wy.head wy.steps []) (N.PC (M.chE se wy.head wy.steps []) b - 1) : Nat) : Int) = (((N.pt (M.chE se wy.head wy.steps []) [b]).getLastD 0 : Nat) : Int) by omega]
  | some g =>
    rw [eg] at h
    obtain ⟨t, q, rfl, h1, h2⟩ := h
    show FAt H (fateG g) (.ref t)
    unfold fateG
    cases ea : g.ans with
    | none =>
      rw [ea] at h2
      exact ⟨t, q, rfl, h2, h1⟩
    | some z =>
      rw [ea] at h2
      exact ⟨t, q, rfl, h2, h1⟩
theorem nd_words : Nd (.str "silent") 1 10 ∧ Nd (.str "told") 1 10 ∧ Nd (.str "comes") 1 10 := by
  refine ⟨⟨by decide +kernel, by decide +kernel, by decide +kernel, by decide +kernel⟩, ⟨by decide +kernel, by decide +kernel, by decide +kernel, by decide +kernel⟩, ⟨by decide +kernel, by decide +kernel, by decide +kernel, by decide +kernel⟩⟩
theorem nd_fate {se : Bool} {wy : M.Way} {b : Nat} (hf : wy.fine) (hb : b ≤ 1000000000000000000) : Nd (dFate (fateOf (M.Way.lows se wy) b (M.chE se wy.head wy.steps []))) 2 33 := by
  have ck : M.Ck (M.chE se wy.head wy.steps []) := M.ck_E hf
  unfold fateOf
  cases eg : (M.Way.lows se wy).find? fun g => decide (g.thr < (b : Int)) with
  | none =>
    have e1 := N.pt_end ck.fall b
    have e2 := N.pt_end_le ck.fall b
    have e3 := N.PC_le ck.fall b
    have pc := PC_pos ck.fall b
    have e4 : N.PC (M.chE se wy.head wy.steps []) b ≤ 1000000000000000000 := by
      by_cases h0 : b = 0
      · omega
      · unfold N.PC
        rw [if_neg h0]
        have := N.L_le ck.fall (b := b) (by omega)
        omega
    refine nd_tup (k := 1) (b := 10) (n := 3) (fun d hd => ?_) (Nat.le_refl 3)
    simp only [List.mem_cons, List.mem_nil_iff, or_false] at hd
    rcases hd with rfl | rfl | rfl
    · exact nd_words.2.2
    · exact nd_big (by show (((N.PC _ b : Nat) : Int)).natAbs ≤ 10 ^ 18; rw [Int.natAbs_natCast]; exact e4) _ _
    · refine nd_big ?_ _ _
      unfold stretchZ
      rw [if_pos rfl]
      rw [show (b : Int) - ((N.B (M.chE se wy.head wy.steps []) (N.PC (M.chE se wy.head wy.steps []) b - 1) : Nat) : Int) = (((N.pt (M.chE se wy.head wy.steps []) [b]).getLastD 0 : Nat) : Int) by omega, Int.natAbs_natCast]
      exact Nat.le_trans e2 hb
  | some g =>
    have hg := M.Way.lows_mem (List.mem_of_find?_eq_some eg)
    have gb := M.Way.gb se wy hf g hg
    have fd := fine_dep hf
    have pl := M.Way.places_dp wy g.place ((M.Way.gates_sub se wy).subset (List.mem_map.mpr ⟨g, hg, rfl⟩))
    have np : Nd (dPl g.place) 1 10 := (nd_pl gb.pl (by omega)).up (Nat.le_refl _) (by omega)
    show Nd (dFate (fateG g)) 2 33
    unfold fateG
    cases e : g.ans with
    | none =>
      refine nd_tup (k := 1) (b := 10) (n := 3) (fun d hd => ?_) (by show 2 ≤ 3; decide)
      simp only [List.mem_cons, List.mem_nil_iff, or_false] at hd
      rcases hd with rfl | rfl
      · exact nd_words.1
      · exact np
    | some z =>
      have := gb.an z e
      refine nd_tup (k := 1) (b := 10) (n := 3) (fun d hd => ?_) (Nat.le_refl 3)
      simp only [List.mem_cons, List.mem_nil_iff, or_false] at hd
      rcases hd with rfl | rfl | rfl
      · exact nd_words.2.1
      · exact nd_int (Nat.lt_of_lt_of_le (by omega : z.natAbs < 2000) (by decide)) _ _
      · exact np
theorem sh_fateA {K : PySem.W.Frag} {H : Hp} {se : Bool} {wy : M.Way} {b : Nat} {v : V} (hf : wy.fine) (hb : b ≤ 1000000000000000000) (h : FAt H (fateOf (M.Way.lows se wy) b (M.chE se wy.head wy.steps [])) v) : Sh2 K H v (dFate (fateOf (M.Way.lows se wy) b (M.chE se wy.head wy.steps []))).shown := by
  have n := nd_fate (se := se) hf hb
  obtain ⟨t, rfl⟩ := fat_ref h
  exact .inl (.ref (dr_fateA h) n.sh (Nat.le_trans n.dp (by decide)) n.ls (Nat.le_trans n.bk (by decide)))
theorem FAt.mono {H H' : Hp} (s : Same H H') {fa : M.FateA} {v : V} (h : FAt H fa v) : FAt H' fa v := by
  cases fa with
  | silent p =>
    obtain ⟨t, q, e, h1, h2⟩ := h
    exact ⟨t, q, e, s _ _ h1, s _ _ h2⟩
  | told z p =>
    obtain ⟨t, q, e, h1, h2⟩ := h
    exact ⟨t, q, e, s _ _ h1, s _ _ h2⟩
  | comes n l =>
    obtain ⟨t, e, h1⟩ := h
    exact ⟨t, e, s _ _ h1⟩
end CP

end
section
set_option autoImplicit false
set_option Elab.async false
set_option linter.all false
set_option maxRecDepth 100000
set_option maxHeartbeats 4000000
/-! ## ways: len, without a step, == -/
namespace WP
open PySem L2 G
abbrev sWithout : Stmt := inClass (top 48) 6
abbrev sWEq : Stmt := inClass (top 48) 4
theorem StepsAt.app {C : Addr} {H : Hp} : ∀ {s r : List M.Step} {xs ys : List V}, StepsAt C H s xs → StepsAt C H r ys → StepsAt C H (s ++ r) (xs ++ ys)
  | [], r, xs, ys, a, b => by
    unfold StepsAt at a
    subst a
    exact b
  | x :: s, r, xs, ys, a, b => by
    unfold StepsAt at a
    obtain ⟨u, us, rfl, h1, h2⟩ := a
    show StepsAt C H (x :: (s ++ r)) (u :: (us ++ ys))
    unfold StepsAt
    exact ⟨u, us ++ ys, rfl, h1, h2.app b⟩
theorem StepsAt.ne {C : Addr} {H : Hp} {s : List M.Step} {xs : List V} (h : StepsAt C H s xs) (n : 1 ≤ s.length) : xs ≠ [] := fun e => by
  have := h.len
  rw [e] at this
  simp at this
  rw [← this] at n
  simp at n
theorem StepsAt.take {C : Addr} {H : Hp} : ∀ {s : List M.Step} {xs : List V} (i : Nat), StepsAt C H s xs → StepsAt C H (s.take i) (xs.take i)
  | s, xs, 0, _ => by
    rw [List.take_zero, List.take_zero]
    unfold StepsAt
    rfl
  | [], xs, i + 1, h => by
    unfold StepsAt at h
    subst h
    unfold StepsAt
    rfl
  | y :: s, xs, i + 1, h => by
    unfold StepsAt at h
    obtain ⟨u, us, rfl, h1, h2⟩ := h
    rw [List.take_succ_cons, List.take_succ_cons]
    unfold StepsAt
    exact ⟨u, us.take i, rfl, h1, h2.take i⟩
theorem StepsAt.drop {C : Addr} {H : Hp} : ∀ {s : List M.Step} {xs : List V} (i : Nat), StepsAt C H s xs → StepsAt C H (s.drop i) (xs.drop i)
  | s, xs, 0, h => by
    rw [List.drop_zero, List.drop_zero]
    exact h
  | [], xs, i + 1, h => by
    unfold StepsAt at h
    subst h
    unfold StepsAt
    rfl
  | y :: s, xs, i + 1, h => by
    unfold StepsAt at h
    obtain ⟨u, us, rfl, h1, h2⟩ := h
    rw [List.drop_succ_cons, List.drop_succ_cons]
    exact h2.drop i
theorem sl_any {K : PySem.W.Frag} {H : Hp} {Q : VK} {t : Addr} {xs : List V} {lo hi : Option Int} (h : H t = some (.tup xs)) (k : ∀ u G, Same H G → G u = some (.tup (cutV xs lo hi)) → Q (.ref u) G) : rSlA K (.ref t) lo hi H Q :=
  ⟨t, xs, rfl, SqT.of h, fun z => k t H (Same.refl H) (by
    unfold cutV
    rw [z.1, z.2, List.drop_zero, Nat.sub_zero, List.take_length]
    exact h), fun _ p hp => k p _ (Same.of_upd hp) upd_same⟩
theorem catA_own {K : PySem.W.Frag} {H : Hp} {Q : VK} {a b : Addr} {xs ys : List V} (ha : H a = some (.tup xs)) (hb : H b = some (.tup ys)) (hl : xs.length + ys.length ≤ sizeLine) (k : ∀ c H', Same H H' → H' c = some (.tup (xs ++ ys)) → Q (.ref c) H') : rCatA K (.ref a) (.ref b) H Q :=
  ⟨a, b, xs, ys, rfl, rfl, SqT.of ha, SqT.of hb, hl, fun z => k b H (Same.refl H) (by rw [z]; exact hb), fun _ z => k a H (Same.refl H) (by rw [z, List.append_nil]; exact ha), fun _ _ p hp => k p _ (Same.of_upd hp) upd_same⟩
theorem cut_lo (xs : List V) (k : Nat) : cutV xs (some (k : Int)) none = xs.drop k := Y.cut_from xs k
theorem cut_hi (xs : List V) (k : Nat) : cutV xs none (some (k : Int)) = xs.take k := by
  unfold cutV
  rw [HT.sIx_nat, HT.sIx_none, List.drop_zero, Nat.sub_zero]
  by_cases h : k ≤ xs.length
  · rw [Nat.min_eq_left h]
  · rw [Nat.min_eq_right (by omega), List.take_of_length_le (Nat.le_refl _), List.take_of_length_le (by omega)]
section
variable {P : Program} {w : World} {K : PySem.W.Frag} {mg : Str → Option Value} {base : Heap} {C : Addr}
def spLenW (C : Addr) : Sp := fun vs H Q _ => ∃ a wy, vs = [.ref a] ∧ WayAt C H wy a ∧ Q (.int ((M.Way.steps wy).length : Nat)) H
theorem scLW : FnScope ["self"] ["self"] (defScope sLen) := ⟨rfl, rfl, rfl, by decide +kernel, rfl, by decide +kernel, by decide +kernel⟩
theorem ok_len {f : Addr} {fd : FuncData} (F : Fun K "__len__" "Way.__len__" sLen f fd) (B : Bn mg) (T : Wt K mg C) : FnOk P w K mg base CX0 1 f fd ["self"] (spLenW C) := by
  refine F.ok scLW (fun vs H Q E h => ?_) (fun cdv A outer s H vs Q E hr h => ?_)
  · obtain ⟨a, wy, rfl, _⟩ := h
    rfl
  · obtain ⟨a, wy, rfl, hw, k⟩ := h
    obtain ⟨dx, fs, t, xs, h1, h2, h3, h4⟩ := steps_fld hw
    refine ⟨_, pss_one (ps_ret (pe_callB call_len_seq (by rfl) B.len PySem.boot_len (pa_cons (pe_fld (pv 0) rfl) pa_nil))), ?_⟩
    refine ⟨_, rfl, a, C, dx, fs, _, rfl, h1, T.cl, T.nS, h2, t, xs, rfl, .inr (SqT.of h3), ?_⟩
    rw [h4.len]
    exact k
/-- without a step -/
def spOutW (C : Addr) : Sp := fun vs H Q _ => ∃ (a : Addr) (i h : Nat) (s : List M.Step), vs = [.ref a, .int (i : Int)] ∧ WayAt C H (.mk h s) a ∧ i < s.length ∧ s.length ≤ 100 ∧ M.Way.fine (.mk h (s.take i ++ s.drop (i + 1))) ∧ ∀ c H', Same H H' → WayAt C H' (.mk h (s.take i ++ s.drop (i + 1))) c → Q (.ref c) H'
theorem scOW : FnScope ["self", "position"] ["self", "position"] (defScope sWithout) := ⟨rfl, rfl, rfl, by decide +kernel, rfl, by decide +kernel, by decide +kernel⟩
theorem ok_out {f : Addr} {fd : FuncData} (F : Fun K "without" "Way.without" sWithout f fd) (B : Bn mg) (T : Wt K mg C) (MW : Mw P w K mg base C) (DW : Df P w K mg base 2 "is_within" ["value", "least", "greatest"] spWithin) : FnOk P w K mg base CX0 8 f fd ["self", "position"] (spOutW C) := by
  obtain ⟨fI, fdI, GI, MK, bI⟩ := MW.ex
  obtain ⟨fW, fdW, GW, gW, kW, bW⟩ := DW.ex
  refine F.ok scOW (fun vs H Q E h => ?_) (fun cdv A outer s H vs Q E hr h => ?_)
  · obtain ⟨a, i, h, s, rfl, _⟩ := h
    rfl
  · obtain ⟨a, i, h, sts, rfl, hw, hi, hn, hf, k⟩ := h
    refine ⟨_, pss_cons (ps_if (pt_not (pt_val (pe_call GW (hr.mono (by decide)) rfl gW kW bW .nil pass0 (pa_cons (pv 1) (pa_cons pe_int (pa_cons (pe_op op_sub (pe_callB call_len_seq (by rfl) B.len PySem.boot_len (pa_cons (pe_fld (pv 0) rfl) pa_nil)) pe_int) pa_nil)))))) ps_dead pss_nil)
      (pss_one (ps_ret (pe_make MK GI hr rfl T.g bI .nil pass0 (pa_cons (pe_fld (pv 0) rfl) (pa_cons (pe_op op_catA (pe_slice sl_tupA (pe_fld (pv 0) rfl) po_none (po_some (pv 1))) (pe_slice sl_tupA (pe_fld (pv 0) rfl) (po_some (pe_op op_add (pv 1) pe_int)) po_none)) pa_nil))))), ?_⟩
    obtain ⟨da, fa, a1, a2⟩ := head_fld hw
    obtain ⟨dc, fc, t1, xs, c1, c2, c3, c4⟩ := steps_fld hw
    have lx := c4.len
    have lx2 : xs.length = sts.length := lx
    refine ⟨_, rfl, _, rfl, a, C, dc, fc, _, rfl, c1, T.cl, T.nS, c2, t1, _, rfl, .inr (SqT.of c3), _, _, rfl, rfl, (i : Int), 0, _, rfl, ?_⟩
    rw [lx2, decide_eq_true (show (0 : Int) ≤ (i : Int) ∧ (i : Int) ≤ (sts.length : Int) - 1 by omega)]
    refine ⟨_, rfl, iteF ?_⟩
    refine ⟨_, rfl, a, C, da, fa, _, rfl, a1, T.cl, T.nH, a2, ?_⟩
    refine ⟨_, rfl, a, C, dc, fc, _, rfl, c1, T.cl, T.nS, c2, ?_⟩
    dsimp only [tNoPart]
    refine ⟨_, rfl, _, rfl, ?_⟩
    refine sl_any c3 fun u1 G1 s1 h1 => ?_
    refine ⟨_, rfl, a, C, dc, fc, _, rfl, s1 _ _ c1, T.cl, T.nS, c2, _, rfl, _, _, rfl, rfl, _, rfl, ?_⟩
    dsimp only [tNoPart]
    refine sl_any (s1 _ _ c3) fun u2 G2 s2 h2 => ?_
    rw [cut_hi] at h1
    rw [show ((i : Int) + 1) = ((i + 1 : Nat) : Int) from rfl, cut_lo] at h2
    refine catA_own (s2 _ _ h1) h2 (by rw [List.length_take, List.length_drop]; exact Nat.le_trans (show _ ≤ 200 by omega) (by decide)) fun c G3 s3 hc => ?_
    have s4 := (s1.trans s2).trans s3
    exact made_way (.inr hc) (((c4.mono s4).take i).app ((c4.mono s4).drop (i + 1))) hf fun x H' s5 wa => k x H' (s4.trans s5) wa
/-- ways alike in all their parts -/
def RWy (C : Addr) (n : Nat) : Addr → Addr → Hp → Prop := fun a b H => ∃ wy, WayAt C H wy a ∧ WayAt C H wy b ∧ wy.depth ≤ n
theorem mon_rwy (C : Addr) (n : Nat) : ∀ a b H H', Ext H H' → RWy C n a b H → RWy C n a b H' := fun a b H H' e h => by
  obtain ⟨wy, h1, h2, h3⟩ := h
  exact ⟨wy, h1.mono e, h2.mono e, h3⟩
/-- an item of a step: plain, or a way -/
def DItW (C : Addr) (n : Nat) : Eqv := fun x y H => DFlat x y H ∨ DIns C (RWy C n) x y H
theorem mon_itw (C : Addr) (n : Nat) : Mon (DItW C n) := mon_flat.or (mon_ins (mon_rwy C n))
theorem int_flat (z : Int) : eqV (.int z) (.int z) = true := by simp [eqV]
theorem str_flat (s : Str) : eqV (.str s) (.str s) = true := by simp [eqV]
theorem step_eq {H : Hp} {n : Nat} : ∀ {s : M.Step} {x y : V}, M.Step.dep s ≤ n → StepAt C H s x → StepAt C H s y → DTup K (DItW C n) x y H
  | .road size ts lw, x, y, d, h1, h2 => by
    unfold StepAt at h1 h2
    obtain ⟨t, rfl, a⟩ := h1
    obtain ⟨u, rfl, b⟩ := h2
    exact ⟨t, u, _, _, rfl, rfl, SqT.of a, SqT.of b, .cons (.inl ⟨rfl, rfl, str_flat _⟩) (.cons (.inl ⟨rfl, rfl, int_flat _⟩) (.cons (.inl ⟨rfl, rfl, str_flat _⟩) (.cons (.inl ⟨rfl, rfl, str_flat _⟩) .nil)))⟩
  | .join most, x, y, d, h1, h2 => by
    unfold StepAt at h1 h2
    obtain ⟨t, rfl, a⟩ := h1
    obtain ⟨u, rfl, b⟩ := h2
    exact ⟨t, u, _, _, rfl, rfl, SqT.of a, SqT.of b, .cons (.inl ⟨rfl, rfl, str_flat _⟩) (.cons (.inl ⟨rfl, rfl, int_flat _⟩) .nil)⟩
  | .tunnel w most tw, x, y, d, h1, h2 => by
    unfold StepAt at h1 h2
    obtain ⟨t, a0, rfl, a, wa⟩ := h1
    obtain ⟨u, b0, rfl, b, wb⟩ := h2
    obtain ⟨da, fa, g1, _⟩ := head_fld wa
    obtain ⟨db, fb, g2, _⟩ := head_fld wb
    exact ⟨t, u, _, _, rfl, rfl, SqT.of a, SqT.of b, .cons (.inl ⟨rfl, rfl, str_flat _⟩) (.cons (.inr ⟨a0, b0, da, db, fa, fb, rfl, rfl, g1, g2, w, wa, wb, d⟩) (.cons (.inl ⟨rfl, rfl, int_flat _⟩) (.cons (.inl ⟨rfl, rfl, str_flat _⟩) .nil)))⟩
theorem steps_eq {H : Hp} {n : Nat} : ∀ {s : List M.Step} {xs ys : List V}, M.Step.deepest s ≤ n → StepsAt C H s xs → StepsAt C H s ys → Prs (DTup K (DItW C n)) xs ys H
  | [], xs, ys, d, h1, h2 => by
    unfold StepsAt at h1 h2
    subst h1 h2
    exact .nil
  | s :: r, xs, ys, d, h1, h2 => by
    rw [M.deep_cons] at d
    unfold StepsAt at h1 h2
    obtain ⟨x, xs, rfl, a1, a2⟩ := h1
    obtain ⟨y, ys, rfl, b1, b2⟩ := h2
    exact .cons (step_eq (by omega) a1 b1) (steps_eq (by omega) a2 b2)
theorem scWEq : FnScope ["self", "other"] ["self", "other"] (defScope sWEq) := ⟨rfl, rfl, rfl, by decide +kernel, rfl, by decide +kernel, by decide +kernel⟩
theorem ok_weq {k n : Nat} {f : Addr} {fd : FuncData} (F : Fun K "__eq__" "Way.__eq__" sWEq f fd) (B : Bn mg) (T : Wt K mg C) (G0 : FnOk P w K mg base CX0 k f fd ["self", "other"] (spEq (RWy C n))) (O : WO.Own K C f "__eq__") (b : Binds K fd ["self", "other"] []) : FnOk P w K mg base CX0 (k + 3) f fd ["self", "other"] (spEq (RWy C (n + 1))) := by
  refine F.ok scWEq (fun vs H Q E h => ?_) (fun cdv A outer s H vs Q E hr h => ?_)
  · obtain ⟨a, b, rfl, _⟩ := h
    rfl
  · obtain ⟨x, y, rfl, ⟨wy, ha, hb, hd⟩, kk⟩ := h
    refine ⟨_, pss_one (ps_ret (pe_and (pe_callB call_isi (by rfl) B.isi (by decide +kernel) (pa_cons (pv 1) (pa_cons (pe_glob (v := .ref C) rfl T.g rfl) pa_nil)))
      (pe_and (pe_cmpR op_eq (pe_fld (pv 0) rfl) (pe_fld (pv 1) rfl) (nomark _))
      (pe_one (pe_cmpR (op_eqG (rcG_tup (mon_tup (mon_itw C n)) (eqG_tup (mon_itw C n) ((eqG_flat.mono (Nat.zero_le k)).or (eqG_ins G0 O.at' O.fn b pass0)))) hr) (pe_fld (pv 0) rfl) (pe_fld (pv 1) rfl) (nomark _)))))), ?_⟩
    obtain ⟨da, fa, a1, a2⟩ := head_fld ha
    obtain ⟨db, fb, b1, b2⟩ := head_fld hb
    obtain ⟨dc, fc, t1, xs, c1, c2, c3, c4⟩ := steps_fld ha
    obtain ⟨de, fe, t2, ys, e1, e2, e3, e4⟩ := steps_fld hb
    refine ⟨_, rfl, _, _, _, _, true, rfl, .own C, .base (.ins b1 T.cl T.iA T.iN T.iT T.iM), ?_, _, rfl, iteT ?_⟩
    · unfold PySem.W.kitOne
      rw [if_pos (by simp)]
    refine ⟨_, rfl, x, C, da, fa, _, rfl, a1, T.cl, T.nH, a2, _, rfl, y, C, db, fb, _, rfl, b1, T.cl, T.nH, b2, rfl, _, rfl, ?_⟩
    rw [decide_eq_true rfl]
    refine iteT ⟨_, rfl, x, C, dc, fc, _, rfl, c1, T.cl, T.nS, c2, _, rfl, y, C, de, fe, _, rfl, e1, T.cl, T.nS, e2, ?_⟩
    obtain ⟨wh, st⟩ := wy
    unfold M.Way.depth at hd
    change StepsAt C H st xs at c4
    change StepsAt C H st ys at e4
    exact ⟨⟨t1, t2, xs, ys, rfl, rfl, SqT.of c3, SqT.of e3, steps_eq (by omega) c4 e4⟩, kk⟩
theorem df_weq {f : Addr} {fd : FuncData} (F : Fun K "__eq__" "Way.__eq__" sWEq f fd) (B : Bn mg) (T : Wt K mg C) (O : WO.Own K C f "__eq__") (b : Binds K fd ["self", "other"] []) : ∀ n, FnOk P w K mg base CX0 (1 + 3 * n) f fd ["self", "other"] (spEq (RWy C n))
  | 0 => F.ok scWEq (fun vs H Q E h => by
      obtain ⟨a, b, rfl, _⟩ := h
      rfl) (fun cdv A outer s H vs Q E hr h => by
      exfalso
      obtain ⟨a, b, _, ⟨wy, _, _, hd⟩, _⟩ := h
      have := M.depth_pos wy
      omega)
  | n + 1 => ok_weq F B T (df_weq F B T O b n) O b
end
end WP

end
section
set_option autoImplicit false
set_option Elab.async false
set_option linter.all false
set_option maxRecDepth 100000
set_option maxHeartbeats 4000000
/-! ## a chain, a way, against itself -/
namespace CP
open PySem L2 G Y
section
variable {P : Program} {w : World} {K : PySem.W.Frag} {mg : Str → Option Value} {base : Heap} {C CW : Addr}
theorem ok_ceq {f : Addr} {fd : FuncData} (F : Fun K "__eq__" "Chain.__eq__" sCEq f fd) (B : Bn mg) (T : Ct K mg C) (T2 : Cn2 K C) : FnOk P w K mg base CX0 1 f fd ["self", "other"] (spCEq C) := by
  refine F.ok scEq (fun vs H Q E h => ?_) (fun cdv A outer s H vs Q E hr h => ?_)
  · obtain ⟨a, b, l, rfl, _⟩ := h
    rfl
  · obtain ⟨a, b, l, rfl, ha, hb, k⟩ := h
    refine ⟨_, pss_one (ps_ret (pe_and (pe_callB call_isi (by rfl) B.isi (by decide +kernel) (pa_cons (pv 1) (pa_cons (pe_glob (v := .ref C) rfl T.g rfl) pa_nil)))
      (pe_one (pe_cmpR (op_eqD hr.units) (pe_fld (pv 0) rfl) (pe_fld (pv 1) rfl) (nomark _))))), ?_⟩
    obtain ⟨dx, t, u, h1, h2, h3⟩ := ha
    obtain ⟨dy, t', u', g1, g2, g3⟩ := hb
    refine ⟨_, rfl, _, _, _, _, true, rfl, .own C, .base (.ins g1 T.cl T2.iA T2.iN T2.iT T2.iM), ?_, _, rfl, iteT ⟨_, rfl, a, C, dx, _, _, rfl, h1, T.cl, T.nC, cfl_cuts t u, _, rfl, b, C, dy, _, _, rfl, g1, T.cl, T.nC, cfl_cuts t' u', ?_⟩⟩
    · unfold PySem.W.kitOne
      rw [if_pos (by simp)]
    · exact ⟨_, _, .tup (SqT.of h2) (dp_ints l), .tup (SqT.of g2) (dp_ints l), shp_tup l, shp_tup l, by rw [eqv_tup]; exact k _ (Same.refl _)⟩
theorem way_is {H : Hp} {wy : M.Way} {a : Addr} (h : WP.WayAt C H wy a) : WO.InsC C H a := by
  obtain ⟨dx, fs, h1, _⟩ := WP.head_fld h
  exact ⟨dx, fs, h1⟩
structure Ew (P : Program) (w : World) (K : PySem.W.Frag) (mg : Str → Option Value) (base : Heap) (C : Addr) : Prop where
  ex : ∃ (f : Addr) (fd : FuncData), FnOk P w K mg base CX0 10 f fd ["self", "other"] (spEq (WP.RWy C 3)) ∧ WO.Own K C f "__eq__" ∧ Binds K fd ["self", "other"] []
theorem eq_way {H : Hp} {Q : VK} {x y : Addr} {wy : M.Way} (hx : WP.WayAt CW H wy x) (hy : WP.WayAt CW H wy y) (hd : wy.depth ≤ 3) (k : ∀ G, Same H G → Q (.bl true) G) : WO.rEqO CW (spEq (WP.RWy CW 3)) E0 (.ref x) (.ref y) H Q :=
  ⟨x, y, rfl, rfl, way_is hx, way_is hy, x, y, rfl, ⟨wy, hx, hy, hd⟩, fun G s => ⟨_, rfl, k G s⟩⟩
theorem eq_chain {H : Hp} {Q : VK} {x y : Addr} {l : List Nat} (hx : ChAt C H l x) (hy : ChAt C H l y) (k : ∀ G, Same H G → Q (.bl true) G) : WO.rEqO C (spCEq C) E0 (.ref x) (.ref y) H Q :=
  ⟨x, y, rfl, rfl, ch_isC hx, ch_isC hy, x, y, l, rfl, hx, hy, fun G s => ⟨_, rfl, k G s⟩⟩
theorem nb_way {H : Hp} {wy : M.Way} {a : Addr} (T : WP.Wt K mg CW) (hk : PySem.W.kitOne K (.ref CW) (.type "int") = some false) (h : WP.WayAt CW H wy a) : NB K H (.ref a) := by
  obtain ⟨dx, fs, h1, _⟩ := WP.head_fld h
  exact .inl (.inr ⟨_, .base (.ins h1 T.cl T.iA T.iN T.iT T.iM), hk⟩)
theorem nb_chain {H : Hp} {l : List Nat} {a : Addr} (T : Ct K mg C) (T2 : Cn2 K C) (hk : PySem.W.kitOne K (.ref C) (.type "int") = some false) (h : ChAt C H l a) : NB K H (.ref a) := by
  obtain ⟨dx, t, u, h1, _⟩ := h
  exact .inl (.inr ⟨_, .base (.ins h1 T.cl T2.iA T2.iN T2.iT T2.iM), hk⟩)
end
end CP

end
section
set_option autoImplicit false
set_option Elab.async false
set_option linter.all false
set_option maxRecDepth 100000
set_option maxHeartbeats 4000000
/-! ## the law -/
namespace CP
open PySem L2 G Y QR
abbrev sLaw : Stmt := S.top 70
section
variable {P : Program} {w : World} {K : PySem.W.Frag} {mg : Str → Option Value} {base : Heap} {C CW CB : Addr}
def spLaw (K : PySem.W.Frag) : Sp := fun vs H Q _ => ∃ (a : Addr) (ns : List Int), vs = [.ref a] ∧ SqL K H a (ns.map V.int) ∧ ns.length ≤ 63 ∧ (∀ z ∈ ns, Builtin.Int.intBits z ≤ 1048576) ∧ ∀ H', Q (.bl true) H'
abbrev NLa : List Str := ["script", "start", "stream", "plan", "one", "far", "odd", "value", "kind", "thing", "caught", "kept", "body"]
theorem scLa : FnScope NLa ["script"] (defScope sLaw) := ⟨rfl, rfl, rfl, by decide +kernel, rfl, by decide +kernel, by decide +kernel⟩
theorem cuts_one : Cuts [1] := ⟨⟨by decide, (fun d hd => by cases hd), trivial⟩, fun c hc => by rw [List.mem_singleton.mp hc]; decide, by decide⟩
theorem draw_pw {σ : L2.St} {H : Hp} {Q : VK} {E : XK} {p : Addr} {i : Nat} (hσ : σ[i]? = some (some (.ref p))) (h : S.At H p) (k : ∀ j H', 0 ≤ j → j < 10 ^ Int.toNat 18 → Bt p H H' → Q (.int j) H') :
    tCall S.spDraw [] E (tCons (tVar i) (tCons (tOp (rI (fun i j => 0 ≤ j ∧ (Builtin.Int.intBits i : Int) * j ≤ 2 ^ 27) fun i j => .int (i ^ j.toNat)) (tC (.int 10)) (tC (.int 18))) tNil)) σ H Q :=
  ⟨_, hσ, _, _, rfl, rfl, ⟨by decide, by decide⟩, draw_at (E := E) h (by decide +kernel) (by decide +kernel) k⟩
theorem ok_law {f : Addr} {fd : FuncData} (F : Fun K "law" "law" sLaw f fd) (B : Bn mg) (TC : Ct K mg C) (T2 : Cn2 K C) (TW : WP.Wt K mg CW) (kC : PySem.W.kitOne K (.ref C) (.type "int") = some false) (kW0 : PySem.W.kitOne K (.ref CW) (.type "int") = some false)
    (DU : Df P w K mg base 1 "_law_stream" ["script", "start"] (S.spSource K)) (DD : Df P w K mg base 1 "_law_draw" ["stream", "size"] S.spDraw)
    (DL : Df P w K mg base 10 "_law_plan" ["stream", "depth", "base"] (spLPlan 3)) (DW : Df P w K mg base 11 "_law_way" ["plan"] (spLWay CW 3)) (DS : G.Du P w K mg base 1 "_law_same" ["one", "two"] (S.spSame2 K))
    (DR : Df P w K mg base 20 "_law_refused" ["one", "value", "kind"] (spRefused K CW 3)) (DT : DFt P w K mg base 19 (spFate2 K C CW CB 3)) (DF : Df P w K mg base 9 "_law_fate" ["plan", "body", "kind"] (spLFate 3)) (MW : Mw P w K mg base C) (DE : Ew P w K mg base CW) (DC : Oe P w K mg base C 1 "__eq__" ["self", "other"] (spCEq C)) :
    G.Ok P w K mg base CX0 21 f fd ["script"] (spLaw K) := by
  obtain ⟨fU, fdU, GU, gU, kU, bU⟩ := DU.ex
  obtain ⟨fD, fdD, GD, gD, kD, bD⟩ := DD.ex
  obtain ⟨fL, fdL, GL, gL, kL, bL⟩ := DL.ex
  obtain ⟨fW, fdW, GW, gW, kW, bW⟩ := DW.ex
  obtain ⟨fS, fdS, GS, gS, kS, bS⟩ := DS.ex
  obtain ⟨fR, fdR, GR, gR, kR, bR⟩ := DR.ex
  obtain ⟨fT, fdT, GT, gT, kT, kbT⟩ := DT.ex
  obtain ⟨fF, fdF, GF, gF, kF, bF⟩ := DF.ex
  obtain ⟨fI, fdI, GI, MK, bI⟩ := MW.ex
  obtain ⟨fW2, fdW2, GW2, OW2, bW2⟩ := DE.ex
  obtain ⟨fC2, fdC2, GC2, OC2, bC2⟩ := DC.ex
  refine G.mk F scLa (fun vs H Q E h => ?_) (fun cdv A outer s H vs Q E hg hr h => ?_)
  · obtain ⟨a, ns, rfl, _⟩ := h
    rfl
  · obtain ⟨a, ns, rfl, hS, hl, hb, k⟩ := h
    refine ⟨_, pss_cons (ps_for PassesOwn.never rfl (pi_range1 (by rfl) B.range (pa_cons (pe_callB (call_max2 rfl) (by rfl) B.max (by decide +kernel) (pa_cons pe_int (pa_cons (pe_callB (call_min2 rfl) (by rfl) B.min (by decide +kernel) (pa_cons pe_int (pa_cons (pe_callB call_len_seq (by rfl) B.len PySem.boot_len (pa_cons (pv 0) pa_nil)) pa_nil))) pa_nil))) pa_nil)) (pg_name (i := 1) scLa.nd rfl (Or.inl rfl)) (pss_cons (ps_set (i := 2) scLa.nd rfl (Or.inl rfl) (pe_call GU (hr.mono (by decide)) rfl gU kU bU .nil pass0 (pa_cons (pv 0) (pa_cons (pv 1) pa_nil))))
      (pss_cons (ps_set (i := 3) scLa.nd rfl (Or.inl rfl) (pe_call GL (hr.mono (by decide)) rfl gL kL bL .nil pass0 (pa_cons (pv 2) (pa_cons (pe_int) (pa_cons (pe_int) pa_nil)))))
      (pss_cons (ps_set (i := 4) scLa.nd rfl (Or.inl rfl) (pe_call GW (hr.mono (by decide)) rfl gW kW bW .nil pass0 (pa_cons (pv 3) pa_nil)))
      (pss_cons (ps_set (i := 5) scLa.nd rfl (Or.inl rfl) (pe_op op_add (pe_op op_add (pe_op op_powN pe_int pe_int) (pe_int)) (pe_call GD (hr.mono (by decide)) rfl gD kD bD .nil pass0 (pa_cons (pv 2) (pa_cons (pe_op op_powN pe_int pe_int) pa_nil)))))
      (pss_cons (ps_set (i := 6) scLa.nd rfl (Or.inl rfl) (pe_lst (pa_cons (pe_non) (pa_cons (pe_bl) (pa_cons (pe_bl) (pa_cons (pe_str) (pa_cons (pe_str) (pa_cons (pe_str) (pa_cons (pe_lst pa_nil) (pa_cons (pe_lst (pa_cons (pe_int) pa_nil)) (pa_cons (pe_tup pa_nil) (pa_cons (pe_tup (pa_cons (pe_int) pa_nil)) (pa_cons (pe_dnewK) (pa_cons (pe_disp (pps_cons pe_str pe_int pps_nil) rfl rfl (fun z => by cases z) (by decide)) (pa_cons (pe_disp (pps_cons pe_int pe_int pps_nil) rfl rfl (fun z => by cases z) (by decide)) (pa_cons (pe_op op_sub (pe_int) (pe_int)) (pa_cons (pe_op op_sub (pe_int) (pv 5)) (pa_cons (pv 5) pa_nil))))))))))))))))))
      (pss_cons (ps_expr (pe_bm PySem.F.plainAttrs_list PySem.F.slot_list_append PySem.F.type_list_append mt_append (pv 6) (pa_cons (pe_op op_add (pe_op op_powN pe_int pe_int) (pe_int)) pa_nil)))
      (pss_cons (ps_for PassesOwn.never rfl (pi_list (pv 6)) (pg_name (i := 7) scLa.nd rfl (Or.inl rfl)) (pss_one (ps_for PassesOwn.never rfl (pi_tup (pe_tup (pa_cons (pe_bl) (pa_cons (pe_bl) pa_nil)))) (pg_name (i := 8) scLa.nd rfl (Or.inl rfl)) (pss_one (ps_if (pt_not (pt_val (pe_callG hg GS (hr.mono (by decide)) rfl gS kS bS pass0 (pa_cons (pe_call GR (hr.mono (by decide)) rfl gR kR bR .nil pass0 (pa_cons (pv 4) (pa_cons (pv 7) (pa_cons (pv 8) pa_nil)))) (pa_cons (pe_lst (pa_cons (pv 7) pa_nil)) pa_nil))))) (pss_one (ps_ret pe_bl)) (pss_nil))))))
      (pss_cons (ps_for PassesOwn.never rfl (pi_list (pe_lst (pa_cons (pv 4) (pa_cons (pe_make MK GI (hr.mono (by decide)) rfl TC.g bI .nil pass0 (pa_cons (pe_lst (pa_cons (pe_int) pa_nil)) pa_nil)) pa_nil)))) (pg_name (i := 9) scLa.nd rfl (Or.inl rfl)) (pss_cons (ps_set (i := 10) scLa.nd rfl (Or.inl rfl) (pe_call GR (hr.mono (by decide)) rfl gR kR bR .nil pass0 (pa_cons (pv 4) (pa_cons (pv 9) (pa_cons (pe_bl) pa_nil)))))
      (pss_one (ps_if (PW.pt (pw_or (pt_cmpR (LN.op_eqNil hr.units) (pv 10) (pe_lst pa_nil) (nomark _)) (pw_or1 (pt_not (pt_cmpR (LN.op_or (WO.op_eqO GW2 (hr.mono (by decide)) OW2 bW2 pass0) (WO.op_eqO GC2 (hr.mono (by decide)) OC2 bC2 pass0)) (pe_ix ix_list (pv 10) pe_int (fun _ _ => rfl)) (pv 9) (nomark _)))))) (pss_one (ps_ret pe_bl)) (pss_nil)))))
      (pss_cons (ps_set (i := 9) scLa.nd rfl (Or.inl rfl) (pe_lst (pa_cons (pe_call GD (hr.mono (by decide)) rfl gD kD bD .nil pass0 (pa_cons (pv 2) (pa_cons (pe_int) pa_nil))) pa_nil)))
      (pss_cons (ps_set (i := 11) scLa.nd rfl (Or.inl rfl) (pe_call GR (hr.mono (by decide)) rfl gR kR bR .nil pass0 (pa_cons (pv 4) (pa_cons (pv 9) (pa_cons (pe_bl) pa_nil)))))
      (pss_cons (ps_expr (pe_bm PySem.F.plainAttrs_list PySem.F.slot_list_append PySem.F.type_list_append mt_append (pv 9) (pa_cons (pe_int) pa_nil)))
      (pss_cons (ps_if (pt_not (pt_val (pe_callG hg GS (hr.mono (by decide)) rfl gS kS bS pass0 (pa_cons (pv 11) (pa_cons (pe_lst (pa_cons (pv 9) pa_nil)) pa_nil))))) (pss_one (ps_ret pe_bl)) (pss_nil))
      (pss_one (ps_for PassesOwn.never rfl (pi_list (pe_lst (pa_cons (pe_int) (pa_cons (pe_op op_powN pe_int pe_int) (pa_cons (pe_call GD (hr.mono (by decide)) rfl gD kD bD .nil pass0 (pa_cons (pv 2) (pa_cons (pe_op op_powN pe_int pe_int) pa_nil))) pa_nil))))) (pg_name (i := 12) scLa.nd rfl (Or.inl rfl)) (pss_one (ps_for PassesOwn.never rfl (pi_tup (pe_tup (pa_cons (pe_bl) (pa_cons (pe_bl) pa_nil)))) (pg_name (i := 8) scLa.nd rfl (Or.inl rfl)) (pss_cons (ps_if (pt_cmpR (op_neD hr.units) (pe_call GR (hr.mono (by decide)) rfl gR kR bR .nil pass0 (pa_cons (pv 4) (pa_cons (pv 12) (pa_cons (pv 8) pa_nil)))) (pe_lst pa_nil) (nomark _)) (pss_one (ps_ret pe_bl)) (pss_nil))
      (pss_one (ps_if (pt_not (pt_val (pe_callG hg GS (hr.mono (by decide)) rfl gS kS bS pass0 (pa_cons (pe_callK GT (hr.mono (by decide)) rfl gT kT kbT (passes_call takes0 fun _ _ _ _ h => h) (pa_cons (pv 4) (pa_cons (pv 12) pa_nil)) (pk_cons (pv 8) pk_nil)) (pa_cons (pe_call GF (hr.mono (by decide)) rfl gF kF bF .nil pass0 (pa_cons (pv 3) (pa_cons (pv 12) (pa_cons (pv 8) pa_nil)))) pa_nil))))) (pss_one (ps_ret pe_bl)) (pss_nil)))))))))))))))))))))
      (pss_one (ps_ret (pe_bl))), ?_⟩
    refine ⟨_, rfl, a, _, rfl, .inl hS, _, _, rfl, _, _, rfl, _, rfl, by split <;> omega, by split <;> (try split) <;> omega, for_range (n := Int.toNat _) (fun i σ G => Same H G ∧ ∃ q1 q2 q3 q4 q5 q6 q7 q8 q9 q10 q11 q12, σ = [some (.ref a), q1, q2, q3, q4, q5, q6, q7, q8, q9, q10, q11, q12])
      ⟨Same.refl H, _, _, _, _, _, _, _, _, _, _, _, _, rfl⟩ ?_ ?_⟩
    · rintro i σ G hi ⟨s0, q1, q2, q3, q4, q5, q6, q7, q8, q9, q10, q11, q12, rfl⟩
      dsimp only
      refine set_then (i := 2) ⟨_, rfl, _, rfl, a, ns, i, by show [V.ref a, V.int (0 + (i : Int))] = _; rw [Int.zero_add], ?_, s0.seq hS, hl, hb, fun p r m hp hf => ?_⟩
      · split at hi <;> (try split at hi) <;> omega
      have hp0 : H p = none := s0.free hp
      have s1 : Same H (upd G p (.lst (S.Two r m))) := s0.trans (of_upd hp)
      have at1 : S.At (upd G p (.lst (S.Two r m))) p := ⟨r, m, upd_same, hf⟩
      generalize upd G p (.lst (S.Two r m)) = G1 at s1 at1 ⊢
      clear hp hf
      dsimp only
      refine set_then (i := 3) ⟨_, rfl, p, 1, 0, rfl, at1, by decide, by decide, by decide, fun wy pv G2 b2 pl sm => ?_⟩
      have hf := sm.fine
      have hd := fine_dep hf
      refine set_then (i := 4) ⟨_, rfl, pv, wy, rfl, pl, hf, hd, fun x G3 s3 hx => ?_⟩
      have s13 := (sameBt s1 hp0 b2).trans s3
      have pl3 := pl.keep (same_keepT s3)
      have at3 := sameAt s3 b2.2
      clear pl b2 at1 s1
      -- far
      refine set_then (i := 5) ⟨_, _, rfl, rfl, ⟨by decide, by decide⟩, _, _, rfl, rfl, _, rfl, _, _, rfl, rfl, ⟨by decide, by decide⟩, ?_⟩
      dsimp only [tNil, List.cons_append, List.nil_append]
      refine draw_at at3 (by decide +kernel) (by decide +kernel) fun j G4 j0 j1 b4 => ⟨_, _, rfl, rfl, ?_⟩
      obtain ⟨F0, hF, hF1, hF2⟩ : ∃ z : Int, 10 ^ Int.toNat 18 + 1 + j = z ∧ 1000000000000000000 < z ∧ z < 1000000000000000000000 := ⟨_, rfl, by
        have e18 : (10 ^ Int.toNat 18 : Int) = 1000000000000000000 := by decide +kernel
        omega, by
        have e18 : (10 ^ Int.toNat 18 : Int) = 1000000000000000000 := by decide +kernel
        have e20 : (10 ^ Int.toNat 20 : Int) = 100000000000000000000 := by decide +kernel
        omega⟩
      dsimp only
      rw [hF]
      clear hF j0 j1
      have s4 := sameBt s13 hp0 b4
      have kp4 := bt_keepT b4 at3
      have pl4 := pl3.keep kp4
      have hx4 := hx.keep kp4
      have at4 := b4.2
      clear pl3 hx at3 s13 s3 b4 kp4
      -- odd
      refine set_then (i := 6) ⟨line2.2.2.2, fun a1 n1 => ?_⟩
      have g1 := of_upd (o := .lst []) n1
      have e1 : upd G4 a1 (.lst []) a1 = some (.lst []) := upd_same
      generalize upd G4 a1 (.lst []) = H1 at g1 e1 ⊢
      refine ⟨line2.2.2.1, fun a2 n2 => ?_⟩
      have g2 := of_upd (o := .lst [V.int 5]) n2
      have e2 : upd H1 a2 (.lst [V.int 5]) a2 = some (.lst [V.int 5]) := upd_same
      generalize upd H1 a2 (.lst [V.int 5]) = H2 at g2 e2 ⊢
      refine ⟨line2.2.2.2, fun a3 n3 => ?_⟩
      have g3 := of_upd (o := .tup []) n3
      have e3 : upd H2 a3 (.tup []) a3 = some (.tup []) := upd_same
      generalize upd H2 a3 (.tup []) = H3 at g3 e3 ⊢
      refine ⟨line2.2.2.1, fun a4 n4 => ?_⟩
      have g4 := of_upd (o := .tup [V.int 5]) n4
      have e4 : upd H3 a4 (.tup [V.int 5]) a4 = some (.tup [V.int 5]) := upd_same
      generalize upd H3 a4 (.tup [V.int 5]) = H4 at g4 e4 ⊢
      refine fun a5 n5 => ?_
      have g5 := of_upd (o := .dK []) n5
      have e5 : upd H4 a5 (.dK []) a5 = some (.dK []) := upd_same
      generalize upd H4 a5 (.dK []) = H5 at g5 e5 ⊢
      refine fun a6 n6 => ⟨upd_same, [(.inr "a", .int 5)], rfl, by decide, ?_⟩
      have g6 := add_upd (o := .dK (mergeK [] [((.inr "a" : Key), V.int 5)])) n6 (of_upd (o := .dK []) n6)
      have e6 : upd (upd H5 a6 (.dK [])) a6 (.dK (mergeK [] [((.inr "a" : Key), V.int 5)])) a6 = some (.dK [(.inr "a", .int 5)]) := by
        rw [upd_same]
        rfl
      generalize upd (upd H5 a6 (.dK [])) a6 (.dK (mergeK [] [((.inr "a" : Key), V.int 5)])) = H6 at g6 e6 ⊢
      refine fun a7 n7 => ⟨upd_same, [(.inl 1, .int 1)], rfl, by decide, ?_⟩
      have g7 := add_upd (o := .dK (mergeK [] [((.inl 1 : Key), V.int 1)])) n7 (of_upd (o := .dK []) n7)
      have e7 : upd (upd H6 a7 (.dK [])) a7 (.dK (mergeK [] [((.inl 1 : Key), V.int 1)])) a7 = some (.dK [(.inl 1, .int 1)]) := by
        rw [upd_same]
        rfl
      generalize upd (upd H6 a7 (.dK [])) a7 (.dK (mergeK [] [((.inl 1 : Key), V.int 1)])) = H7 at g7 e7 ⊢
      refine ⟨_, _, rfl, rfl, _, rfl, _, _, rfl, rfl, _, rfl, Nat.le_trans (show 16 ≤ 1000 by decide) (by decide), fun D nD => ?_⟩
      dsimp only [tNil, List.cons_append, List.nil_append]
      have odL : ∀ v ∈ ([.non, .bl true, .bl false, .str "", .str "5", .str "a", .ref a1, .ref a2, .ref a3, .ref a4, .ref a5, .ref a6, .ref a7, .int (0 - 1), .int (0 - F0), .int F0] : List V), Od H7 v := fun v hv => by
        simp only [List.mem_cons, List.mem_nil_iff, or_false] at hv
        rcases hv with rfl | rfl | rfl | rfl | rfl | rfl | rfl | rfl | rfl | rfl | rfl | rfl | rfl | rfl | rfl | rfl
        · exact .non
        · exact .bl _
        · exact .bl _
        · exact .str (by simp)
        · exact .str (by simp)
        · exact .str (by simp)
        · exact .lst (g7 _ _ (g6 _ _ (g5 _ _ (g4 _ _ (g3 _ _ (g2 _ _ e1)))))) (.inl rfl)
        · exact .lst (g7 _ _ (g6 _ _ (g5 _ _ (g4 _ _ (g3 _ _ e2))))) (.inr rfl)
        · exact .tup (g7 _ _ (g6 _ _ (g5 _ _ (g4 _ _ e3)))) (.inl rfl)
        · exact .tup (g7 _ _ (g6 _ _ (g5 _ _ e4))) (.inr rfl)
        · exact .dic (g7 _ _ (g6 _ _ e5)) (.inl rfl)
        · exact .dic (g7 _ _ e6) (.inr (.inl rfl))
        · exact .dic e7 (.inr (.inr rfl))
        · exact .int (by omega) (by decide)
        · exact .int (by omega) (Nat.lt_of_lt_of_le (show (0 - F0).natAbs < 1000000000000000000000 by omega) (by decide))
        · exact .int (by omega) (Nat.lt_of_lt_of_le (show F0.natAbs < 1000000000000000000000 by omega) (by decide))
      have g17 := g1.trans (g2.trans (g3.trans (g4.trans (g5.trans (g6.trans g7)))))
      have lL : ([.non, .bl true, .bl false, .str "", .str "5", .str "a", .ref a1, .ref a2, .ref a3, .ref a4, .ref a5, .ref a6, .ref a7, .int (0 - 1), .int (0 - F0), .int F0] : List V).length = 16 := rfl
      generalize ([.non, .bl true, .bl false, .str "", .str "5", .str "a", .ref a1, .ref a2, .ref a3, .ref a4, .ref a5, .ref a6, .ref a7, .int (0 - 1), .int (0 - F0), .int F0] : List V) = vals at odL lL ⊢
      clear g1 g2 g3 g4 g5 g6 g7 e1 e2 e3 e4 e5 e6 e7 n1 n2 n3 n4 n5 n6 n7 hF1 hF2
      have g8 := of_upd (o := .lst vals) nD
      have e8 : upd H7 D (.lst vals) D = some (.lst vals) := upd_same
      refine ⟨_, rfl, .inl ⟨rfl, _, SqL.of e8⟩, _, _, rfl, rfl, ⟨by decide, by decide⟩, _, _, rfl, rfl, D, vals, _, rfl, rfl, e8, small1000 (by omega), ?_⟩
      have odM : ∀ v ∈ vals ++ [V.int (10 ^ Int.toNat 18 + 1)], Od H7 v := fun v hv => by
        rcases List.mem_append.mp hv with q | q
        · exact odL v q
        · rw [List.mem_singleton.mp q]
          exact .int (by decide +kernel) (by decide +kernel)
      have g9 := add_upd (o := .lst (vals ++ [V.int (10 ^ Int.toNat 18 + 1)])) nD g8
      have e9 : upd (upd H7 D (.lst vals)) D (.lst (vals ++ [V.int (10 ^ Int.toNat 18 + 1)])) D = some (.lst (vals ++ [V.int (10 ^ Int.toNat 18 + 1)])) := upd_same
      dsimp only
      generalize upd (upd H7 D (.lst vals)) D (.lst (vals ++ [V.int (10 ^ Int.toNat 18 + 1)])) = H8 at g9 e9 ⊢
      have odN : ∀ v ∈ vals ++ [V.int (10 ^ Int.toNat 18 + 1)], Od H8 v := fun v hv => (odM v hv).mono g9
      have lN : (vals ++ [V.int (10 ^ Int.toNat 18 + 1)]).length = 17 := by rw [List.length_append, lL]; rfl
      generalize vals ++ [V.int (10 ^ Int.toNat 18 + 1)] = vs17 at e9 odN lN ⊢
      have g19 := g17.trans g9
      have s8 := s4.trans g19
      have pl8 := pl4.keep (same_keepT g19)
      have hx8 := hx4.mono g19
      have at8 := sameAt g19 at4
      clear odL odM lL g8 e8 g9 g17 g19 nD pl4 hx4 at4 s4
      refine ⟨_, rfl, D, rfl, ⟨_, SqL.of e9⟩, ?_⟩
      refine for_it walk_list (fun j σ G => Same H8 G ∧ ∃ q7 q8, σ = [some (.ref a), some (.int (0 + (i : Int))), some (.ref p), some pv, some (.ref x), some (.int F0), some (.ref D), q7, q8, q9, q10, q11, q12])
        ⟨Same.refl _, _, _, rfl⟩ (fun j σ G _ z => SqL.of (z.1 _ _ e9)) ?_ ?_
      · rintro j v σ G0 G hj ⟨sA, q7, q8, rfl⟩ ⟨rfl, hv⟩
        have od := (odN v (List.mem_of_getElem? hv)).mono sA
        dsimp only
        refine ⟨line2.1, fun tk htk => ?_⟩
        have gt := of_upd (o := .tup [V.bl true, .bl false]) htk
        have etk : upd G tk (.tup [V.bl true, V.bl false]) tk = some (.tup [V.bl true, V.bl false]) := upd_same
        have sB := sA.trans gt
        have odB := od.mono gt
        generalize upd G tk (.tup [V.bl true, V.bl false]) = G5 at etk sB odB ⊢
        refine ⟨tk, rfl, ⟨_, SqT.of etk⟩, ?_⟩
        refine for_it walk_tup (fun i2 σ G => Same G5 G ∧ ∃ q8, σ = [some (.ref a), some (.int (0 + (i : Int))), some (.ref p), some pv, some (.ref x), some (.int F0), some (.ref D), some v, q8, q9, q10, q11, q12])
          ⟨Same.refl _, _, rfl⟩ (fun i2 σ G _ z => SqT.of (z.1 _ _ etk)) ?_ ?_
        · rintro i2 u σ G6 G7 hi2 ⟨sC, q8, rfl⟩ ⟨rfl, hu⟩
          obtain ⟨se, rfl⟩ : ∃ se, u = .bl se := by
            have := List.mem_of_getElem? hu
            simp only [List.mem_cons, List.mem_nil_iff, or_false] at this
            rcases this with e | e
            · exact ⟨true, e⟩
            · exact ⟨false, e⟩
          dsimp only
          refine ⟨_, rfl, _, rfl, _, rfl, x, v, se, wy, rfl, hx8.mono (sB.trans sC), hf, hd, .inr ⟨(odB.mono sC).nb, fun P1 Ga sa nP1 eP1 => ⟨_, rfl, line2.2.2.1, fun P2 nP2 => ?_⟩⟩⟩
          have gp := of_upd (o := .lst [v]) nP2
          obtain ⟨t, ht⟩ := (((odB.mono sC).mono sa).mono gp).same (K := K)
          exact ⟨_, _, t, rfl, ht P1 (gp _ _ eP1), ht P2 upd_same, _, rfl, iteF ⟨(sC.trans sa).trans gp, _, rfl⟩⟩
        · rintro σ G ⟨sC, q8, rfl⟩
          exact ⟨sB.trans sC, _, _, rfl⟩
      rintro σ G ⟨sA, q7, q8, rfl⟩
      have s9 := s8.trans sA
      have at9 := sameAt sA at8
      have pl9 := pl8.keep (same_keepT sA)
      have hx9 := hx8.mono sA
      clear s8 at8 pl8 hx8 sA e9 odN lN
      have z0 : ∀ {y0 : V} {ys : List V}, atI (y0 :: ys) (0 : Int) = some y0 := fun {y0 ys} => by exact atI_nat (xs := y0 :: ys) (j := 0) rfl
      -- a way and a chain
      refine ⟨_, rfl, line2.2.2.1, fun e0 f0 => fun cx dx hcx hdx ne => made_ch (cs := [1]) hcx hdx ne (.inl upd_same) cuts_one fun G5 s5 hc => ⟨rfl, line2.1, fun L nL => ?_⟩⟩
      have sC := (of_upd (o := .lst [V.int 1]) f0).trans s5
      have gL := of_upd (o := .lst [V.ref x, .ref cx]) nL
      have eL : upd G5 L (.lst [V.ref x, .ref cx]) L = some (.lst [V.ref x, .ref cx]) := upd_same
      have sD := sC.trans gL
      have hcL := hc.mono gL
      generalize upd G5 L (.lst [V.ref x, .ref cx]) = G6 at eL sD hcL ⊢
      have s10 := s9.trans sD
      have at10 := sameAt sD at9
      have pl10 := pl9.keep (same_keepT sD)
      have hx10 := hx9.mono sD
      clear s9 at9 pl9 hx9 sD sC gL hc s5 nL f0
      refine ⟨L, rfl, ⟨_, SqL.of eL⟩, ?_⟩
      refine for_it walk_list (fun j σ G => Same G6 G ∧ ∃ q9 q10, σ = [some (.ref a), some (.int (0 + (i : Int))), some (.ref p), some pv, some (.ref x), some (.int F0), some (.ref D), q7, q8, q9, q10, q11, q12])
        ⟨Same.refl _, _, _, rfl⟩ (fun j σ G _ z => SqL.of (z.1 _ _ eL)) ?_ ?_
      · rintro j v σ G0 G7 hj ⟨sE, q9, q10, rfl⟩ ⟨rfl, hv⟩
        obtain ⟨y, rfl, nb, eqy⟩ : ∃ y, v = .ref y ∧ NB K G7 (.ref y) ∧ ∀ (Gz : Hp) (Qz : VK), Same G7 Gz → (∀ G', Same Gz G' → Qz (.bl true) G') → (WO.rEqO CW (spEq (WP.RWy CW 3)) E0 (.ref y) (.ref y) Gz Qz ∨ WO.rEqO C (spCEq C) E0 (.ref y) (.ref y) Gz Qz) := by
          have := List.mem_of_getElem? hv
          simp only [List.mem_cons, List.mem_nil_iff, or_false] at this
          rcases this with rfl | rfl
          · exact ⟨x, rfl, nb_way TW kW0 (hx10.mono sE), fun Gz Qz sz kz => .inl (eq_way ((hx10.mono sE).mono sz) ((hx10.mono sE).mono sz) hd kz)⟩
          · exact ⟨cx, rfl, nb_chain TC T2 kC (hcL.mono sE), fun Gz Qz sz kz => .inr (eq_chain ((hcL.mono sE).mono sz) ((hcL.mono sE).mono sz) kz)⟩
        dsimp only
        refine set_then (i := 10) ⟨_, rfl, _, rfl, x, .ref y, true, wy, rfl, hx10.mono sE, hf, hd, .inr ⟨nb, fun P1 Ga sa nP1 eP1 => ?_⟩⟩
        refine ⟨_, rfl, line2.2.2.2, fun E1 nE => ?_⟩
        have ge := of_upd (o := .lst []) nE
        refine ⟨P1, E1, .ref y, [], rfl, rfl, SqL.of (ge _ _ eP1), SqL.of upd_same, _, rfl, iteF ?_⟩
        exact ⟨_, rfl, P1, _, _, _, rfl, rfl, SqL.of (ge _ _ eP1), z0, _, rfl, eqy _ _ (sa.trans ge) fun G' s' => ⟨_, rfl, iteF ⟨((sE.trans sa).trans ge).trans s', _, _, rfl⟩⟩⟩
      rintro σ G7 ⟨sE, q9, q10, rfl⟩
      have s11 := s10.trans sE
      have at11 := sameAt sE at10
      have pl11 := pl10.keep (same_keepT sE)
      have hx11 := hx10.mono sE
      clear s10 at10 pl10 hx10 sE eL hcL
      -- a list that changes
      dsimp only
      refine set_then (i := 9) ?_
      show tCall S.spDraw [] E0 (tCons (tVar 2) (tCons (tC (.int 9)) tNil)) _ _ _
      refine draw_vv rfl at11 (by decide) (by decide +kernel) fun j G8 j0 j1 b8 => ⟨line2.2.2.1, fun T nT => ?_⟩
      have s12 := sameBt s11 hp0 b8
      have kp8 := bt_keepT b8 at11
      have pl12 := pl11.keep kp8
      have hx12 := hx11.keep kp8
      have gT := of_upd (o := .lst [V.int j]) nT
      have eT : upd G8 T (.lst [V.int j]) T = some (.lst [V.int j]) := upd_same
      have neT := at_ne b8.2 nT
      have s13 := s12.trans gT
      have nTH := s12.free nT
      have pl13 := pl12.keep (same_keepT gT)
      have hx13 := hx12.mono gT
      have at13 := sameAt gT b8.2
      generalize upd G8 T (.lst [V.int j]) = G9 at eT s13 pl13 hx13 at13 ⊢
      clear s11 at11 pl11 hx11 b8 kp8 pl12 hx12 s12 gT nT
      dsimp only
      refine set_then (i := 11) ⟨_, rfl, _, rfl, x, .ref T, false, wy, rfl, hx13, hf, hd, .inr ⟨.inl (.inr ⟨_, .base (.lst eT), kit_ty (r := false) (by decide +kernel)⟩), fun P1 Ga sa nP1 eP1 => ?_⟩⟩
      have eTa := sa _ _ eT
      have nePT : P1 ≠ T := fun z => by
        rw [z, eT] at nP1
        cases nP1
      refine ⟨_, rfl, .inl ⟨rfl, _, SqL.of eTa⟩, T, [V.int j], _, rfl, rfl, eTa, (by show 1 < sizeLine; decide), ?_⟩
      have s14 := add_upd (o := .lst [V.int j, .int 0]) nTH (s13.trans sa)
      have kpT := put_keepT (o := .lst [V.int j, .int 0]) eTa
      have pl14 := (pl13.keep (same_keepT sa)).keep kpT
      have hx14 := (hx13.mono sa).keep kpT
      have at14 : S.At (upd Ga T (.lst [V.int j, .int 0])) p := by
        obtain ⟨r, m, e, f⟩ := sameAt sa at13
        exact ⟨r, m, by rw [upd_ne neT.symm]; exact e, f⟩
      have eP2 : upd Ga T (.lst [V.int j, .int 0]) P1 = some (.lst [V.ref T]) := by
        rw [upd_ne nePT]
        exact eP1
      have eT2 : upd Ga T (.lst [V.int j, .int 0]) T = some (.lst [V.int j, .int 0]) := upd_same
      show tSeq _ _ _ _ (upd Ga T (.lst [V.int j, .int 0]))
      generalize upd Ga T (.lst [V.int j, .int 0]) = Gb at s14 pl14 hx14 at14 eP2 eT2 ⊢
      clear s13 pl13 hx13 at13 eT eTa kpT sa eP1 nP1
      refine ⟨_, rfl, _, rfl, line2.2.2.1, fun P2 nP2 => ?_⟩
      have gp := of_upd (o := .lst [V.ref T]) nP2
      have nj : Nd (.list [.list [.int j, .int 0]]) 2 6 := nd_lst (k := 1) (b := 5) (n := 1) (fun d hd => by
        rw [List.mem_singleton.mp hd]
        exact (nd_lst (k := 0) (b := 0) (n := 2) (ds := [.int j, .int 0]) (fun d hd => by
          simp only [List.mem_cons, List.mem_nil_iff, or_false] at hd
          rcases hd with rfl | rfl
          · exact nd_int (Nat.lt_of_lt_of_le (by omega : j.natAbs < 9) (by decide)) _ _
          · exact nd_int (by decide) _ _) (Nat.le_refl 2)).up (by omega) (by omega)) (Nat.le_refl 1)
      have shT : ∀ (P : Addr) (Gz : Hp), Gz P = some (.lst [V.ref T]) → Gz T = some (.lst [V.int j, .int 0]) → Sh2 K Gz (.ref P) (PyData.list [.list [.int j, .int 0]]).shown := fun P Gz h1 h2 =>
        .inl (.ref (.lst (SqL.of h1) (.cons (.lst (SqL.of h2) (.cons (.int _) (.cons (.int _) .nil))) .nil)) nj.sh (Nat.le_trans nj.dp (by decide)) nj.ls (Nat.le_trans nj.bk (by decide)))
      refine ⟨_, _, _, rfl, shT _ _ (gp _ _ eP2) (gp _ _ eT2), shT _ _ upd_same (gp _ _ eT2), _, rfl, iteF ?_⟩
      have s15 := s14.trans gp
      have pl15 := pl14.keep (same_keepT gp)
      have hx15 := hx14.mono gp
      have at15 := sameAt gp at14
      generalize upd Gb P2 (.lst [V.ref T]) = Gc at s15 pl15 hx15 at15 ⊢
      clear s14 pl14 hx14 at14 eP2 eT2 gp nP2 nj shT
      dsimp only
      -- bodies
      refine ⟨_, _, rfl, rfl, ⟨by decide, by decide⟩, draw_pw rfl at15 fun j2 Gd j20 j21 bd => ⟨line2.2.1, fun L3 nL3 => ?_⟩⟩
      have e18 : (10 ^ Int.toNat 18 : Int) = 1000000000000000000 := by decide +kernel
      rw [e18] at j21
      have kpd := bt_keepT bd at15
      have g3 := of_upd (o := .lst [V.int 0, .int (10 ^ Int.toNat 18), .int j2]) nL3
      have e3 : upd Gd L3 (.lst [V.int 0, .int (10 ^ Int.toNat 18), .int j2]) L3 = some (.lst [V.int 0, .int (10 ^ Int.toNat 18), .int j2]) := upd_same
      have s16 := (sameBt s15 hp0 bd).trans g3
      have pl16 := (pl15.keep kpd).keep (same_keepT g3)
      have hx16 := (hx15.keep kpd).mono g3
      clear s15 pl15 hx15 at15 bd kpd g3 nL3
      refine ⟨L3, rfl, ⟨_, SqL.of e3⟩, ?_⟩
      refine for_it walk_list (fun j σ G => Same (upd Gd L3 (.lst [V.int 0, .int (10 ^ Int.toNat 18), .int j2])) G ∧ ∃ q8 q12, σ = [some (.ref a), some (.int (0 + (i : Int))), some (.ref p), some pv, some (.ref x), some (.int F0), some (.ref D), q7, q8, some (.ref T), q10, some (.ref P1), q12])
        ⟨Same.refl _, _, _, rfl⟩ (fun j σ G _ z => SqL.of (z.1 _ _ e3)) ?_ ?_
      · rintro j3 v σ G0 G hj3 ⟨sE, q8, q12, rfl⟩ ⟨rfl, hv⟩
        obtain ⟨b, rfl, hb1⟩ : ∃ b : Nat, v = .int (b : Int) ∧ b ≤ 1000000000000000000 := by
          have := List.mem_of_getElem? hv
          simp only [List.mem_cons, List.mem_nil_iff, or_false] at this
          rcases this with rfl | rfl | rfl
          · exact ⟨0, rfl, by decide⟩
          · exact ⟨1000000000000000000, by rw [e18]; rfl, Nat.le_refl _⟩
          · exact ⟨j2.toNat, by rw [Int.toNat_of_nonneg j20], by omega⟩
        dsimp only
        refine ⟨line2.1, fun tk htk => ?_⟩
        have gt := of_upd (o := .tup [V.bl true, .bl false]) htk
        have etk : upd G tk (.tup [V.bl true, V.bl false]) tk = some (.tup [V.bl true, V.bl false]) := upd_same
        have sB := sE.trans gt
        generalize upd G tk (.tup [V.bl true, V.bl false]) = Gf at etk sB ⊢
        refine ⟨tk, rfl, ⟨_, SqT.of etk⟩, ?_⟩
        refine for_it walk_tup (fun i2 σ G => Same Gf G ∧ ∃ q8, σ = [some (.ref a), some (.int (0 + (i : Int))), some (.ref p), some pv, some (.ref x), some (.int F0), some (.ref D), q7, q8, some (.ref T), q10, some (.ref P1), some (.int (b : Int))])
          ⟨Same.refl _, _, rfl⟩ (fun i2 σ G _ z => SqT.of (z.1 _ _ etk)) ?_ ?_
        · rintro i2 u σ G6 Gg hi2 ⟨sC, q8, rfl⟩ ⟨rfl, hu⟩
          obtain ⟨se, rfl⟩ : ∃ se, u = .bl se := by
            have := List.mem_of_getElem? hu
            simp only [List.mem_cons, List.mem_nil_iff, or_false] at this
            rcases this with e | e
            · exact ⟨true, e⟩
            · exact ⟨false, e⟩
          dsimp only
          have sG := sB.trans sC
          refine ⟨_, rfl, _, rfl, _, rfl, x, _, se, wy, rfl, hx16.mono sG, hf, hd, .inl ⟨b, rfl, hb1, fun P3 G1 s1 n1 e1 => ⟨line2.2.2.2, fun E3 nE3 => ne_nil (l := []) (SqL.of (of_upd nE3 _ _ e1)) (SqL.of upd_same) ⟨_, rfl, iteF ?_⟩⟩⟩⟩
          have sH := s1.trans (of_upd (o := .lst []) nE3)
          have hxH := (hx16.mono sG).mono sH
          have plH := (pl16.keep (same_keepT sG)).keep (same_keepT sH)
          generalize upd G1 E3 (.lst []) = Gh at sH hxH plH ⊢
          clear n1 e1 s1 nE3
          dsimp only
          refine ⟨_, rfl, _, rfl, _, rfl, x, _, se, wy, rfl, hxH, hf, hd, .inl ⟨b, rfl, hb1, fun v1 G1 s1 f1 => ⟨_, rfl, _, rfl, _, rfl, pv, wy, b, se, rfl, plH.keep (same_keepT s1), hf, hd, by omega, fun v2 G2 s2 f2 => ?_⟩⟩⟩
          exact ⟨_, _, _, rfl, sh_fateA hf hb1 (f1.mono s2), sh_fateA hf hb1 (end_fate hf f2), _, rfl, iteF ⟨((sC.trans sH).trans s1).trans s2, _, rfl⟩⟩
        · rintro σ G ⟨sC, q8, rfl⟩
          exact ⟨sB.trans sC, _, _, rfl⟩
      · rintro σ G ⟨sE, q8, q12, rfl⟩
        exact ⟨s16.trans sE, _, _, _, _, _, _, _, _, _, _, _, _, rfl⟩
    · rintro σ G ⟨s0, q1, q2, q3, q4, q5, q6, q7, q8, q9, q10, q11, q12, rfl⟩
      exact k G
end
end CP

end
section
set_option autoImplicit false
set_option Elab.async false
set_option linter.all false
set_option maxRecDepth 100000
set_option maxHeartbeats 4000000
/-! ## what the top leaves -/
namespace CP
open PySem L2 G Y
/-- a def as it stands behind the top -/
structure Fa (K : PySem.W.Frag) (mg : Str → Option Value) (x : Str) (st : Stmt) (ps : List Str) : Prop where
  ex : ∃ (f : Addr) (fd : FuncData), Fun K x x st f fd ∧ mg x = some (.ref f) ∧ PySem.W.keepIn K (.ref f) = true ∧ Binds K fd ps []
theorem Fa.df {P : Program} {w : World} {K : PySem.W.Frag} {mg : Str → Option Value} {base : Heap} {x : Str} {st : Stmt} {ps : List Str} {k : Nat} {sp : Sp} (h : Fa K mg x st ps) (ok : ∀ f fd, Fun K x x st f fd → FnOk P w K mg base CX0 k f fd ps sp) : Df P w K mg base k x ps sp := by
  obtain ⟨f, fd, h1, h2, h3, h4⟩ := h.ex
  exact ⟨f, fd, ok f fd h1, h2, h3, h4⟩
theorem Fa.dw {P : Program} {w : World} {K : PySem.W.Frag} {mg : Str → Option Value} {base : Heap} {x : Str} {st : Stmt} {ps : List Str} {k : Nat} {sp : Sp} (h : Fa K mg x st ps) (ok : ∀ f fd, Fun K x x st f fd → FnOk P w K mg base CX0 k f fd ps sp) : WP.Df P w K mg base k x ps sp := by
  obtain ⟨f, fd, h1, h2, h3, h4⟩ := h.ex
  exact ⟨f, fd, ok f fd h1, h2, h3, h4⟩
/-- a def with one argument behind the star -/
structure Fg (K : PySem.W.Frag) (mg : Str → Option Value) (x : Str) (st : Stmt) (ps ks : List Str) : Prop where
  ex : ∃ (f : Addr) (fd : FuncData), Fun K x x st f fd ∧ mg x = some (.ref f) ∧ KBinds K fd ps ks g11 g11
theorem Fg.d {P : Program} {w : World} {K : PySem.W.Frag} {mg : Str → Option Value} {base : Heap} {x : Str} {st : Stmt} {ps ks : List Str} {k : Nat} {sp : Sp} (F : Fg K mg x st ps ks) (ok : ∀ f fd, Fun K x x st f fd → FnOk P w K mg base CX0 k f fd ps sp) : Dg P w K mg base k x ps ks sp := by
  obtain ⟨f, fd, h1, h2, h3⟩ := F.ex
  exact ⟨f, fd, ok f fd h1, h2, h1.kp, h3⟩
structure Ft (K : PySem.W.Frag) (mg : Str → Option Value) : Prop where
  ex : ∃ (f : Addr) (fd : FuncData), Fun K "fate" "fate" sFate f fd ∧ mg "fate" = some (.ref f) ∧ KBinds K fd ["way", "body", "sealed"] ["sealed"] g21 g21
abbrev sBadI : Stmt := inClass (S.top 14) 0
theorem scBadI : FnScope ["self", "value"] ["self", "value"] (defScope sBadI) := ⟨rfl, rfl, rfl, by decide +kernel, rfl, by decide +kernel, by decide +kernel⟩
/-- the class BadBody -/
structure Eb (K : PySem.W.Frag) (mg : Str → Option Value) (C f : Addr) (fd : FuncData) : Prop where
  g : mg "BadBody" = some (.ref C)
  L : G.Cl K C "value"
  ex : PySem.W.exmOne K (.ref C) (.ref C) = some true
  iC : PySem.W.findIn K (.ref C) "__init__" = some (some (.ref f))
  tI : PySem.W.typeIn K (.ref f) = some (.type "function")
  F : Fun K "__init__" "BadBody.__init__" sBadI f fd
theorem Eb.mk' {P : Program} {w : World} {K : PySem.W.Frag} {mg : Str → Option Value} {base : Heap} {C f : Addr} {fd : FuncData} (E : Eb K mg C f fd) : G.Mk P w K mg base C "value" := by
  refine ⟨E.L, f, fd, ["self", "value"], E.iC, E.tI, ?_, rfl, ?_, ?_⟩
  · refine E.F.ok scBadI (fun vs H Q E2 h => ?_) (fun cdv A outer s H vs Q E2 hr h => ?_)
    · obtain ⟨a, v, rfl, _⟩ := h
      rfl
    · obtain ⟨a, v, rfl, ha, k⟩ := h
      exact ⟨_, pss_one (ps_ost (pv 0) (pv 1)), _, rfl, _, rfl, a, C, rfl, E.L.T, E.L.no, .inl ⟨ha, fun dx h1 h2 => k dx h1 h2⟩⟩
  · obtain ⟨_, _, _, _, _, _, _, _, _, rfl, _, _⟩ := E.F.ex
    exact fun s u v => .of_eq rfl
  · obtain ⟨_, _, _, _, _, _, _, _, _, rfl, _, _⟩ := E.F.ex
    exact fun s u v => .of_eq rfl
section
variable {P : Program} {w : World} {K : PySem.W.Frag} {mg : Str → Option Value} {base : Heap} {C CW : Addr}
theorem dg_gates (B : Bn mg) (T : Ct K mg C) (TW : WP.Wt K mg CW) (nP : ∃ t, mg "NOTHING_PASSES" = some (.int (-1) t)) (zg : Fg K mg "gates" sGates ["way", "sealed"] ["sealed"]) (zt : Fa K mg "_tunnel_gates" sTunG ["head", "tunnel", "chain", "sealed"]) (za : Fa K mg "_gates_at" sGAt ["head", "step", "chain", "sealed"])
    (DM : Df P w K mg base 4 "_most_gates" ["most", "chain"] (spMostG C)) (DC : Df P w K mg base 7 "chains_before" ["way", "sealed"] (spChB C CW)) (DL : Df P w K mg base 1 "_leaves_more" ["chain", "stretch"] (spLeaves C)) (DT : Df P w K mg base 1 "_turned" ["answer", "inner_head", "tells"] spTurnG) (DR : Df P w K mg base 2 "_road_gates" ["head", "road", "chain", "sealed"] (spRoadG C)) :
    ∀ n, n ≤ 10 → ∀ f fd, Fun K "gates" "gates" sGates f fd → FnOk P w K mg base CX0 (8 + 3 * n) f fd ["way", "sealed"] (spGates CW n)
  | 0, _, f, fd, F => F.ok scGt (fun vs H Q E h => by
      obtain ⟨a, se, wy, rfl, _⟩ := h
      rfl) (fun cdv A outer s H vs Q E hr h => by
      exfalso
      obtain ⟨a, se, wy, _, _, _, hd, _⟩ := h
      have := M.depth_pos wy
      omega)
  | n + 1, hn, f, fd, F => by
    have DG : Dg P w K mg base (8 + 3 * n) "gates" ["way", "sealed"] ["sealed"] (spGates CW n) := zg.d fun f fd F => dg_gates B T TW nP zg zt za DM DC DL DT DR n (by omega) f fd F
    have DU : Df P w K mg base (8 + 3 * n + 1) "_tunnel_gates" ["head", "tunnel", "chain", "sealed"] (spTunG C CW n) := zt.df fun f fd F => ok_tung F (by omega) B TW nP DG DM DC DL DT
    have DA : Df P w K mg base (8 + 3 * n + 1 + 1) "_gates_at" ["head", "step", "chain", "sealed"] (spGsAt C CW n) := za.df fun f fd F => ok_gsat F (by omega) DR DM DU
    have r : FnOk P w K mg base CX0 (8 + 3 * n + 1 + 1 + 1) f fd ["way", "sealed"] (spGates CW (n + 1)) := ok_gates F (by omega) (by omega) B TW DC DA
    exact r
theorem dl_plan (B : Bn mg) (zp : Fa K mg "_law_plan" sLPlan ["stream", "depth", "base"]) (zs : Fa K mg "_law_plan_step" sLStep ["stream", "depth", "base", "head"]) (DD : Df P w K mg base 1 "_law_draw" ["stream", "size"] S.spDraw) (DP : Df P w K mg base 2 "_law_choose" ["stream", "items"] (S.spChoose K)) (DM : Df P w K mg base 3 "_law_most" ["stream"] spLMost) :
    ∀ n, Df P w K mg base (4 + 2 * n) "_law_plan" ["stream", "depth", "base"] (spLPlan n)
  | 0 => zp.df fun f fd F => F.ok scPn (fun vs H Q E h => by
      obtain ⟨p, d, b, rfl, _⟩ := h
      rfl) (fun cdv A outer s H vs Q E hr h => by
      exfalso
      obtain ⟨p, d, b, _, _, hd, _⟩ := h
      omega)
  | n + 1 => by
    have D0 := dl_plan B zp zs DD DP DM n
    have DS : Df P w K mg base (4 + 2 * n + 1) "_law_plan_step" ["stream", "depth", "base", "head"] (spLStep n) := zs.df fun f fd F => ok_lstep F (by omega) B DD DP DM D0
    have r : Df P w K mg base (4 + 2 * n + 1 + 1) "_law_plan" ["stream", "depth", "base"] (spLPlan (n + 1)) := zp.df fun f fd F => ok_lplan F (by omega) B DD DP DS
    exact r
theorem dl_way (T : WP.Wt K mg CW) (MW : WP.Mw P w K mg base CW) (z : Fa K mg "_law_way" sLWay ["plan"]) : ∀ n, Df P w K mg base (8 + n) "_law_way" ["plan"] (spLWay CW n)
  | 0 => z.df fun f fd F => F.ok scLw (fun vs H Q E h => by
      obtain ⟨v, wy, rfl, _⟩ := h
      rfl) (fun cdv A outer s H vs Q E hr h => by
      exfalso
      obtain ⟨v, wy, _, _, _, hd, _⟩ := h
      have := M.depth_pos wy
      omega)
  | n + 1 => z.df fun f fd F => ok_lway F T MW (by show 7 ≤ 8 + n; omega) (dl_way T MW z n)
theorem dl_places (B : Bn mg) (z : Fa K mg "_law_places" sPlaces ["plan"]) : ∀ n, Df P w K mg base (5 + n) "_law_places" ["plan"] (spPlaces n)
  | 0 => z.df fun f fd F => F.ok scPl (fun vs H Q E h => by
      obtain ⟨v, wy, rfl, _⟩ := h
      rfl) (fun cdv A outer s H vs Q E hr h => by
      exfalso
      obtain ⟨v, wy, _, _, _, hd, _⟩ := h
      have := M.depth_pos wy
      omega)
  | n + 1 => z.df fun f fd F => ok_places F B (dl_places B z n)
theorem dl_ghost (B : Bn mg) (hsum : mg "sum" = none) (DC : Df P w K mg base 1 "_law_cut_up" ["sizes", "last", "cut"] spCutUp) (zg : Fa K mg "_law_ghost" sGhost ["plan", "body", "kind"]) (zi : Fa K mg "_law_ghost_inside" sGhIn ["step", "at", "head", "sizes", "kind", "stops"]) : ∀ n, Df P w K mg base (2 + 2 * n) "_law_ghost" ["plan", "body", "kind"] (spGhost n)
  | 0 => zg.df fun f fd F => F.ok scGh (fun vs H Q E h => by
      obtain ⟨v, wy, b, se, rfl, _⟩ := h
      rfl) (fun cdv A outer s H vs Q E hr h => by
      exfalso
      obtain ⟨v, wy, b, se, _, _, _, hd, _⟩ := h
      have := M.depth_pos wy
      omega)
  | n + 1 => by
    have D0 := dl_ghost B hsum DC zg zi n
    have DI : Df P w K mg base (2 + 2 * n + 1) "_law_ghost_inside" ["step", "at", "head", "sizes", "kind", "stops"] (spGhIn n) := zi.df fun f fd F => ok_ghin F B hsum D0
    have r : Df P w K mg base (2 + 2 * n + 1 + 1) "_law_ghost" ["plan", "body", "kind"] (spGhost (n + 1)) := zg.df fun f fd F => ok_ghost F B hsum (by omega) DC DI
    exact r
end
section
variable {K : PySem.W.Frag} {mg : Str → Option Value} {h : Heap} {f : Addr} {fd : FuncData}
theorem fd_I (X : K.In h) (Gn : h.Ns mainGlobals mg) (a : PySem.W.nsIn K mainGlobals "is_integer" = some (some (.ref f))) (F : Fun K "is_integer" "is_integer" sInteger f fd) : Fa K mg "is_integer" sInteger ["value"] :=
  ⟨f, fd, F, PySem.W.mg_of X Gn a, F.kp, F.binds fun _ _ _ _ _ _ us hl => match us, hl with | [_], _ => rfl⟩
theorem fd_W (X : K.In h) (Gn : h.Ns mainGlobals mg) (a : PySem.W.nsIn K mainGlobals "is_within" = some (some (.ref f))) (F : Fun K "is_within" "is_within" sWithin f fd) : Fa K mg "is_within" sWithin ["value", "least", "greatest"] :=
  ⟨f, fd, F, PySem.W.mg_of X Gn a, F.kp, F.binds fun _ _ _ _ _ _ us hl => match us, hl with | [_, _, _], _ => rfl⟩
theorem fd_ar (X : K.In h) (Gn : h.Ns mainGlobals mg) (a : PySem.W.nsIn K mainGlobals "_are_cuts" = some (some (.ref f))) (F : Fun K "_are_cuts" "_are_cuts" sAreCuts f fd) : Fa K mg "_are_cuts" sAreCuts ["value"] :=
  ⟨f, fd, F, PySem.W.mg_of X Gn a, F.kp, F.binds fun _ _ _ _ _ _ us hl => match us, hl with | [_], _ => rfl⟩
theorem fd_co (X : K.In h) (Gn : h.Ns mainGlobals mg) (a : PySem.W.nsIn K mainGlobals "_piece_counts" = some (some (.ref f))) (F : Fun K "_piece_counts" "_piece_counts" sCounts f fd) : Fa K mg "_piece_counts" sCounts ["cuts"] :=
  ⟨f, fd, F, PySem.W.mg_of X Gn a, F.kp, F.binds fun _ _ _ _ _ _ us hl => match us, hl with | [_], _ => rfl⟩
theorem fd_pi (X : K.In h) (Gn : h.Ns mainGlobals mg) (a : PySem.W.nsIn K mainGlobals "_pieces" = some (some (.ref f))) (F : Fun K "_pieces" "_pieces" sPieces f fd) : Fa K mg "_pieces" sPieces ["body", "cuts", "counts"] :=
  ⟨f, fd, F, PySem.W.mg_of X Gn a, F.kp, F.binds fun _ _ _ _ _ _ us hl => match us, hl with | [_, _, _], _ => rfl⟩
theorem fd_wd (X : K.In h) (Gn : h.Ns mainGlobals mg) (a : PySem.W.nsIn K mainGlobals "_word" = some (some (.ref f))) (F : Fun K "_word" "_word" sWord f fd) : Fa K mg "_word" sWord ["road", "sealed"] :=
  ⟨f, fd, F, PySem.W.mg_of X Gn a, F.kp, F.binds fun _ _ _ _ _ _ us hl => match us, hl with | [_, _], _ => rfl⟩
theorem fd_ga (X : K.In h) (Gn : h.Ns mainGlobals mg) (a : PySem.W.nsIn K mainGlobals "_gates_at" = some (some (.ref f))) (F : Fun K "_gates_at" "_gates_at" sGAt f fd) : Fa K mg "_gates_at" sGAt ["head", "step", "chain", "sealed"] :=
  ⟨f, fd, F, PySem.W.mg_of X Gn a, F.kp, F.binds fun _ _ _ _ _ _ us hl => match us, hl with | [_, _, _, _], _ => rfl⟩
theorem fd_rg (X : K.In h) (Gn : h.Ns mainGlobals mg) (a : PySem.W.nsIn K mainGlobals "_road_gates" = some (some (.ref f))) (F : Fun K "_road_gates" "_road_gates" sRoadG f fd) : Fa K mg "_road_gates" sRoadG ["head", "road", "chain", "sealed"] :=
  ⟨f, fd, F, PySem.W.mg_of X Gn a, F.kp, F.binds fun _ _ _ _ _ _ us hl => match us, hl with | [_, _, _, _], _ => rfl⟩
theorem fd_lv (X : K.In h) (Gn : h.Ns mainGlobals mg) (a : PySem.W.nsIn K mainGlobals "_leaves_more" = some (some (.ref f))) (F : Fun K "_leaves_more" "_leaves_more" sLeaves f fd) : Fa K mg "_leaves_more" sLeaves ["chain", "stretch"] :=
  ⟨f, fd, F, PySem.W.mg_of X Gn a, F.kp, F.binds fun _ _ _ _ _ _ us hl => match us, hl with | [_, _], _ => rfl⟩
theorem fd_mg (X : K.In h) (Gn : h.Ns mainGlobals mg) (a : PySem.W.nsIn K mainGlobals "_most_gates" = some (some (.ref f))) (F : Fun K "_most_gates" "_most_gates" sMostG f fd) : Fa K mg "_most_gates" sMostG ["most", "chain"] :=
  ⟨f, fd, F, PySem.W.mg_of X Gn a, F.kp, F.binds fun _ _ _ _ _ _ us hl => match us, hl with | [_, _], _ => rfl⟩
theorem fd_tg (X : K.In h) (Gn : h.Ns mainGlobals mg) (a : PySem.W.nsIn K mainGlobals "_tunnel_gates" = some (some (.ref f))) (F : Fun K "_tunnel_gates" "_tunnel_gates" sTunG f fd) : Fa K mg "_tunnel_gates" sTunG ["head", "tunnel", "chain", "sealed"] :=
  ⟨f, fd, F, PySem.W.mg_of X Gn a, F.kp, F.binds fun _ _ _ _ _ _ us hl => match us, hl with | [_, _, _, _], _ => rfl⟩
theorem fd_tu (X : K.In h) (Gn : h.Ns mainGlobals mg) (a : PySem.W.nsIn K mainGlobals "_turned" = some (some (.ref f))) (F : Fun K "_turned" "_turned" sTurnG f fd) : Fa K mg "_turned" sTurnG ["answer", "inner_head", "tells"] :=
  ⟨f, fd, F, PySem.W.mg_of X Gn a, F.kp, F.binds fun _ _ _ _ _ _ us hl => match us, hl with | [_, _, _], _ => rfl⟩
theorem fd_cb (X : K.In h) (Gn : h.Ns mainGlobals mg) (a : PySem.W.nsIn K mainGlobals "chains_before" = some (some (.ref f))) (F : Fun K "chains_before" "chains_before" sChB f fd) : Fa K mg "chains_before" sChB ["way", "sealed"] :=
  ⟨f, fd, F, PySem.W.mg_of X Gn a, F.kp, F.binds fun _ _ _ _ _ _ us hl => match us, hl with | [_, _], _ => rfl⟩
theorem fd_ls (X : K.In h) (Gn : h.Ns mainGlobals mg) (a : PySem.W.nsIn K mainGlobals "_law_stream" = some (some (.ref f))) (F : Fun K "_law_stream" "_law_stream" S.sSource f fd) : Fa K mg "_law_stream" S.sSource ["script", "start"] :=
  ⟨f, fd, F, PySem.W.mg_of X Gn a, F.kp, F.binds fun _ _ _ _ _ _ us hl => match us, hl with | [_, _], _ => rfl⟩
theorem fd_ld (X : K.In h) (Gn : h.Ns mainGlobals mg) (a : PySem.W.nsIn K mainGlobals "_law_draw" = some (some (.ref f))) (F : Fun K "_law_draw" "_law_draw" S.sDraw f fd) : Fa K mg "_law_draw" S.sDraw ["stream", "size"] :=
  ⟨f, fd, F, PySem.W.mg_of X Gn a, F.kp, F.binds fun _ _ _ _ _ _ us hl => match us, hl with | [_, _], _ => rfl⟩
theorem fd_lch (X : K.In h) (Gn : h.Ns mainGlobals mg) (a : PySem.W.nsIn K mainGlobals "_law_choose" = some (some (.ref f))) (F : Fun K "_law_choose" "_law_choose" S.sPick f fd) : Fa K mg "_law_choose" S.sPick ["stream", "items"] :=
  ⟨f, fd, F, PySem.W.mg_of X Gn a, F.kp, F.binds fun _ _ _ _ _ _ us hl => match us, hl with | [_, _], _ => rfl⟩
theorem fd_sm (X : K.In h) (Gn : h.Ns mainGlobals mg) (a : PySem.W.nsIn K mainGlobals "_law_same" = some (some (.ref f))) (F : Fun K "_law_same" "_law_same" S.sSame f fd) : Fa K mg "_law_same" S.sSame ["one", "two"] :=
  ⟨f, fd, F, PySem.W.mg_of X Gn a, F.kp, F.binds fun _ _ _ _ _ _ us hl => match us, hl with | [_, _], _ => rfl⟩
theorem fd_pn (X : K.In h) (Gn : h.Ns mainGlobals mg) (a : PySem.W.nsIn K mainGlobals "_law_plan" = some (some (.ref f))) (F : Fun K "_law_plan" "_law_plan" sLPlan f fd) : Fa K mg "_law_plan" sLPlan ["stream", "depth", "base"] :=
  ⟨f, fd, F, PySem.W.mg_of X Gn a, F.kp, F.binds fun _ _ _ _ _ _ us hl => match us, hl with | [_, _, _], _ => rfl⟩
theorem fd_lm (X : K.In h) (Gn : h.Ns mainGlobals mg) (a : PySem.W.nsIn K mainGlobals "_law_most" = some (some (.ref f))) (F : Fun K "_law_most" "_law_most" sLMost f fd) : Fa K mg "_law_most" sLMost ["stream"] :=
  ⟨f, fd, F, PySem.W.mg_of X Gn a, F.kp, F.binds fun _ _ _ _ _ _ us hl => match us, hl with | [_], _ => rfl⟩
theorem fd_ps (X : K.In h) (Gn : h.Ns mainGlobals mg) (a : PySem.W.nsIn K mainGlobals "_law_plan_step" = some (some (.ref f))) (F : Fun K "_law_plan_step" "_law_plan_step" sLStep f fd) : Fa K mg "_law_plan_step" sLStep ["stream", "depth", "base", "head"] :=
  ⟨f, fd, F, PySem.W.mg_of X Gn a, F.kp, F.binds fun _ _ _ _ _ _ us hl => match us, hl with | [_, _, _, _], _ => rfl⟩
theorem fd_lw (X : K.In h) (Gn : h.Ns mainGlobals mg) (a : PySem.W.nsIn K mainGlobals "_law_way" = some (some (.ref f))) (F : Fun K "_law_way" "_law_way" sLWay f fd) : Fa K mg "_law_way" sLWay ["plan"] :=
  ⟨f, fd, F, PySem.W.mg_of X Gn a, F.kp, F.binds fun _ _ _ _ _ _ us hl => match us, hl with | [_], _ => rfl⟩
theorem fd_pl (X : K.In h) (Gn : h.Ns mainGlobals mg) (a : PySem.W.nsIn K mainGlobals "_law_places" = some (some (.ref f))) (F : Fun K "_law_places" "_law_places" sPlaces f fd) : Fa K mg "_law_places" sPlaces ["plan"] :=
  ⟨f, fd, F, PySem.W.mg_of X Gn a, F.kp, F.binds fun _ _ _ _ _ _ us hl => match us, hl with | [_], _ => rfl⟩
theorem fd_cu (X : K.In h) (Gn : h.Ns mainGlobals mg) (a : PySem.W.nsIn K mainGlobals "_law_cut_up" = some (some (.ref f))) (F : Fun K "_law_cut_up" "_law_cut_up" sCutUp f fd) : Fa K mg "_law_cut_up" sCutUp ["sizes", "last", "cut"] :=
  ⟨f, fd, F, PySem.W.mg_of X Gn a, F.kp, F.binds fun _ _ _ _ _ _ us hl => match us, hl with | [_, _, _], _ => rfl⟩
theorem fd_gh (X : K.In h) (Gn : h.Ns mainGlobals mg) (a : PySem.W.nsIn K mainGlobals "_law_ghost" = some (some (.ref f))) (F : Fun K "_law_ghost" "_law_ghost" sGhost f fd) : Fa K mg "_law_ghost" sGhost ["plan", "body", "kind"] :=
  ⟨f, fd, F, PySem.W.mg_of X Gn a, F.kp, F.binds fun _ _ _ _ _ _ us hl => match us, hl with | [_, _, _], _ => rfl⟩
theorem fd_gi (X : K.In h) (Gn : h.Ns mainGlobals mg) (a : PySem.W.nsIn K mainGlobals "_law_ghost_inside" = some (some (.ref f))) (F : Fun K "_law_ghost_inside" "_law_ghost_inside" sGhIn f fd) : Fa K mg "_law_ghost_inside" sGhIn ["step", "at", "head", "sizes", "kind", "stops"] :=
  ⟨f, fd, F, PySem.W.mg_of X Gn a, F.kp, F.binds fun _ _ _ _ _ _ us hl => match us, hl with | [_, _, _, _, _, _], _ => rfl⟩
theorem fd_fa (X : K.In h) (Gn : h.Ns mainGlobals mg) (a : PySem.W.nsIn K mainGlobals "_law_fate" = some (some (.ref f))) (F : Fun K "_law_fate" "_law_fate" sLFate f fd) : Fa K mg "_law_fate" sLFate ["plan", "body", "kind"] :=
  ⟨f, fd, F, PySem.W.mg_of X Gn a, F.kp, F.binds fun _ _ _ _ _ _ us hl => match us, hl with | [_, _, _], _ => rfl⟩
theorem fd_re (X : K.In h) (Gn : h.Ns mainGlobals mg) (a : PySem.W.nsIn K mainGlobals "_law_refused" = some (some (.ref f))) (F : Fun K "_law_refused" "_law_refused" sRefused f fd) : Fa K mg "_law_refused" sRefused ["one", "value", "kind"] :=
  ⟨f, fd, F, PySem.W.mg_of X Gn a, F.kp, F.binds fun _ _ _ _ _ _ us hl => match us, hl with | [_, _, _], _ => rfl⟩
theorem fd_B (X : K.In h) (Gn : h.Ns mainGlobals mg) (a : PySem.W.nsIn K mainGlobals "is_body" = some (some (.ref f))) (F : Fun K "is_body" "is_body" WP.sBody f fd) : Fa K mg "is_body" WP.sBody ["value"] :=
  ⟨f, fd, F, PySem.W.mg_of X Gn a, F.kp, F.binds fun _ _ _ _ _ _ us hl => match us, hl with | [_], _ => rfl⟩
theorem fd_li (X : K.In h) (Gn : h.Ns mainGlobals mg) (a : PySem.W.nsIn K mainGlobals "is_step_list" = some (some (.ref f))) (F : Fun K "is_step_list" "is_step_list" WP.sList f fd) : Fa K mg "is_step_list" WP.sList ["value"] :=
  ⟨f, fd, F, PySem.W.mg_of X Gn a, F.kp, F.binds fun _ _ _ _ _ _ us hl => match us, hl with | [_], _ => rfl⟩
theorem fd_st (X : K.In h) (Gn : h.Ns mainGlobals mg) (a : PySem.W.nsIn K mainGlobals "_is_step" = some (some (.ref f))) (F : Fun K "_is_step" "_is_step" WP.sStep f fd) : Fa K mg "_is_step" WP.sStep ["value", "head"] :=
  ⟨f, fd, F, PySem.W.mg_of X Gn a, F.kp, F.binds fun _ _ _ _ _ _ us hl => match us, hl with | [_, _], _ => rfl⟩
theorem fd_rd (X : K.In h) (Gn : h.Ns mainGlobals mg) (a : PySem.W.nsIn K mainGlobals "is_road" = some (some (.ref f))) (F : Fun K "is_road" "is_road" WP.sRoad f fd) : Fa K mg "is_road" WP.sRoad ["size", "sealed", "loose", "least"] :=
  ⟨f, fd, F, PySem.W.mg_of X Gn a, F.kp, F.binds fun _ _ _ _ _ _ us hl => match us, hl with | [_, _, _, _], _ => rfl⟩
theorem fd_tl (X : K.In h) (Gn : h.Ns mainGlobals mg) (a : PySem.W.nsIn K mainGlobals "is_tells" = some (some (.ref f))) (F : Fun K "is_tells" "is_tells" WP.sTells f fd) : Fa K mg "is_tells" WP.sTells ["value"] :=
  ⟨f, fd, F, PySem.W.mg_of X Gn a, F.kp, F.binds fun _ _ _ _ _ _ us hl => match us, hl with | [_], _ => rfl⟩
theorem fd_mo (X : K.In h) (Gn : h.Ns mainGlobals mg) (a : PySem.W.nsIn K mainGlobals "is_most" = some (some (.ref f))) (F : Fun K "is_most" "is_most" WP.sMost f fd) : Fa K mg "is_most" WP.sMost ["value"] :=
  ⟨f, fd, F, PySem.W.mg_of X Gn a, F.kp, F.binds fun _ _ _ _ _ _ us hl => match us, hl with | [_], _ => rfl⟩
theorem fd_hd (X : K.In h) (Gn : h.Ns mainGlobals mg) (a : PySem.W.nsIn K mainGlobals "is_head" = some (some (.ref f))) (F : Fun K "is_head" "is_head" WP.sHead f fd) : Fa K mg "is_head" WP.sHead ["value"] :=
  ⟨f, fd, F, PySem.W.mg_of X Gn a, F.kp, F.binds fun _ _ _ _ _ _ us hl => match us, hl with | [_], _ => rfl⟩
theorem words_of {a : Addr} {dd : Option Addr} {sl : Array (Option Value)} {n : Nat} {us : List Value} {xs : List V} (lk : K.lookup a = some ⟨.type "tuple", dd, .seq us.toArray n, sl⟩) (hl : xs.length ≤ sizeLine) (r : Vals xs us) : ∀ H, SqT K H a xs := fun H => .inr ⟨_, us.toArray, _, lk, rfl, rfl, by rw [List.size_toArray, ← r.length]; exact hl, by simpa using r⟩
theorem fund_mk {x y : Str} {v : V} {u : Value} {st : Stmt} {oc : Value} {od an : Option Addr} {osl : Array (Option Value)} {D : Addr} {doc pm cdv ct : Value} (l : K.lookup f = some ⟨oc, od, .func (PySem.W.fnOf x x (defArgs st) (defBody st) (defScope st) .none (.ref D) doc pm an cdv ct), osl⟩)
    (c : PySem.W.codeIn K cdv x = true) (k : PySem.W.keepIn K (.ref f) = true) (n : PySem.W.nsIn K D y = some (some u)) (r : RelV v u) : FunD K x x (defArgs st) (defBody st) (defScope st) [] [(y, v)] f (PySem.W.fnOf x x (defArgs st) (defBody st) (defScope st) .none (.ref D) doc pm an cdv ct) :=
  ⟨⟨oc, od, _, _, doc, pm, an, cdv, ct, osl, rfl, l, c, .inl ⟨rfl, rfl⟩, .inr ⟨D, rfl, fun q hq => by
    rw [List.mem_singleton.mp hq]
    exact ⟨_, n, r⟩⟩⟩, k⟩
theorem fk_gt (X : K.In h) (Gn : h.Ns mainGlobals mg) (a : PySem.W.nsIn K mainGlobals "gates" = some (some (.ref f))) (F : Fun K "gates" "gates" sGates f fd) : Fg K mg "gates" sGates ["way", "sealed"] ["sealed"] := by
  refine ⟨f, fd, F, PySem.W.mg_of X Gn a, ?_⟩
  obtain ⟨oc, od, kV, doc, pm, an, cdv, ct, osl, rfl, lk, hcd⟩ := F.ex
  refine ⟨fun _ us ws _ hl => ?_, fun {vs us zs ws} r rz => rel11 r rz⟩
  match us, ws, hl with
  | [_], [_], _ => exact .of_eq rfl
theorem fk_lo (X : K.In h) (Gn : h.Ns mainGlobals mg) (a : PySem.W.nsIn K mainGlobals "lows" = some (some (.ref f))) (F : Fun K "lows" "lows" sLows f fd) : Fg K mg "lows" sLows ["way", "sealed"] ["sealed"] := by
  refine ⟨f, fd, F, PySem.W.mg_of X Gn a, ?_⟩
  obtain ⟨oc, od, kV, doc, pm, an, cdv, ct, osl, rfl, lk, hcd⟩ := F.ex
  refine ⟨fun _ us ws _ hl => ?_, fun {vs us zs ws} r rz => rel11 r rz⟩
  match us, ws, hl with
  | [_], [_], _ => exact .of_eq rfl
theorem fk_ft (X : K.In h) (Gn : h.Ns mainGlobals mg) (a : PySem.W.nsIn K mainGlobals "fate" = some (some (.ref f))) (F : Fun K "fate" "fate" sFate f fd) : Ft K mg := by
  refine ⟨f, fd, F, PySem.W.mg_of X Gn a, ?_⟩
  obtain ⟨oc, od, kV, doc, pm, an, cdv, ct, osl, rfl, lk, hcd⟩ := F.ex
  refine ⟨fun _ us ws _ hl => ?_, fun {vs us zs ws} r rz => rel21 r rz⟩
  match us, ws, hl with
  | [_, _], [_], _ => exact .of_eq rfl
theorem kit_int {C : Addr} (e : PySem.W.subIn K (.ref C) (.type "int") = some false) : PySem.W.kitOne K (.ref C) (.type "int") = some false := by
  unfold PySem.W.kitOne
  rw [if_neg (by simp)]
  have m : PySem.W.kitMeta "int" = true := by decide +kernel
  show (if PySem.W.kitMeta "int" = true then PySem.W.subIn K (.ref C) (.type "int") else none) = some false
  rw [if_pos m]
  exact e
/-- the class BadBody behind the top -/
theorem err_mk {q : Str} {R C N : Addr} {bs : List Value} {sn : List Str} {sub : List Value} {ab : Bool} {col : Option Bool} {dd : Option Addr} {k0 k1 k2 k3 k5 : Option Value} (X : K.In h) (Gn : h.Ns mainGlobals mg)
    (aC : PySem.W.nsIn K mainGlobals "BadBody" = some (some (.ref C))) (lk : K.lookup C = some (excClassObj "BadBody" q C N bs [.ref R, .type "ValueError", .type "Exception", .type "BaseException", .type "object"] true sn sub ab col dd k0 k1 k2 k3 k5 "ValueError.__new__"))
    (sa : PySem.W.findIn K (.ref C) "__setattr__" = some (some (.builtin "object.__setattr__"))) (eC : PySem.W.subIn K (.ref C) (.type "BaseException") = some true) (tC : PySem.W.typeIn K (.ref C) = some (.type "type")) (kC : PySem.W.keepIn K (.ref C) = true)
    (hg : PySem.W.findIn K (.ref C) "__getattribute__" = some (some (.builtin "BaseException.__getattribute__"))) (hk : PySem.W.findIn K (.ref C) "__getattr__" = some none) (hd : PySem.W.hasDictIn K C = true) (ha : PySem.W.findIn K (.ref C) "__class__" = some (some (.builtin "object.__class__")))
    (hn : PySem.W.specialIn K (.builtin "object.__class__") "__get__" = some (some (.builtin "getset_descriptor.__get__"))) (ht : PySem.W.takesIn K (.builtin "object.__class__") = some true) (hm : PySem.W.mroIn K C (.type "object") = some true) (no : PySem.W.findIn K (.ref C) "value" = some none)
    (iC : PySem.W.isClsIn K C = true) (sC : PySem.W.subIn K (.ref C) (.ref C) = some true) (ini : PySem.W.findIn K (.ref C) "__init__" = some (some (.ref f))) (tI : PySem.W.typeIn K (.ref f) = some (.type "function")) (F : Fun K "__init__" "BadBody.__init__" sBadI f fd) : Eb K mg C f fd :=
  ⟨PySem.W.mg_of X Gn aC, ⟨⟨⟨_, _, _, _, _, _, _, _, _, _, _, _, _, _, _, lk, (show PySem.HandSPX.refsVE [.type "ValueError", .type "Exception", .type "BaseException", .type "object"] = true by decide +kernel)⟩, sa, eC, tC, kC⟩, ⟨hg, hk, eC, hd, ha, hn, ht, hm⟩, no⟩, G.exm_own iC tC eC sC, ini, tI, F⟩
theorem bn_mk (X : K.In h) (Gn : h.Ns mainGlobals mg) (a0 : PySem.W.nsIn K mainGlobals "isinstance" = some none) (a1 : PySem.W.nsIn K mainGlobals "bool" = some none) (a2 : PySem.W.nsIn K mainGlobals "int" = some none) (a3 : PySem.W.nsIn K mainGlobals "tuple" = some none) (a4 : PySem.W.nsIn K mainGlobals "list" = some none) (a5 : PySem.W.nsIn K mainGlobals "len" = some none) (a6 : PySem.W.nsIn K mainGlobals "range" = some none) (a7 : PySem.W.nsIn K mainGlobals "zip" = some none) (a8 : PySem.W.nsIn K mainGlobals "min" = some none) (a9 : PySem.W.nsIn K mainGlobals "max" = some none) (a10 : PySem.W.nsIn K mainGlobals "sorted" = some none) (a11 : PySem.W.nsIn K mainGlobals "set" = some none) (a12 : PySem.W.nsIn K mainGlobals "enumerate" = some none) : Bn mg := ⟨PySem.W.mg_none_of X Gn a0, PySem.W.mg_none_of X Gn a1, PySem.W.mg_none_of X Gn a2, PySem.W.mg_none_of X Gn a3, PySem.W.mg_none_of X Gn a4, PySem.W.mg_none_of X Gn a5, PySem.W.mg_none_of X Gn a6, PySem.W.mg_none_of X Gn a7, PySem.W.mg_none_of X Gn a8, PySem.W.mg_none_of X Gn a9, PySem.W.mg_none_of X Gn a10, PySem.W.mg_none_of X Gn a11, PySem.W.mg_none_of X Gn a12⟩
theorem no_mk {x : Str} (X : K.In h) (Gn : h.Ns mainGlobals mg) (a : PySem.W.nsIn K mainGlobals x = some none) : mg x = none := PySem.W.mg_none_of X Gn a
theorem ct_mk {C : Addr} (X : K.In h) (Gn : h.Ns mainGlobals mg) (cg : PySem.W.nsIn K mainGlobals "Chain" = some (some (.ref C))) (c1 : PySem.W.plainGet K C Str.empty = true) (c2 : PySem.W.hasDictIn K C = true) (c3 : PySem.W.plainOver K C = true) (c4 : PySem.W.findIn K (.ref C) "__setattr__" = some (some (.builtin "object.__setattr__")))
    (c5 : PySem.W.findIn K (.ref C) "cuts" = some none) (c6 : PySem.W.findIn K (.ref C) "_counts" = some none) : Ct K mg C := ⟨PySem.W.mg_of X Gn cg, ⟨c1, c2, c3, c4⟩, c5, c6⟩
theorem num_mk {t : Tok} {x : Str} {n : Int} (X : K.In h) (Gn : h.Ns mainGlobals mg) (d : PySem.W.nsIn K mainGlobals x = some (some (.int n t))) : ∃ t, mg x = some (.int n t) := ⟨t, PySem.W.mg_of X Gn d⟩
theorem wt_mk {C aS aL aT : Addr} {t0 t1 t2 t3 t4 t5 u1 u2 u3 u4 u5 u6 u7 u8 : Tok} {dS dL dT : Option Addr} {nS nL nT : Nat} {sS sL sT : Array (Option Value)} (X : K.In h) (Gn : h.Ns mainGlobals mg) (cg : PySem.W.nsIn K mainGlobals "Way" = some (some (.ref C)))
    (c1 : PySem.W.plainGet K C Str.empty = true) (c2 : PySem.W.hasDictIn K C = true) (c3 : PySem.W.plainOver K C = true) (c4 : PySem.W.findIn K (.ref C) "__setattr__" = some (some (.builtin "object.__setattr__")))
    (c5 : PySem.W.findIn K (.ref C) "head" = some none) (c6 : PySem.W.findIn K (.ref C) "steps" = some none) (c7 : PySem.W.findIn K (.ref C) "depth" = some none) (c8 : PySem.W.findIn K (.ref C) "size" = some none)
    (iA : PySem.W.findIn K (.ref C) "__class__" = some (some (.builtin "object.__class__"))) (iN : PySem.W.specialIn K (.builtin "object.__class__") "__get__" = some (some (.builtin "getset_descriptor.__get__"))) (iT : PySem.W.takesIn K (.builtin "object.__class__") = some true) (iM : PySem.W.mroIn K C (.type "object") = some true)
    (d0 : PySem.W.nsIn K mainGlobals "GREATEST_HEAD" = some (some (.int 40 t0))) (d1 : PySem.W.nsIn K mainGlobals "GREATEST_ROAD" = some (some (.int 1000 t1))) (d2 : PySem.W.nsIn K mainGlobals "GREATEST_MOST" = some (some (.int 1000000000000 t2))) (d3 : PySem.W.nsIn K mainGlobals "MOST_STEPS" = some (some (.int 12 t3))) (d4 : PySem.W.nsIn K mainGlobals "GREATEST_DEPTH" = some (some (.int 3 t4))) (d5 : PySem.W.nsIn K mainGlobals "GREATEST_SIZE" = some (some (.int 40 t5)))
    (e1 : PySem.W.nsIn K mainGlobals "SEALED_WORDS" = some (some (.ref aS))) (f1 : K.lookup aS = some ⟨.type "tuple", dS, .seq [Value.str "tell" u1, .str "drop" u2].toArray nS, sS⟩)
    (e2 : PySem.W.nsIn K mainGlobals "LOOSE_WORDS" = some (some (.ref aL))) (f2 : K.lookup aL = some ⟨.type "tuple", dL, .seq [Value.str "cut" u3, .str "tell" u4, .str "drop" u5].toArray nL, sL⟩)
    (e3 : PySem.W.nsIn K mainGlobals "TELLS_WORDS" = some (some (.ref aT))) (f3 : K.lookup aT = some ⟨.type "tuple", dT, .seq [Value.str "turn" u6, .str "keep" u7, .str "lose" u8].toArray nT, sT⟩)     : WP.Wt K mg C :=
  ⟨PySem.W.mg_of X Gn cg, ⟨c1, c2, c3, c4⟩, c5, c6, c7, c8, iA, iN, iT, iM, ⟨_, PySem.W.mg_of X Gn d0⟩, ⟨_, PySem.W.mg_of X Gn d1⟩, ⟨_, PySem.W.mg_of X Gn d2⟩, ⟨_, PySem.W.mg_of X Gn d3⟩, ⟨_, PySem.W.mg_of X Gn d4⟩, ⟨_, PySem.W.mg_of X Gn d5⟩,
    ⟨_, PySem.W.mg_of X Gn e1, words_of f1 (by decide) (.cons ⟨_, rfl⟩ (.cons ⟨_, rfl⟩ .nil))⟩, ⟨_, PySem.W.mg_of X Gn e2, words_of f2 (by decide) (.cons ⟨_, rfl⟩ (.cons ⟨_, rfl⟩ (.cons ⟨_, rfl⟩ .nil)))⟩, ⟨_, PySem.W.mg_of X Gn e3, words_of f3 (by decide) (.cons ⟨_, rfl⟩ (.cons ⟨_, rfl⟩ (.cons ⟨_, rfl⟩ .nil)))⟩⟩
end
theorem all_mk {l : PySem.W.OpenLaw} {w : World} {K : PySem.W.Frag} {h : Heap} {mg : Str → Option Value} {fa C CW CB fIn fIw fBi fWe fPc fX fBd fE fA fG fLaw : Addr} {dIn dIw dBi dWe dPc dX dBd dE dA dG dLaw : FuncData} (X : K.In h) (Gn : h.Ns mainGlobals mg) (hfa : mg "law" = some (.ref fa)) (B : Bn mg) (hsum : mg "sum" = none) (hrep : mg "repr" = none) (T : Ct K mg C) (gC : ∃ t, mg "GREATEST_CUT" = some (.int 1000 t)) (nP : ∃ t, mg "NOTHING_PASSES" = some (.int (-1) t)) (gB : ∃ t, mg "GREATEST_BODY" = some (.int 1000000000000000000 t)) (T2 : Cn2 K C) (xC : PySem.W.subIn K (.ref C) (.type "int") = some false) (xW : PySem.W.subIn K (.ref CW) (.type "int") = some false) (EB : Eb K mg CB fBi dBi) (sfC : PySem.W.selfFirst K C = true) (nfG : PySem.W.fnIn K fG = true) (TW : WP.Wt K mg CW)
    (z_I : Fa K mg "is_integer" sInteger ["value"])
    (z_W : Fa K mg "is_within" sWithin ["value", "least", "greatest"])
    (z_ar : Fa K mg "_are_cuts" sAreCuts ["value"])
    (z_co : Fa K mg "_piece_counts" sCounts ["cuts"])
    (z_pi : Fa K mg "_pieces" sPieces ["body", "cuts", "counts"])
    (z_wd : Fa K mg "_word" sWord ["road", "sealed"])
    (z_ga : Fa K mg "_gates_at" sGAt ["head", "step", "chain", "sealed"])
    (z_rg : Fa K mg "_road_gates" sRoadG ["head", "road", "chain", "sealed"])
    (z_lv : Fa K mg "_leaves_more" sLeaves ["chain", "stretch"])
    (z_mg : Fa K mg "_most_gates" sMostG ["most", "chain"])
    (z_tg : Fa K mg "_tunnel_gates" sTunG ["head", "tunnel", "chain", "sealed"])
    (z_tu : Fa K mg "_turned" sTurnG ["answer", "inner_head", "tells"])
    (z_cb : Fa K mg "chains_before" sChB ["way", "sealed"])
    (z_ls : Fa K mg "_law_stream" S.sSource ["script", "start"])
    (z_ld : Fa K mg "_law_draw" S.sDraw ["stream", "size"])
    (z_lch : Fa K mg "_law_choose" S.sPick ["stream", "items"])
    (z_sm : Fa K mg "_law_same" S.sSame ["one", "two"])
    (z_pn : Fa K mg "_law_plan" sLPlan ["stream", "depth", "base"])
    (z_lm : Fa K mg "_law_most" sLMost ["stream"])
    (z_ps : Fa K mg "_law_plan_step" sLStep ["stream", "depth", "base", "head"])
    (z_lw : Fa K mg "_law_way" sLWay ["plan"])
    (z_pl : Fa K mg "_law_places" sPlaces ["plan"])
    (z_cu : Fa K mg "_law_cut_up" sCutUp ["sizes", "last", "cut"])
    (z_gh : Fa K mg "_law_ghost" sGhost ["plan", "body", "kind"])
    (z_gi : Fa K mg "_law_ghost_inside" sGhIn ["step", "at", "head", "sizes", "kind", "stops"])
    (z_fa : Fa K mg "_law_fate" sLFate ["plan", "body", "kind"])
    (z_re : Fa K mg "_law_refused" sRefused ["one", "value", "kind"])
    (z_B : Fa K mg "is_body" WP.sBody ["value"])
    (z_li : Fa K mg "is_step_list" WP.sList ["value"])
    (z_st : Fa K mg "_is_step" WP.sStep ["value", "head"])
    (z_rd : Fa K mg "is_road" WP.sRoad ["size", "sealed", "loose", "least"])
    (z_tl : Fa K mg "is_tells" WP.sTells ["value"])
    (z_mo : Fa K mg "is_most" WP.sMost ["value"])
    (z_hd : Fa K mg "is_head" WP.sHead ["value"])
    (z_gt : Fg K mg "gates" sGates ["way", "sealed"] ["sealed"]) (z_lo : Fg K mg "lows" sLows ["way", "sealed"] ["sealed"]) (z_ft : Ft K mg)
    (MI : Mk K C fIn) (FIn : Fun K "__init__" "Chain.__init__" sCInit fIn dIn) (MIw : Mk K CW fIw) (FIw : Fun K "__init__" "Way.__init__" WP.sInit fIw dIw)
    (oWe : WO.Own K CW fWe "__eq__") (FWe : Fun K "__eq__" "Way.__eq__" WP.sWEq fWe dWe)
    (mPc : Meth K C "pieces" fPc) (FPc : Fun K "pieces" "Chain.pieces" sCPieces fPc dPc)
    (mX : Meth K C "stretch" fX) (FX : Fun K "stretch" "Chain.stretch" sCStretch fX dX)
    (mBd : Meth K C "_boundary" fBd) (FBd : Fun K "_boundary" "Chain._boundary" sCBoundary fBd dBd)
    (oE : WO.Own K C fE "__eq__") (FE : Fun K "__eq__" "Chain.__eq__" sCEq fE dE) 
    (oA : WO.Own K C fA "__add__") (FA : Fun K "__add__" "Chain.__add__" sCAdd fA dA) 
    (oG : WO.Own K C fG "__getitem__") (FG : Fun K "__getitem__" "Chain.__getitem__" sCGet fG dG) 
    (aL : PySem.W.nsIn K mainGlobals "law" = some (some (.ref fLaw))) (FLaw : Fun K "law" "law" sLaw fLaw dLaw) :
    ∃ fd : FuncData, (∀ (s : Shared) (u : Value), BindsTo s fd ⟨[u], []⟩ [("script", u)]) ∧ ∀ base : Heap, K.In base → base.Ns mainGlobals mg → G.Ok l.prog w K mg base CX0 21 fa fd ["script"] (spLaw K) := by
  have e := hfa.symm.trans (PySem.W.mg_of X Gn aL)
  cases e
  refine ⟨dLaw, ?_, fun base _ _ => ?_⟩
  · obtain ⟨_, _, _, _, _, _, _, _, _, rfl, _, _⟩ := FLaw.ex
    exact fun s u => .of_eq rfl
  have DI : Df l.prog w K mg base 1 "is_integer" ["value"] spInteger := z_I.df fun f fd F => ok_integer F B
  have DW : Df l.prog w K mg base 2 "is_within" ["value", "least", "greatest"] spWithin := z_W.df fun f fd F => ok_within F DI
  have DP : Df l.prog w K mg base 1 "_pieces" ["body", "cuts", "counts"] (spPieces K) := z_pi.df fun f fd F => ok_pieces F B
  have DC : Df l.prog w K mg base 2 "_piece_counts" ["cuts"] (spCounts K) := z_co.df fun f fd F => ok_counts F B DP
  have DA : Df l.prog w K mg base 3 "_are_cuts" ["value"] spAre := z_ar.df fun f fd F => ok_are F B gC DW
  have MW : Mw l.prog w K mg base C := ⟨fIn, dIn, ok_cinit FIn B T DA DC, MI, FIn.binds fun _ _ _ _ _ _ us hl => match us, hl with | [_, _], _ => rfl⟩
  have MB : Me l.prog w K mg base C 1 "_boundary" ["self", "number"] (spCBound C) := ⟨fBd, dBd, ok_cbound FBd B T, mBd, FBd.binds fun _ _ _ _ _ _ us hl => match us, hl with | [_, _], _ => rfl⟩
  have MP : Me l.prog w K mg base C 2 "pieces" ["self", "body"] (spCPieces C) := ⟨fPc, dPc, ok_cpieces FPc T DP, mPc, FPc.binds fun _ _ _ _ _ _ us hl => match us, hl with | [_, _], _ => rfl⟩
  have MX : Me l.prog w K mg base C 3 "stretch" ["self", "body", "number"] (spCStretch C) := ⟨fX, dX, ok_cstretch FX T DW MP MB, mX, FX.binds fun _ _ _ _ _ _ us hl => match us, hl with | [_, _, _], _ => rfl⟩
  have DE : Oe l.prog w K mg base C 1 "__eq__" ["self", "other"] (spCEq C) := ⟨fE, dE, ok_ceq FE B T T2, oE, FE.binds fun _ _ _ _ _ _ us hl => match us, hl with | [_, _], _ => rfl⟩
  have DAd : Oq l.prog w K mg base C 6 "__add__" ["self", "other"] (spCAdd C) := ⟨fA, dA, ok_cadd FA B T gC MW, oA, FA.binds fun _ _ _ _ _ _ us hl => match us, hl with | [_, _], _ => rfl⟩
  have DGt : Op l.prog w K mg base C 2 "__getitem__" ["self", "at"] (spCGet C) := ⟨fG, dG, ok_cget FG B T DI MB, oG, FG.binds fun _ _ _ _ _ _ us hl => match us, hl with | [_, _], _ => rfl, nfG⟩
  have Bi : S.Bi mg := ⟨B.int, B.len⟩
  have DU : Df l.prog w K mg base 1 "_law_stream" ["script", "start"] (S.spSource K) := z_ls.df fun f fd F => S.ok_source F Bi
  have DR : Df l.prog w K mg base 1 "_law_draw" ["stream", "size"] S.spDraw := z_ld.df fun f fd F => S.ok_draw F Bi
  have DC2 : Df l.prog w K mg base 2 "_law_choose" ["stream", "items"] (S.spChoose K) := z_lch.df fun f fd F => S.ok_choose F B.len DR
  have DS : G.Du l.prog w K mg base 1 "_law_same" ["one", "two"] (S.spSame2 K) := by
    obtain ⟨f, fd, F, g1, g2, g3⟩ := z_sm.ex
    exact ⟨f, fd, S.ok_same2 F hrep, g1, g2, g3⟩
  -- ways
  have BW : WP.Bn mg := ⟨B.isi, B.bool, B.int, B.tuple, B.list, B.len, B.enum, B.max, hsum⟩
  obtain ⟨fN, fdN, FN, gN, kN, bN⟩ := z_I.ex
  obtain ⟨fW, fdW, FW, gW, kW, bW⟩ := z_W.ex
  obtain ⟨tM, gM⟩ := TW.gMost
  have W0 : WP.Wi l.prog w K mg base fW fdW := ⟨WP.ok_within FW BW FN gN bN, gW, kW, bW⟩
  have EW : WP.Df l.prog w K mg base 2 "is_within" ["value", "least", "greatest"] WP.spWithin := ⟨fW, fdW, W0.ok, gW, kW, bW⟩
  have EM : WP.Df l.prog w K mg base 3 "is_most" ["value"] (WP.spIn1 1 1000000000000) := z_mo.dw fun f fd F => WP.ok_most F W0 gM
  have ERd : WP.Df l.prog w K mg base 3 "is_road" ["size", "sealed", "loose", "least"] WP.spRoad := z_rd.dw fun f fd F => WP.ok_road F TW EW
  have ETn : WP.Df l.prog w K mg base 1 "is_tells" ["value"] WP.spTells := z_tl.dw fun f fd F => WP.ok_tells F TW
  obtain ⟨tH, gH⟩ := TW.gHead
  have EHd : WP.Df l.prog w K mg base 3 "is_head" ["value"] (WP.spIn1 1 40) := z_hd.dw fun f fd F => WP.ok_head F W0 gH
  have ELi : WP.Df l.prog w K mg base 1 "is_step_list" ["value"] (WP.spList K) := z_li.dw fun f fd F => WP.ok_list F BW TW
  have ESt : WP.Df l.prog w K mg base 5 "_is_step" ["value", "head"] (WP.spStep CW) := z_st.dw fun f fd F => WP.ok_step F BW TW ERd EM ETn
  have MWw : WP.Mw l.prog w K mg base CW := ⟨fIw, dIw, WP.ok_init FIw BW TW EHd ELi ESt, MIw, FIw.binds fun _ _ _ _ _ _ us hl => match us, hl with | [_, _, _], _ => rfl⟩
  have DLm : Df l.prog w K mg base 3 "_law_most" ["stream"] spLMost := z_lm.df fun f fd F => ok_lmost F DR DC2
  have DPl : Df l.prog w K mg base 10 "_law_plan" ["stream", "depth", "base"] (spLPlan 3) := dl_plan B z_pn z_ps DR DC2 DLm 3
  have DLw : Df l.prog w K mg base 11 "_law_way" ["plan"] (spLWay CW 3) := dl_way TW MWw z_lw 3
  -- gates
  have GWd : Df l.prog w K mg base 1 "_word" ["road", "sealed"] spWord := z_wd.df fun f fd F => ok_word F
  have GLv : Df l.prog w K mg base 1 "_leaves_more" ["chain", "stretch"] (spLeaves C) := z_lv.df fun f fd F => ok_leaves F B T
  have GTu : Df l.prog w K mg base 1 "_turned" ["answer", "inner_head", "tells"] spTurnG := z_tu.df fun f fd F => ok_turng F
  have GMg : Df l.prog w K mg base 4 "_most_gates" ["most", "chain"] (spMostG C) := z_mg.df fun f fd F => ok_mostg F B T DGt
  have GRg : Df l.prog w K mg base 2 "_road_gates" ["head", "road", "chain", "sealed"] (spRoadG C) := z_rg.df fun f fd F => ok_roadg F GWd GLv
  have GCb : Df l.prog w K mg base 7 "chains_before" ["way", "sealed"] (spChB C CW) := z_cb.df fun f fd F => ok_chb (sfC := sfC) F T TW MW DAd GWd
  have okG := dg_gates (P := l.prog) (w := w) (base := base) B T TW nP z_gt z_tg z_ga GMg GCb GLv GTu GRg 3 (by decide)
  have GG : Dg l.prog w K mg base 17 "gates" ["way", "sealed"] ["sealed"] (spGates CW 3) := z_gt.d okG
  have DCu : Df l.prog w K mg base 1 "_law_cut_up" ["sizes", "last", "cut"] spCutUp := z_cu.df fun f fd F => ok_cutup F B
  have DGh : Df l.prog w K mg base 8 "_law_ghost" ["plan", "body", "kind"] (spGhost 3) := dl_ghost B hsum DCu z_gh z_gi 3
  have DPc : Df l.prog w K mg base 8 "_law_places" ["plan"] (spPlaces 3) := dl_places B z_pl 3
  have GLo : Dg l.prog w K mg base 18 "lows" ["way", "sealed"] ["sealed"] (spLows CW 3) := z_lo.d fun f fd F => ok_lows F B GG
  have DFa : Df l.prog w K mg base 9 "_law_fate" ["plan", "body", "kind"] (spLFate 3) := z_fa.df fun f fd F => ok_lfate F B hsum DGh DPc
  have bWe : Binds K dWe ["self", "other"] [] := FWe.binds fun _ _ _ _ _ _ us hl => match us, hl with | [_, _], _ => rfl
  have GEw : Ew l.prog w K mg base CW := ⟨fWe, dWe, WP.df_weq FWe BW TW oWe bWe 3, oWe, bWe⟩
  have DI2 : Df l.prog w K mg base 1 "is_integer" ["value"] (spInt2 K) := z_I.df fun f fd F => ok_int2 F B
  have DW2 : Df l.prog w K mg base 2 "is_within" ["value", "least", "greatest"] (spWithin2 K) := z_W.df fun f fd F => ok_within2 F DI2
  have DB2 : Df l.prog w K mg base 3 "is_body" ["value"] (spBody2 K) := z_B.df fun f fd F => ok_body2 F DW2 gB
  have DFt0 : DFt l.prog w K mg base 19 (spFate2 K C CW CB 3) := by
    obtain ⟨f, fd, h1, h2, h3⟩ := z_ft.ex
    exact ⟨f, fd, ok_fate2 h1 (by decide) T EB.mk' EB.g DB2 GLo GCb MP MX, h2, h1.kp, h3⟩
  have DRe : Df l.prog w K mg base 20 "_law_refused" ["one", "value", "kind"] (spRefused K CW 3) := z_re.df fun f fd F => ok_refused F EB.L EB.g EB.ex DFt0
  exact ok_law FLaw B T T2 TW (kit_int xC) (kit_int xW) DU DR DPl DLw DS DRe DFt0 DFa MW GEw DE
end CP

end
section
open PySem PySem.W PyProof.Rows
set_option Elab.async false
set_option pp.deepTerms false
set_option pp.maxSteps 60
set_option maxRecDepth 100000 in
set_option maxHeartbeats 0 in
theorem PySem.Challenge.cw_roadsizes_k33_bodies_refused_holds : PySem.Challenge.rw_roadsizes_k33_bodies_refused.Holds := by
  w_on; o_law; k_head; (case hw => w_witness2)
  k_fill
  refine G.walk (l := PySem.Challenge.rw_roadsizes_k33_bodies_refused) (n := 63) (k := 21) (sp := CP.spLaw) (x := "script") rfl (by decide) rfl ⟨rfl, by decide, by decide⟩ (fun w h Y => PySem.W.kIn_of Y) ?F (fun K H a ns hl hb hS => ⟨a, ns, rfl, hS, hl, hb, fun _ => rfl⟩)
  case F =>
    intro w mg fa h KX hNs hmg
    refine' CP.all_mk KX hNs hmg (CP.bn_mk KX hNs ?y0 ?y1 ?y2 ?y3 ?y4 ?y5 ?y6 ?y7 ?y8 ?y9 ?y10 ?y11 ?y12) (CP.no_mk KX hNs ?y13) (CP.no_mk KX hNs ?y14) (CP.ct_mk KX hNs ?cg ?c1 ?c2 ?c3 ?c4 ?c5 ?c6) (CP.num_mk KX hNs ?d0) (CP.num_mk KX hNs ?d1) (CP.num_mk KX hNs ?d2) ⟨?n0, ?n1, ?n2, ?n3, ?n4⟩ ?xC ?xW (CP.err_mk KX hNs ?bg ?blk ?bsa ?bec ?btc ?bkc ?bhg ?bhk ?bhd ?bha ?bhn ?bht ?bhm ?bno ?bic ?bsc ?bin ?bti (L2.fun_mk (st := CP.sBadI) ?lBi ?oBi ?kBi)) ?sfC ?nfG
      (CP.wt_mk KX hNs ?wcg ?wc1 ?wc2 ?wc3 ?wc4 ?wc5 ?wc6 ?wc7 ?wc8 ?wiA ?wiN ?wiT ?wiM ?wd0 ?wd1 ?wd2 ?wd3 ?wd4 ?wd5 ?we1 ?wf1 ?we2 ?wf2 ?we3 ?wf3)
      (CP.fd_I KX hNs ?aI (L2.fun_mk (st := CP.sInteger) ?leI ?oeI ?keI))
      (CP.fd_W KX hNs ?aW (L2.fun_mk (st := CP.sWithin) ?leW ?oeW ?keW))
      (CP.fd_ar KX hNs ?aar (L2.fun_mk (st := CP.sAreCuts) ?lear ?oear ?kear))
      (CP.fd_co KX hNs ?aco (L2.fun_mk (st := CP.sCounts) ?leco ?oeco ?keco))
      (CP.fd_pi KX hNs ?api (L2.fun_mk (st := CP.sPieces) ?lepi ?oepi ?kepi))
      (CP.fd_wd KX hNs ?awd (L2.fun_mk (st := CP.sWord) ?lewd ?oewd ?kewd))
      (CP.fd_ga KX hNs ?aga (L2.fun_mk (st := CP.sGAt) ?lega ?oega ?kega))
      (CP.fd_rg KX hNs ?arg (L2.fun_mk (st := CP.sRoadG) ?lerg ?oerg ?kerg))
      (CP.fd_lv KX hNs ?alv (L2.fun_mk (st := CP.sLeaves) ?lelv ?oelv ?kelv))
      (CP.fd_mg KX hNs ?amg (L2.fun_mk (st := CP.sMostG) ?lemg ?oemg ?kemg))
      (CP.fd_tg KX hNs ?atg (L2.fun_mk (st := CP.sTunG) ?letg ?oetg ?ketg))
      (CP.fd_tu KX hNs ?atu (L2.fun_mk (st := CP.sTurnG) ?letu ?oetu ?ketu))
      (CP.fd_cb KX hNs ?acb (L2.fun_mk (st := CP.sChB) ?lecb ?oecb ?kecb))
      (CP.fd_ls KX hNs ?als (L2.fun_mk (st := S.sSource) ?lels ?oels ?kels))
      (CP.fd_ld KX hNs ?ald (L2.fun_mk (st := S.sDraw) ?leld ?oeld ?keld))
      (CP.fd_lch KX hNs ?alch (L2.fun_mk (st := S.sPick) ?lelch ?oelch ?kelch))
      (CP.fd_sm KX hNs ?asm (L2.fun_mk (st := S.sSame) ?lesm ?oesm ?kesm))
      (CP.fd_pn KX hNs ?apn (L2.fun_mk (st := CP.sLPlan) ?lepn ?oepn ?kepn))
      (CP.fd_lm KX hNs ?alm (L2.fun_mk (st := CP.sLMost) ?lelm ?oelm ?kelm))
      (CP.fd_ps KX hNs ?aps (L2.fun_mk (st := CP.sLStep) ?leps ?oeps ?keps))
      (CP.fd_lw KX hNs ?alw (L2.fun_mk (st := CP.sLWay) ?lelw ?oelw ?kelw))
      (CP.fd_pl KX hNs ?apl (L2.fun_mk (st := CP.sPlaces) ?lepl ?oepl ?kepl))
      (CP.fd_cu KX hNs ?acu (L2.fun_mk (st := CP.sCutUp) ?lecu ?oecu ?kecu))
      (CP.fd_gh KX hNs ?agh (L2.fun_mk (st := CP.sGhost) ?legh ?oegh ?kegh))
      (CP.fd_gi KX hNs ?agi (L2.fun_mk (st := CP.sGhIn) ?legi ?oegi ?kegi))
      (CP.fd_fa KX hNs ?afa (L2.fun_mk (st := CP.sLFate) ?lefa ?oefa ?kefa))
      (CP.fd_re KX hNs ?are (L2.fun_mk (st := CP.sRefused) ?lere ?oere ?kere))
      (CP.fd_B KX hNs ?aB (L2.fun_mk (st := WP.sBody) ?leB ?oeB ?keB))
      (CP.fd_li KX hNs ?ali (L2.fun_mk (st := WP.sList) ?leli ?oeli ?keli))
      (CP.fd_st KX hNs ?ast (L2.fun_mk (st := WP.sStep) ?lest ?oest ?kest))
      (CP.fd_rd KX hNs ?ard (L2.fun_mk (st := WP.sRoad) ?lerd ?oerd ?kerd))
      (CP.fd_tl KX hNs ?atl (L2.fun_mk (st := WP.sTells) ?letl ?oetl ?ketl))
      (CP.fd_mo KX hNs ?amo (L2.fun_mk (st := WP.sMost) ?lemo ?oemo ?kemo))
      (CP.fd_hd KX hNs ?ahd (L2.fun_mk (st := WP.sHead) ?lehd ?oehd ?kehd))
      (CP.fk_gt KX hNs ?agt (L2.fun_mk (st := CP.sGates) ?legt ?oegt ?kegt))
      (CP.fk_lo KX hNs ?alo (L2.fun_mk (st := CP.sLows) ?lelo ?oelo ?kelo))
      (CP.fk_ft KX hNs ?aft (L2.fun_mk (st := CP.sFate) ?left ?oeft ?keft))
      ⟨?i1, ?i2, ?i3, ?i4⟩ (L2.fun_mk (st := CP.sCInit) ?lIn ?oIn ?kIn) ⟨?j1, ?j2, ?j3, ?j4⟩ (L2.fun_mk (st := WP.sInit) ?lJn ?oJn ?kJn)
      ⟨?oaWe, ?ofWe⟩ (L2.fun_mk (st := WP.sWEq) ?lqWe ?oqWe ?kqWe)
      ⟨?maPc, ?mfPc, ?mkPc⟩ (L2.fun_mk (st := CP.sCPieces) ?lmPc ?omPc ?kmPc)
      ⟨?maX, ?mfX, ?mkX⟩ (L2.fun_mk (st := CP.sCStretch) ?lmX ?omX ?kmX)
      ⟨?maBd, ?mfBd, ?mkBd⟩ (L2.fun_mk (st := CP.sCBoundary) ?lmBd ?omBd ?kmBd)
      ⟨?oaE, ?ofE⟩ (L2.fun_mk (st := CP.sCEq) ?lqE ?oqE ?kqE)
      ⟨?oaA, ?ofA⟩ (L2.fun_mk (st := CP.sCAdd) ?lqA ?oqA ?kqA)
      ⟨?oaG, ?ofG⟩ (L2.fun_mk (st := CP.sCGet) ?lqG ?oqG ?kqG)
      ?aLaw (L2.fun_mk (st := CP.sLaw) ?lLaw ?oLaw ?kLaw)
    (case y0 => k_is)
    (case y1 => k_is)
    (case y2 => k_is)
    (case y3 => k_is)
    (case y4 => k_is)
    (case y5 => k_is)
    (case y6 => k_is)
    (case y7 => k_is)
    (case y8 => k_is)
    (case y9 => k_is)
    (case y10 => k_is)
    (case y11 => k_is)
    (case y12 => k_is)
    (case y13 => k_is)
    (case y14 => k_is)
    (case cg => k_is)
    (case c1 => k_is)
    (case c2 => k_is)
    (case c3 => k_is)
    (case c4 => k_is)
    (case c5 => k_is)
    (case c6 => k_is)
    (case d0 => k_is)
    (case d1 => k_is)
    (case d2 => k_is)
    (case n0 => k_is)
    (case n1 => k_is)
    (case n2 => k_is)
    (case n3 => k_is)
    (case n4 => k_is)
    (case xC => k_is)
    (case bg => k_is)
    (case blk => k_is)
    (case bsa => k_is)
    (case bec => k_is)
    (case btc => k_is)
    (case bkc => k_is)
    (case bhg => k_is)
    (case bhk => k_is)
    (case bhd => k_is)
    (case bha => k_is)
    (case bhn => k_is)
    (case bht => k_is)
    (case bhm => k_is)
    (case bno => k_is)
    (case bic => k_is)
    (case bsc => k_is)
    (case bin => k_is)
    (case bti => k_is)
    (case lBi => k_is)
    (case oBi => k_is)
    (case kBi => k_is)
    (case sfC => k_is)
    (case wcg => k_is)
    (case wc1 => k_is)
    (case wc2 => k_is)
    (case wc3 => k_is)
    (case wc4 => k_is)
    (case wc5 => k_is)
    (case wc6 => k_is)
    (case wc7 => k_is)
    (case wc8 => k_is)
    (case wiA => k_is)
    (case wiN => k_is)
    (case wiT => k_is)
    (case wiM => k_is)
    (case wd0 => k_is)
    (case wd1 => k_is)
    (case wd2 => k_is)
    (case wd3 => k_is)
    (case wd4 => k_is)
    (case wd5 => k_is)
    (case we1 => k_is)
    (case wf1 => k_is)
    (case we2 => k_is)
    (case wf2 => k_is)
    (case we3 => k_is)
    (case wf3 => k_is)
    (case aI => k_is)
    (case leI => k_is)
    (case oeI => k_is)
    (case keI => k_is)
    (case aW => k_is)
    (case leW => k_is)
    (case oeW => k_is)
    (case keW => k_is)
    (case aar => k_is)
    (case lear => k_is)
    (case oear => k_is)
    (case kear => k_is)
    (case aco => k_is)
    (case leco => k_is)
    (case oeco => k_is)
    (case keco => k_is)
    (case api => k_is)
    (case lepi => k_is)
    (case oepi => k_is)
    (case kepi => k_is)
    (case awd => k_is)
    (case lewd => k_is)
    (case oewd => k_is)
    (case kewd => k_is)
    (case aga => k_is)
    (case lega => k_is)
    (case oega => k_is)
    (case kega => k_is)
    (case arg => k_is)
    (case lerg => k_is)
    (case oerg => k_is)
    (case kerg => k_is)
    (case alv => k_is)
    (case lelv => k_is)
    (case oelv => k_is)
    (case kelv => k_is)
    (case amg => k_is)
    (case lemg => k_is)
    (case oemg => k_is)
    (case kemg => k_is)
    (case atg => k_is)
    (case letg => k_is)
    (case oetg => k_is)
    (case ketg => k_is)
    (case atu => k_is)
    (case letu => k_is)
    (case oetu => k_is)
    (case ketu => k_is)
    (case acb => k_is)
    (case lecb => k_is)
    (case oecb => k_is)
    (case kecb => k_is)
    (case als => k_is)
    (case lels => k_is)
    (case oels => k_is)
    (case kels => k_is)
    (case ald => k_is)
    (case leld => k_is)
    (case oeld => k_is)
    (case keld => k_is)
    (case alch => k_is)
    (case lelch => k_is)
    (case oelch => k_is)
    (case kelch => k_is)
    (case asm => k_is)
    (case lesm => k_is)
    (case oesm => k_is)
    (case kesm => k_is)
    (case apn => k_is)
    (case lepn => k_is)
    (case oepn => k_is)
    (case kepn => k_is)
    (case alm => k_is)
    (case lelm => k_is)
    (case oelm => k_is)
    (case kelm => k_is)
    (case aps => k_is)
    (case leps => k_is)
    (case oeps => k_is)
    (case keps => k_is)
    (case alw => k_is)
    (case lelw => k_is)
    (case oelw => k_is)
    (case kelw => k_is)
    (case apl => k_is)
    (case lepl => k_is)
    (case oepl => k_is)
    (case kepl => k_is)
    (case acu => k_is)
    (case lecu => k_is)
    (case oecu => k_is)
    (case kecu => k_is)
    (case agh => k_is)
    (case legh => k_is)
    (case oegh => k_is)
    (case kegh => k_is)
    (case agi => k_is)
    (case legi => k_is)
    (case oegi => k_is)
    (case kegi => k_is)
    (case afa => k_is)
    (case lefa => k_is)
    (case oefa => k_is)
    (case kefa => k_is)
    (case are => k_is)
    (case lere => k_is)
    (case oere => k_is)
    (case kere => k_is)
    (case aB => k_is)
    (case leB => k_is)
    (case oeB => k_is)
    (case keB => k_is)
    (case ali => k_is)
    (case leli => k_is)
    (case oeli => k_is)
    (case keli => k_is)
    (case ast => k_is)
    (case lest => k_is)
    (case oest => k_is)
    (case kest => k_is)
    (case ard => k_is)
    (case lerd => k_is)
    (case oerd => k_is)
    (case kerd => k_is)
    (case atl => k_is)
    (case letl => k_is)
    (case oetl => k_is)
    (case ketl => k_is)
    (case amo => k_is)
    (case lemo => k_is)
    (case oemo => k_is)
    (case kemo => k_is)
    (case ahd => k_is)
    (case lehd => k_is)
    (case oehd => k_is)
    (case kehd => k_is)
    (case agt => k_is)
    (case legt => k_is)
    (case oegt => k_is)
    (case kegt => k_is)
    (case alo => k_is)
    (case lelo => k_is)
    (case oelo => k_is)
    (case kelo => k_is)
    (case aft => k_is)
    (case left => k_is)
    (case oeft => k_is)
    (case keft => k_is)
    (case i1 => k_is)
    (case i2 => k_is)
    (case i3 => k_is)
    (case i4 => k_is)
    (case lIn => k_is)
    (case oIn => k_is)
    (case kIn => k_is)
    (case j1 => k_is)
    (case j2 => k_is)
    (case j3 => k_is)
    (case j4 => k_is)
    (case lJn => k_is)
    (case oJn => k_is)
    (case kJn => k_is)
    (case oaWe => k_is)
    (case ofWe => k_is)
    (case lqWe => k_is)
    (case oqWe => k_is)
    (case kqWe => k_is)
    (case maPc => k_is)
    (case mfPc => k_is)
    (case mkPc => k_is)
    (case lmPc => k_is)
    (case omPc => k_is)
    (case kmPc => k_is)
    (case maX => k_is)
    (case mfX => k_is)
    (case mkX => k_is)
    (case lmX => k_is)
    (case omX => k_is)
    (case kmX => k_is)
    (case maBd => k_is)
    (case mfBd => k_is)
    (case mkBd => k_is)
    (case lmBd => k_is)
    (case omBd => k_is)
    (case kmBd => k_is)
    (case oaE => k_is)
    (case ofE => k_is)
    (case lqE => k_is)
    (case oqE => k_is)
    (case kqE => k_is)
    (case oaA => k_is)
    (case ofA => k_is)
    (case lqA => k_is)
    (case oqA => k_is)
    (case kqA => k_is)
    (case oaG => k_is)
    (case ofG => k_is)
    (case lqG => k_is)
    (case oqG => k_is)
    (case kqG => k_is)
    (case aLaw => k_is)
    (case lLaw => k_is)
    (case oLaw => k_is)
    (case kLaw => k_is)
    (case xW => k_is)
    (case nfG => k_is)

end
