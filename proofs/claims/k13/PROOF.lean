import PyProof.Rows.All
import Wide.All
import OpenK.AllK
import Wide.FinOn
import HandS.ForMost
import HandS.Zip
import HandS.IsInst
import HandS.Wide
import HandS.TupAny
import HandS.Conv
import HandS.Style
import KE.GoesEnum
import PySem.Challenge.RW_freerides_k13_whole_loans_in_a_purse_kep
set_option Elab.async false
set_option linter.all false
set_option maxRecDepth 100000
namespace FR
/-! ### the mathematics: cards cs, stamps ss -/
/-- how many full cards the stamps make, with those of n rides -/
def fc : List Int → List Int → Int → Int
  | c :: cs, s :: ss, n => (s + n) / c + fc cs ss n
  | _, _, _ => 0
/-- the least multiple, by steps -/
def perGo : Nat → Int → Int → Int → Int
  | 0, _, period, _ => period
  | n + 1, step, period, full => if period % full = 0 then period else perGo n step (period + step) full
theorem perGo_succ {n : Nat} {step period full : Int} : perGo (n + 1) step period full = if period % full = 0 then period else perGo n step (period + step) full := rfl
def perFrom (p : Int) (cs : List Int) : Int := cs.foldl (fun p c => perGo 20 p p c) p
def perOf (cs : List Int) : Int := perFrom 1 cs
/-- the full cards of a whole period -/
def pq (P : Int) : List Int → Int
  | [] => 0
  | c :: cs => P / c + pq P cs
def Cards (cs : List Int) : Prop := 1 ≤ cs.length ∧ cs.length ≤ 3 ∧ ∀ c ∈ cs, (2 : Int) ≤ c ∧ c ≤ 20
theorem perGo_ok {full step : Int} (h2 : 2 ≤ full) (h20 : full ≤ 20) : ∀ (n : Nat) (k : Int), 1 ≤ k → k ≤ full → (n : Int) + k = 21 → ∃ j, perGo n step (step * k) full = step * j ∧ 1 ≤ j ∧ j ≤ full ∧ (step * j) % full = 0
  | 0, k, h1, h3, h4 => by omega
  | n + 1, k, h1, h3, h4 => by
    unfold perGo
    by_cases c : (step * k) % full = 0
    · rw [if_pos c]
      exact ⟨k, rfl, h1, h3, c⟩
    · rw [if_neg c]
      have hk : k ≠ full := fun e => c (by rw [e]; exact Int.mul_emod_left _ _)
      have e : step * k + step = step * (k + 1) := by rw [Int.mul_add, Int.mul_one]
      rw [e]
      exact perGo_ok h2 h20 n (k + 1) (by omega) (by omega) (by omega)
theorem perFrom_ok : ∀ (cs : List Int) (p : Int), (∀ c ∈ cs, (2 : Int) ≤ c ∧ c ≤ 20) → 1 ≤ p → 1 ≤ perFrom p cs ∧ perFrom p cs ≤ p * 20 ^ cs.length ∧ p ∣ perFrom p cs ∧ ∀ c ∈ cs, c ∣ perFrom p cs
  | [], p, h, h1 => ⟨h1, by show p ≤ p * 1; omega, Int.dvd_refl _, fun c hc => nomatch hc⟩
  | c :: cs, p, h, h1 => by
    obtain ⟨hc2, hc20⟩ := h c (List.mem_cons_self ..)
    obtain ⟨j, e, j1, j2, j3⟩ := perGo_ok (full := c) (step := p) hc2 hc20 20 1 (by omega) (by omega) (by omega)
    rw [Int.mul_one] at e
    have hp : 1 ≤ p * j := by
      have := Int.mul_le_mul h1 j1 (by omega) (by omega)
      omega
    obtain ⟨a, b, d, f⟩ := perFrom_ok cs (p * j) (fun x hx => h x (List.mem_cons_of_mem _ hx)) hp
    have e2 : perFrom p (c :: cs) = perFrom (p * j) cs := by
      show perFrom (perGo 20 p p c) cs = _
      rw [e]
    rw [e2]
    refine ⟨a, Int.le_trans b ?_, Int.dvd_trans (Int.dvd_mul_right p j) d, fun x hx => ?_⟩
    · have g1 : p * j ≤ p * 20 := Int.mul_le_mul_of_nonneg_left (by omega) (by omega)
      have g2 : (p * j) * 20 ^ cs.length ≤ (p * 20) * 20 ^ cs.length := Int.mul_le_mul_of_nonneg_right g1 (Int.le_of_lt (Int.pow_pos (by omega)))
      rw [List.length_cons, Int.pow_succ, Int.mul_comm (20 ^ cs.length) 20, ← Int.mul_assoc]
      exact g2
    · rcases List.mem_cons.mp hx with g | g
      · rw [g]
        exact Int.dvd_trans (Int.dvd_of_emod_eq_zero j3) d
      · exact f x g
theorem perOf_ok {cs : List Int} (h : Cards cs) : 1 ≤ perOf cs ∧ perOf cs ≤ 8000 ∧ ∀ c ∈ cs, c ∣ perOf cs := by
  obtain ⟨a, b, _, d⟩ := perFrom_ok cs 1 h.2.2 (by omega)
  refine ⟨a, Int.le_trans b ?_, d⟩
  have h3 : cs.length = 1 ∨ cs.length = 2 ∨ cs.length = 3 := by
    have := h.1
    have := h.2.1
    omega
  rcases h3 with e | e | e <;> rw [e] <;> decide
theorem fc_mono : ∀ (cs ss : List Int) {m n : Int}, (∀ c ∈ cs, (2 : Int) ≤ c) → m ≤ n → fc cs ss m ≤ fc cs ss n
  | [], _, _, _, _, _ => by simp [fc]
  | c :: cs, [], _, _, _, _ => by simp [fc]
  | c :: cs, s :: ss, m, n, h, hm => by
    have h1 := fc_mono cs ss (fun x hx => h x (List.mem_cons_of_mem _ hx)) hm
    have h2 : (s + m) / c ≤ (s + n) / c := Int.ediv_le_ediv (by have := h c (List.mem_cons_self ..); omega) (by omega)
    show (s + m) / c + fc cs ss m ≤ (s + n) / c + fc cs ss n
    omega
theorem fc_nonneg : ∀ (cs ss : List Int) {n : Int}, (∀ c ∈ cs, (2 : Int) ≤ c) → (∀ s ∈ ss, (0 : Int) ≤ s) → 0 ≤ n → 0 ≤ fc cs ss n
  | [], _, _, _, _, _ => by simp [fc]
  | c :: cs, [], _, _, _, _ => by simp [fc]
  | c :: cs, s :: ss, n, h, hs, hn => by
    have h1 := fc_nonneg cs ss (fun x hx => h x (List.mem_cons_of_mem _ hx)) (fun x hx => hs x (List.mem_cons_of_mem _ hx)) hn
    have h2 : 0 ≤ (s + n) / c := Int.ediv_nonneg (by have := hs s (List.mem_cons_self ..); omega) (by have := h c (List.mem_cons_self ..); omega)
    show 0 ≤ (s + n) / c + fc cs ss n
    omega
theorem fc_per : ∀ (cs ss : List Int) {m P q : Int}, cs.length = ss.length → (∀ c ∈ cs, (2 : Int) ≤ c) → (∀ c ∈ cs, c ∣ P) → fc cs ss (m + P * q) = fc cs ss m + q * pq P cs
  | [], _, _, _, _, _, _, _ => by simp [fc, pq]
  | c :: cs, [], _, _, _, h, _, _ => by simp at h
  | c :: cs, s :: ss, m, P, q, hl, h, hd => by
    have h1 := fc_per cs ss (m := m) (P := P) (q := q) (by simpa using hl) (fun x hx => h x (List.mem_cons_of_mem _ hx)) (fun x hx => hd x (List.mem_cons_of_mem _ hx))
    have hc := h c (List.mem_cons_self ..)
    obtain ⟨k, rfl⟩ := hd c (List.mem_cons_self ..)
    have h2 : (s + (m + c * k * q)) / c = (s + m) / c + k * q := by
      rw [← Int.add_assoc, Int.mul_assoc, Int.add_mul_ediv_left _ _ (by omega)]
    have h3 : c * k / c = k := Int.mul_ediv_cancel_left _ (by omega)
    show (s + (m + c * k * q)) / c + fc cs ss (m + c * k * q) = (s + m) / c + fc cs ss m + q * (c * k / c + pq (c * k) cs)
    rw [h1, h2, h3, Int.mul_add, Int.mul_comm k q]
    omega
/-- what is told of rides and stamps: the least number that pays for itself, or none -/
def Least (cs : List Int) (r : Int) (ss : List Int) (t : Int) : Prop := 0 ≤ t ∧ r + fc cs ss t = t ∧ ∀ m, 0 ≤ m → m < t → m < r + fc cs ss m
def Never (cs : List Int) (r : Int) (ss : List Int) : Prop := ∀ m, 0 ≤ m → m < r + fc cs ss m
theorem never_of {cs ss : List Int} {r : Int} (hC : Cards cs) (hl : cs.length = ss.length) (hp : perOf cs ≤ pq (perOf cs) cs) (h : ∀ m, 0 ≤ m → m < perOf cs → m < r + fc cs ss m) : Never cs r ss := by
  intro m hm
  obtain ⟨p1, p2, p3⟩ := perOf_ok hC
  have e : m = m % perOf cs + perOf cs * (m / perOf cs) := (Int.emod_add_mul_ediv m (perOf cs)).symm
  have h0 := Int.emod_nonneg m (show perOf cs ≠ 0 by omega)
  have h1 := Int.emod_lt_of_pos m (show 0 < perOf cs by omega)
  have h2 := h _ h0 h1
  have hq : 0 ≤ m / perOf cs := Int.ediv_nonneg hm (by omega)
  have h3 := fc_per cs ss (m := m % perOf cs) (P := perOf cs) (q := m / perOf cs) hl (fun c hc => (hC.2.2 c hc).1) p3
  have h4 : (m / perOf cs) * perOf cs ≤ (m / perOf cs) * pq (perOf cs) cs := Int.mul_le_mul_of_nonneg_left hp hq
  rw [← e] at h3
  rw [h3]
  rw [Int.mul_comm] at h4
  omega
/-- where a period does not pay, some number is enough -/
def bound (cs : List Int) (r : Int) (ss : List Int) : Int := perOf cs * (r + fc cs ss 0)
theorem bound_ok {cs ss : List Int} {r : Int} (hC : Cards cs) (hl : cs.length = ss.length) (hs : ∀ s ∈ ss, (0 : Int) ≤ s) (hr : 0 ≤ r) (hp : pq (perOf cs) cs < perOf cs) : 0 ≤ bound cs r ss ∧ r + fc cs ss (bound cs r ss) ≤ bound cs r ss := by
  obtain ⟨p1, p2, p3⟩ := perOf_ok hC
  have h0 := fc_nonneg cs ss (n := 0) (fun c hc => (hC.2.2 c hc).1) hs (by omega)
  have h3 := fc_per cs ss (m := 0) (P := perOf cs) (q := r + fc cs ss 0) hl (fun c hc => (hC.2.2 c hc).1) p3
  rw [Int.zero_add] at h3
  have h4 : (r + fc cs ss 0) * pq (perOf cs) cs ≤ (r + fc cs ss 0) * (perOf cs - 1) := Int.mul_le_mul_of_nonneg_left (by omega) (by omega)
  rw [Int.mul_sub, Int.mul_one, Int.mul_comm _ (perOf cs)] at h4
  unfold bound
  refine ⟨Int.mul_nonneg (by omega) (by omega), ?_⟩
  rw [h3]
  omega
/-- one more round of the search -/
theorem least_step {cs ss : List Int} {r had : Int} (hC : Cards cs) (h : ∀ m, 0 ≤ m → m < had → m < r + fc cs ss m) (h0 : 0 ≤ had) : ∀ m, 0 ≤ m → m < r + fc cs ss had → m < r + fc cs ss m := by
  intro m hm h1
  by_cases c : m < had
  · exact h m hm c
  · have := fc_mono cs ss (m := had) (n := m) (fun c hc => (hC.2.2 c hc).1) (by omega)
    omega
theorem least_unique {cs ss : List Int} {r t u : Int} (a : Least cs r ss t) (b : Least cs r ss u) : t = u := by
  obtain ⟨a0, a1, a2⟩ := a
  obtain ⟨b0, b1, b2⟩ := b
  by_cases c : t < u
  · have := b2 t a0 c
    omega
  · by_cases d : u < t
    · have := a2 u b0 d
      omega
    · omega
theorem least_never {cs ss : List Int} {r t : Int} (a : Least cs r ss t) (b : Never cs r ss) : False := by
  have := b t a.1
  have := a.2.1
  omega
end FR
namespace FR
/-! ### the lists that the program sums -/
def fcl (cs ss : List Int) (n : Int) : List Int := (cs.zip ss).map fun p => (p.2 + n) / p.1
theorem fcl_get {cs ss : List Int} {n : Int} {i : Nat} {c s : Int} (h1 : cs[i]? = some c) (h2 : ss[i]? = some s) : (fcl cs ss n)[i]? = some ((s + n) / c) := by
  unfold fcl
  have hz : (cs.zip ss)[i]? = some (c, s) := List.getElem?_zip_eq_some.mpr ⟨h1, h2⟩
  rw [List.getElem?_map, hz]
  rfl
theorem fcl_sum : ∀ (cs ss : List Int) (n : Int), (fcl cs ss n).sum = fc cs ss n
  | [], _, _ => by simp [fcl, fc]
  | _ :: _, [], _ => by simp [fcl, fc]
  | c :: cs, s :: ss, n => by
    have := fcl_sum cs ss n
    show ((s + n) / c :: fcl cs ss n).sum = (s + n) / c + fc cs ss n
    rw [List.sum_cons, this]
theorem fcl_len {cs ss : List Int} {n : Int} (h : cs.length = ss.length) : (fcl cs ss n).length = cs.length := by
  unfold fcl
  rw [List.length_map, List.length_zip]
  omega
theorem pq_sum (P : Int) : ∀ (cs : List Int), (cs.map (fun c => P / c)).sum = pq P cs
  | [] => rfl
  | c :: cs => by
    rw [List.map_cons, List.sum_cons, pq_sum P cs]
    rfl
/-- what is left -/
def lf (cs ss : List Int) (n : Int) : List Int := (cs.zip ss).map fun p => (p.2 + n) % p.1
theorem lf_get {cs ss : List Int} {n : Int} {i : Nat} {c s : Int} (h1 : cs[i]? = some c) (h2 : ss[i]? = some s) : (lf cs ss n)[i]? = some ((s + n) % c) := by
  unfold lf
  have hz : (cs.zip ss)[i]? = some (c, s) := List.getElem?_zip_eq_some.mpr ⟨h1, h2⟩
  rw [List.getElem?_map, hz]
  rfl
theorem lf_len {cs ss : List Int} {n : Int} (h : cs.length = ss.length) : (lf cs ss n).length = cs.length := by
  unfold lf
  rw [List.length_map, List.length_zip]
  omega
end FR
namespace FR
theorem fc_set_s : ∀ (cs ss : List Int) (i : Nat) {s m : Int}, (∀ c ∈ cs, (2 : Int) ≤ c) → ss[i]? = some s → fc cs ss m ≤ fc cs (ss.set i (s + 1)) m
  | [], _, _, _, _, _, _ => by simp [fc]
  | _ :: _, [], _, _, _, _, h => by simp at h
  | c :: cs, x :: ss, 0, s, m, hc, h => by
    have e : x = s := Option.some.inj h
    subst e
    have h2 : (x + m) / c ≤ (x + 1 + m) / c := Int.ediv_le_ediv (by have := hc c (List.mem_cons_self ..); omega) (by omega)
    show (x + m) / c + fc cs ss m ≤ (x + 1 + m) / c + fc cs ss m
    omega
  | c :: cs, x :: ss, i + 1, s, m, hc, h => by
    have ih := fc_set_s cs ss i (s := s) (m := m) (fun y hy => hc y (List.mem_cons_of_mem _ hy)) (by simpa using h)
    show (x + m) / c + fc cs ss m ≤ (x + m) / c + fc cs (ss.set i (s + 1)) m
    omega
theorem div_anti {x c d : Int} (h0 : 0 ≤ x) (hc : 0 < c) (h : c ≤ d) : x / d ≤ x / c := by
  have h1 : 0 ≤ x / d := Int.ediv_nonneg h0 (by omega)
  refine Int.le_ediv_of_mul_le hc ?_
  have h2 : x / d * c ≤ x / d * d := Int.mul_le_mul_of_nonneg_left h h1
  have h3 : x / d * d ≤ x := Int.ediv_mul_le x (by omega)
  omega
theorem fc_set_c : ∀ (cs ss : List Int) (i : Nat) {c d m : Int}, (∀ c ∈ cs, (2 : Int) ≤ c) → (∀ s ∈ ss, (0 : Int) ≤ s) → 0 ≤ m → cs[i]? = some c → c ≤ d → fc (cs.set i d) ss m ≤ fc cs ss m
  | [], _, _, _, _, _, _, _, _, h, _ => by simp at h
  | _ :: _, [], _, _, _, _, _, _, _, _, _ => by simp [fc]
  | x :: cs, s :: ss, 0, c, d, m, hc, hs, hm, h, hd => by
    have e : x = c := Option.some.inj h
    subst e
    have h2 : (s + m) / d ≤ (s + m) / x := div_anti (by have := hs s (List.mem_cons_self ..); omega) (by have := hc x (List.mem_cons_self ..); omega) hd
    show (s + m) / d + fc cs ss m ≤ (s + m) / x + fc cs ss m
    omega
  | x :: cs, s :: ss, i + 1, c, d, m, hc, hs, hm, h, hd => by
    have ih := fc_set_c cs ss i (c := c) (d := d) (m := m) (fun y hy => hc y (List.mem_cons_of_mem _ hy)) (fun y hy => hs y (List.mem_cons_of_mem _ hy)) hm (by simpa using h) hd
    show (s + m) / x + fc (cs.set i d) ss m ≤ (s + m) / x + fc cs ss m
    omega
theorem set_cut {xs : List Int} {i : Nat} {y : Int} (h : i < xs.length) : xs.take i ++ [y] ++ xs.drop (i + 1) = xs.set i y := by
  rw [List.set_eq_take_append_cons_drop, if_pos h, List.append_assoc]
  rfl
theorem cards_set {cs : List Int} {i : Nat} {d : Int} (h : Cards cs) (h2 : 2 ≤ d) (h20 : d ≤ 20) : Cards (cs.set i d) := by
  refine ⟨by rw [List.length_set]; exact h.1, by rw [List.length_set]; exact h.2.1, fun c hc => ?_⟩
  rcases List.mem_or_eq_of_mem_set hc with g | g
  · exact h.2.2 c g
  · omega
end FR
namespace FR
/-! ### how many are wanted -/
def Want (cs ss : List Int) (a b v : Int) : Prop := 0 ≤ v ∧ (∀ m, a ≤ m → m < b → m + 1 - fc cs ss m ≤ v) ∧ (v = 0 ∨ ∃ m, a ≤ m ∧ m < b ∧ v = m + 1 - fc cs ss m)
theorem want_step {cs ss : List Int} {a b v : Int} (h : Want cs ss a b v) (hab : a ≤ b) : Want cs ss a (b + 1) (if b + 1 - fc cs ss b > v then b + 1 - fc cs ss b else v) := by
  obtain ⟨h0, h1, h2⟩ := h
  split
  · refine ⟨by omega, fun m m0 m1 => ?_, .inr ⟨b, hab, by omega, rfl⟩⟩
    by_cases c : m < b
    · have := h1 m m0 c
      omega
    · have e : m = b := by omega
      rw [e]
      omega
  · refine ⟨h0, fun m m0 m1 => ?_, ?_⟩
    · by_cases c : m < b
      · exact h1 m m0 c
      · have e : m = b := by omega
        rw [e]
        omega
    · rcases h2 with g | ⟨m, m0, m1, g⟩
      · exact .inl g
      · exact .inr ⟨m, m0, by omega, g⟩
theorem want_pays {cs ss : List Int} {n v : Int} (hC : Cards cs) (hl : cs.length = ss.length) (hp : perOf cs ≤ pq (perOf cs) cs) (hn : perOf cs ≤ n) (h : Want cs ss 0 (perOf cs) v) : Want cs ss 0 n v := by
  obtain ⟨h0, h1, h2⟩ := h
  obtain ⟨p1, p2, p3⟩ := perOf_ok hC
  refine ⟨h0, fun m m0 m1 => ?_, ?_⟩
  · have e : m = m % perOf cs + perOf cs * (m / perOf cs) := (Int.emod_add_mul_ediv m (perOf cs)).symm
    have g0 := Int.emod_nonneg m (show perOf cs ≠ 0 by omega)
    have g1 := Int.emod_lt_of_pos m (show 0 < perOf cs by omega)
    have g2 := h1 _ g0 g1
    have hq : 0 ≤ m / perOf cs := Int.ediv_nonneg m0 (by omega)
    have g3 := fc_per cs ss (m := m % perOf cs) (P := perOf cs) (q := m / perOf cs) hl (fun c hc => (hC.2.2 c hc).1) p3
    have g4 : (m / perOf cs) * perOf cs ≤ (m / perOf cs) * pq (perOf cs) cs := Int.mul_le_mul_of_nonneg_left hp hq
    rw [← e] at g3
    rw [g3]
    rw [Int.mul_comm] at g4
    omega
  · rcases h2 with g | ⟨m, m0, m1, g⟩
    · exact .inl g
    · exact .inr ⟨m, m0, by omega, g⟩
theorem want_wears {cs ss : List Int} {n v : Int} (hC : Cards cs) (hl : cs.length = ss.length) (hp : pq (perOf cs) cs < perOf cs) (hn : 0 ≤ n - perOf cs) (h : Want cs ss (n - perOf cs) n v) : Want cs ss 0 n v := by
  obtain ⟨h0, h1, h2⟩ := h
  obtain ⟨p1, p2, p3⟩ := perOf_ok hC
  refine ⟨h0, fun m m0 m1 => ?_, ?_⟩
  · have e : n - 1 - m = (n - 1 - m) % perOf cs + perOf cs * ((n - 1 - m) / perOf cs) := (Int.emod_add_mul_ediv _ (perOf cs)).symm
    have g0 := Int.emod_nonneg (n - 1 - m) (show perOf cs ≠ 0 by omega)
    have g1 := Int.emod_lt_of_pos (n - 1 - m) (show 0 < perOf cs by omega)
    have hq : 0 ≤ (n - 1 - m) / perOf cs := Int.ediv_nonneg (by omega) (by omega)
    have g3 := fc_per cs ss (m := m) (P := perOf cs) (q := (n - 1 - m) / perOf cs) hl (fun c hc => (hC.2.2 c hc).1) p3
    have g4 : ((n - 1 - m) / perOf cs) * pq (perOf cs) cs ≤ ((n - 1 - m) / perOf cs) * perOf cs := Int.mul_le_mul_of_nonneg_left (by omega) hq
    rw [Int.mul_comm _ (perOf cs)] at g4
    have g2 := h1 (m + perOf cs * ((n - 1 - m) / perOf cs)) (by omega) (by omega)
    omega
  · rcases h2 with g | ⟨m, m0, m1, g⟩
    · exact .inl g
    · exact .inr ⟨m, by omega, m1, g⟩
theorem want_le {cs ss : List Int} {n v : Int} (hC : Cards cs) (hs : ∀ s ∈ ss, (0 : Int) ≤ s) (hn : 0 ≤ n) (h : Want cs ss 0 n v) : v ≤ n := by
  rcases h.2.2 with g | ⟨m, m0, m1, g⟩
  · omega
  · have := fc_nonneg cs ss (n := m) (fun c hc => (hC.2.2 c hc).1) hs m0
    omega
theorem want_enough {cs ss : List Int} {n v t : Int} (h : Want cs ss 0 n v) (l : Least cs v ss t) : n ≤ t := by
  obtain ⟨l0, l1, l2⟩ := l
  by_cases c : t < n
  · have := h.2.1 t l0 c
    omega
  · omega
theorem want_fewer {cs ss : List Int} {n v t : Int} (h : Want cs ss 0 n v) (h0 : 0 < v) (l : Least cs (v - 1) ss t) : t < n := by
  obtain ⟨l0, l1, l2⟩ := l
  rcases h.2.2 with g | ⟨m, m0, m1, g⟩
  · omega
  · by_cases c : m < t
    · have := l2 m m0 c
      omega
    · omega
theorem want_fewer' {cs ss : List Int} {n v : Int} (h : Want cs ss 0 n v) (h0 : 0 < v) (l : Never cs (v - 1) ss) : False := by
  rcases h.2.2 with g | ⟨m, m0, m1, g⟩
  · omega
  · have := l m m0
    omega
theorem want_never {cs ss : List Int} {v : Int} (hC : Cards cs) (hl : cs.length = ss.length) (hp : perOf cs ≤ pq (perOf cs) cs) (h : Want cs ss 0 (perOf cs) v) : Never cs v ss :=
  never_of hC hl hp fun m m0 m1 => by
    have := h.2.1 m m0 m1
    omega
theorem never_more {cs ss : List Int} {v w : Int} (h : Never cs v ss) (hw : v ≤ w) : Never cs w ss := fun m m0 => by
  have := h m m0
  omega
theorem wears_ends {cs ss : List Int} {r : Int} (hC : Cards cs) (hl : cs.length = ss.length) (hs : ∀ s ∈ ss, (0 : Int) ≤ s) (hr : 0 ≤ r) (hp : pq (perOf cs) cs < perOf cs) (h : Never cs r ss) : False := by
  obtain ⟨b0, b1⟩ := bound_ok hC hl hs hr hp
  have := h _ b0
  omega
end FR
namespace FR
/-! ### deeds in any order: k rides ridden, G full cards given, zs the stamps now -/
def Gone : List Int → List Int → List Int → Int → Int → Prop
  | c :: cs, s :: ss, z :: zs, k, G => ∃ g, 0 ≤ z ∧ z + c * g = s + k ∧ Gone cs ss zs k (G - g)
  | [], [], [], _, G => G = 0
  | _, _, _, _, _ => False
theorem gone_start : ∀ (cs ss : List Int), cs.length = ss.length → (∀ s ∈ ss, (0 : Int) ≤ s) → Gone cs ss ss 0 0
  | [], [], _, _ => rfl
  | c :: cs, s :: ss, hl, hs => ⟨0, hs s (List.mem_cons_self ..), by omega, by
      have := gone_start cs ss (by simpa using hl) (fun x hx => hs x (List.mem_cons_of_mem _ hx))
      simpa using this⟩
theorem gone_len : ∀ (cs ss zs : List Int) {k G : Int}, Gone cs ss zs k G → zs.length = cs.length ∧ ss.length = cs.length
  | [], [], [], _, _, _ => ⟨rfl, rfl⟩
  | c :: cs, s :: ss, z :: zs, k, G, ⟨g, _, _, h⟩ => by
    have := gone_len cs ss zs h
    simp only [List.length_cons]
    omega
theorem gone_ride : ∀ (cs ss zs : List Int) {k G : Int}, Gone cs ss zs k G → Gone cs ss (zs.map (· + 1)) (k + 1) G
  | [], [], [], _, _, h => h
  | c :: cs, s :: ss, z :: zs, k, G, ⟨g, h0, h1, h2⟩ => ⟨g, by show 0 ≤ z + 1; omega, by show z + 1 + c * g = s + (k + 1); omega, gone_ride cs ss zs h2⟩
theorem gone_give : ∀ (cs ss zs : List Int) (i : Nat) {k G c z : Int}, Gone cs ss zs k G → cs[i]? = some c → zs[i]? = some z → c ≤ z → Gone cs ss (zs.set i (z - c)) k (G + 1)
  | [], [], [], i, _, _, _, _, _, h, _, _ => by simp at h
  | c :: cs, s :: ss, z :: zs, 0, k, G, c', z', ⟨g, h0, h1, h2⟩, hc, hz, h => by
    have e1 : c = c' := Option.some.inj hc
    have e2 : z = z' := Option.some.inj hz
    subst e1 e2
    refine ⟨g + 1, by omega, ?_, ?_⟩
    · rw [Int.mul_add, Int.mul_one]
      omega
    · have e : G + 1 - (g + 1) = G - g := by omega
      rw [e]
      exact h2
  | c :: cs, s :: ss, z :: zs, i + 1, k, G, c', z', ⟨g, h0, h1, h2⟩, hc, hz, h => by
    refine ⟨g, h0, h1, ?_⟩
    have := gone_give cs ss zs i h2 (by simpa using hc) (by simpa using hz) h
    have e : G + 1 - g = G - g + 1 := by omega
    rw [e]
    exact this
theorem gone_le : ∀ (cs ss zs : List Int) {k G : Int}, (∀ c ∈ cs, (2 : Int) ≤ c) → Gone cs ss zs k G → G ≤ fc cs ss k
  | [], [], [], _, G, _, h => by
    have e : G = 0 := h
    simp [fc, e]
  | c :: cs, s :: ss, z :: zs, k, G, hc, ⟨g, h0, h1, h2⟩ => by
    have ih := gone_le cs ss zs (fun x hx => hc x (List.mem_cons_of_mem _ hx)) h2
    have h3 : g ≤ (s + k) / c := Int.le_ediv_of_mul_le (by have := hc c (List.mem_cons_self ..); omega) (by rw [Int.mul_comm]; omega)
    show G ≤ (s + k) / c + fc cs ss k
    omega
theorem gone_end : ∀ (cs ss zs : List Int) {k G : Int}, (∀ c ∈ cs, (2 : Int) ≤ c) → Gone cs ss zs k G → (∀ (i : Nat) (c z : Int), cs[i]? = some c → zs[i]? = some z → z < c) → G = fc cs ss k ∧ zs = lf cs ss k
  | [], [], [], _, G, _, h, _ => by
    have e : G = 0 := h
    simp [fc, lf, e]
  | c :: cs, s :: ss, z :: zs, k, G, hc, ⟨g, h0, h1, h2⟩, hz => by
    have ih := gone_end cs ss zs (fun x hx => hc x (List.mem_cons_of_mem _ hx)) h2 (fun i c z a b => hz (i + 1) c z (by simpa using a) (by simpa using b))
    have hlt : z < c := hz 0 c z rfl rfl
    have c2 := hc c (List.mem_cons_self ..)
    have e1 : s + k = z + c * g := by omega
    have h3 : (s + k) / c = g := by
      rw [e1, Int.add_mul_ediv_left _ _ (by omega), Int.ediv_eq_zero_of_lt h0 hlt]
      omega
    have h4 : (s + k) % c = z := by
      rw [e1, Int.add_mul_emod_self_left, Int.emod_eq_of_lt h0 hlt]
    refine ⟨?_, ?_⟩
    · show G = (s + k) / c + fc cs ss k
      omega
    · show z :: zs = (s + k) % c :: lf cs ss k
      rw [h4, ih.2]
def lsum : List Int → Int
  | [] => 0
  | z :: zs => z + lsum zs
theorem gone_nonneg : ∀ (cs ss zs : List Int) {k G : Int}, Gone cs ss zs k G → ∀ z ∈ zs, (0 : Int) ≤ z
  | [], [], [], _, _, _ => fun z hz => nomatch hz
  | c :: cs, s :: ss, z :: zs, k, G, ⟨g, h0, h1, h2⟩ => fun x hx => by
    rcases List.mem_cons.mp hx with e | e
    · rw [e]
      exact h0
    · exact gone_nonneg cs ss zs h2 x e
theorem lsum_nonneg : ∀ (zs : List Int), (∀ z ∈ zs, (0 : Int) ≤ z) → 0 ≤ lsum zs
  | [], _ => by simp [lsum]
  | z :: zs, h => by
    have := lsum_nonneg zs (fun x hx => h x (List.mem_cons_of_mem _ hx))
    have := h z (List.mem_cons_self ..)
    show 0 ≤ z + lsum zs
    omega
theorem lsum_ride : ∀ (zs : List Int), lsum (zs.map (· + 1)) = lsum zs + zs.length
  | [] => by simp [lsum]
  | z :: zs => by
    have := lsum_ride zs
    show z + 1 + lsum (zs.map (· + 1)) = z + lsum zs + ((zs.length + 1 : Nat) : Int)
    omega
theorem lsum_give : ∀ (zs : List Int) (i : Nat) {z c : Int}, zs[i]? = some z → lsum (zs.set i (z - c)) = lsum zs - c
  | [], _, _, _, h => by simp at h
  | x :: zs, 0, z, c, h => by
    have e : x = z := Option.some.inj h
    subst e
    show x - c + lsum zs = x + lsum zs - c
    omega
  | x :: zs, i + 1, z, c, h => by
    have := lsum_give zs i (c := c) (show zs[i]? = some z by simpa using h)
    show x + lsum (zs.set i (z - c)) = x + lsum zs - c
    omega
/-! ### common multiples of any kind -/
theorem pq_scale : ∀ (cs : List Int) {P W : Int}, (∀ c ∈ cs, (2 : Int) ≤ c) → (∀ c ∈ cs, c ∣ P) → (∀ c ∈ cs, c ∣ W) → pq P cs * W = pq W cs * P
  | [], _, _, _, _, _ => by simp [pq]
  | c :: cs, P, W, hc, hP, hW => by
    have ih := pq_scale cs (P := P) (W := W) (fun x hx => hc x (List.mem_cons_of_mem _ hx)) (fun x hx => hP x (List.mem_cons_of_mem _ hx)) (fun x hx => hW x (List.mem_cons_of_mem _ hx))
    have c2 := hc c (List.mem_cons_self ..)
    obtain ⟨p, hp⟩ := hP c (List.mem_cons_self ..)
    obtain ⟨w, hw⟩ := hW c (List.mem_cons_self ..)
    have e1 : P / c = p := by rw [hp]; exact Int.mul_ediv_cancel_left _ (by omega)
    have e2 : W / c = w := by rw [hw]; exact Int.mul_ediv_cancel_left _ (by omega)
    show (P / c + pq P cs) * W = (W / c + pq W cs) * P
    rw [Int.add_mul, Int.add_mul, ih, e1, e2]
    have e3 : p * W = w * P := by
      rw [hp, hw, Int.mul_left_comm p c w, Int.mul_left_comm w c p, Int.mul_comm p w]
    omega
theorem pays_any {cs : List Int} {P W : Int} (hc : ∀ c ∈ cs, (2 : Int) ≤ c) (hP : ∀ c ∈ cs, c ∣ P) (hW : ∀ c ∈ cs, c ∣ W) (p1 : 1 ≤ P) (w1 : 1 ≤ W) : P ≤ pq P cs ↔ W ≤ pq W cs := by
  have e := pq_scale cs hc hP hW
  constructor
  · intro h
    have h1 : P * W ≤ pq P cs * W := Int.mul_le_mul_of_nonneg_right h (by omega)
    rw [e] at h1
    rw [Int.mul_comm P W] at h1
    exact Int.le_of_mul_le_mul_right h1 (by omega)
  · intro h
    have h1 : W * P ≤ pq W cs * P := Int.mul_le_mul_of_nonneg_right h (by omega)
    rw [← e] at h1
    rw [Int.mul_comm W P] at h1
    exact Int.le_of_mul_le_mul_right h1 (by omega)
theorem never_any {cs ss : List Int} {r W : Int} (hC : Cards cs) (hl : cs.length = ss.length) (w1 : 1 ≤ W) (hW : ∀ c ∈ cs, c ∣ W) (hp : W ≤ pq W cs) (h : ∀ m, 0 ≤ m → m < W → m < r + fc cs ss m) : Never cs r ss := by
  intro m hm
  have e : m = m % W + W * (m / W) := (Int.emod_add_mul_ediv m W).symm
  have h0 := Int.emod_nonneg m (show W ≠ 0 by omega)
  have h1 := Int.emod_lt_of_pos m (show 0 < W by omega)
  have h2 := h _ h0 h1
  have hq : 0 ≤ m / W := Int.ediv_nonneg hm (by omega)
  have h3 := fc_per cs ss (m := m % W) (P := W) (q := m / W) hl (fun c hc => (hC.2.2 c hc).1) hW
  have h4 : (m / W) * W ≤ (m / W) * pq W cs := Int.mul_le_mul_of_nonneg_left hp hq
  rw [← e] at h3
  rw [h3]
  rw [Int.mul_comm] at h4
  omega
end FR
namespace FR
/-! ### no more than 4000 rides where few are begun with, and they wear off -/
def w3_b (a b c : Nat) : Bool := !(decide (2 ≤ a) && decide (2 ≤ b) && decide (2 ≤ c) && decide (b * c + (a * c + a * b) < a * (b * c))) || decide (4012 / a + (4012 / b + 4012 / c) ≤ 3916)
theorem w3_all : ((List.range 21).all fun a => (List.range 21).all fun b => (List.range 21).all fun c => w3_b a b c) = true := by decide +kernel
theorem w3_nat (a : Nat) (ha : a < 21) (b : Nat) (hb : b < 21) (c : Nat) (hc : c < 21) (a2 : 2 ≤ a) (b2 : 2 ≤ b) (c2 : 2 ≤ c) (h : b * c + (a * c + a * b) < a * (b * c)) : 4012 / a + (4012 / b + 4012 / c) ≤ 3916 := by
  have h1 := List.all_eq_true.mp w3_all a (List.mem_range.mpr ha)
  have h2 := List.all_eq_true.mp h1 b (List.mem_range.mpr hb)
  have h3 := List.all_eq_true.mp h2 c (List.mem_range.mpr hc)
  unfold w3_b at h3
  rw [decide_eq_true a2, decide_eq_true b2, decide_eq_true c2, decide_eq_true h] at h3
  exact of_decide_eq_true h3
theorem w2_nat : ∀ a : Nat, a < 21 → ∀ b : Nat, b < 21 → 2 ≤ a → 2 ≤ b → b + a < a * b → 4012 / a + 4012 / b ≤ 3916 := by decide +kernel
theorem as_nat {a : Int} (h2 : 2 ≤ a) (h20 : a ≤ 20) : ∃ n : Nat, a = (n : Int) ∧ n < 21 ∧ 2 ≤ n := ⟨a.toNat, by omega, by omega, by omega⟩
theorem few {s c : Int} (h : s ≤ 12) (hc : 2 ≤ c) : (s + 4000) / c ≤ 4012 / c := Int.ediv_le_ediv (by omega) (by omega)
theorem wears_few : ∀ {cs ss : List Int}, Cards cs → cs.length = ss.length → pq (perOf cs) cs < perOf cs → (∀ s ∈ ss, s ≤ 12) → fc cs ss 4000 ≤ 3916
  | [a], [s], hC, _, hp, hs => by
    obtain ⟨a2, a20⟩ := hC.2.2 a (by simp)
    have h1 := few (hs s (by simp)) a2
    have h2 : (4012 : Int) / a ≤ 4012 / 2 := div_anti (by omega) (by omega) a2
    show (s + 4000) / a + 0 ≤ 3916
    omega
  | [a, b], [s, t], hC, _, hp, hs => by
    obtain ⟨a2, a20⟩ := hC.2.2 a (by simp)
    obtain ⟨b2, b20⟩ := hC.2.2 b (by simp)
    have h1 := few (hs s (by simp)) a2
    have h2 := few (hs t (by simp)) b2
    obtain ⟨p1, _, p3⟩ := perOf_ok hC
    have hd : ∀ c ∈ [a, b], c ∣ a * b := by
      intro c hc
      simp only [List.mem_cons, List.not_mem_nil, or_false] at hc
      rcases hc with e | e <;> rw [e]
      · exact Int.dvd_mul_right a b
      · exact Int.dvd_mul_left a b
    have w1 : 1 ≤ a * b := by
      have := Int.mul_le_mul (show 1 ≤ a by omega) (show 1 ≤ b by omega) (by omega) (by omega)
      omega
    have hw : ¬ a * b ≤ pq (a * b) [a, b] := fun z => by
      have := (pays_any (fun c hc => (hC.2.2 c hc).1) hd p3 w1 p1).mp z
      omega
    have e1 : pq (a * b) [a, b] = b + (a + 0) := by
      show a * b / a + (a * b / b + 0) = b + (a + 0)
      rw [Int.mul_ediv_cancel_left _ (by omega), Int.mul_ediv_cancel _ (by omega)]
    rw [e1] at hw
    obtain ⟨n, rfl, n21, n2⟩ := as_nat a2 a20
    obtain ⟨m, rfl, m21, m2⟩ := as_nat b2 b20
    have := w2_nat n n21 m m21 n2 m2 (by have : ((m + n : Nat) : Int) < ((n * m : Nat) : Int) := by rw [Int.natCast_mul]; omega
                                         omega)
    show (s + 4000) / (n : Int) + ((t + 4000) / (m : Int) + 0) ≤ 3916
    have g1 : (4012 : Int) / (n : Int) = ((4012 / n : Nat) : Int) := rfl
    have g2 : (4012 : Int) / (m : Int) = ((4012 / m : Nat) : Int) := rfl
    omega
  | [a, b, c], [s, t, u], hC, _, hp, hs => by
    obtain ⟨a2, a20⟩ := hC.2.2 a (by simp)
    obtain ⟨b2, b20⟩ := hC.2.2 b (by simp)
    obtain ⟨c2, c20⟩ := hC.2.2 c (by simp)
    have h1 := few (hs s (by simp)) a2
    have h2 := few (hs t (by simp)) b2
    have h3 := few (hs u (by simp)) c2
    obtain ⟨p1, _, p3⟩ := perOf_ok hC
    have hd : ∀ x ∈ [a, b, c], x ∣ a * (b * c) := by
      intro x hx
      simp only [List.mem_cons, List.not_mem_nil, or_false] at hx
      rcases hx with e | e | e <;> rw [e]
      · exact Int.dvd_mul_right a _
      · exact Int.dvd_trans (Int.dvd_mul_right b c) (Int.dvd_mul_left a (b * c))
      · exact Int.dvd_trans (Int.dvd_mul_left b c) (Int.dvd_mul_left a (b * c))
    have w0 : 1 ≤ b * c := by
      have := Int.mul_le_mul (show 1 ≤ b by omega) (show 1 ≤ c by omega) (by omega) (by omega)
      omega
    have w1 : 1 ≤ a * (b * c) := by
      have := Int.mul_le_mul (show 1 ≤ a by omega) w0 (by omega) (by omega)
      omega
    have hw : ¬ a * (b * c) ≤ pq (a * (b * c)) [a, b, c] := fun z => by
      have := (pays_any (fun c hc => (hC.2.2 c hc).1) hd p3 w1 p1).mp z
      omega
    have e1 : pq (a * (b * c)) [a, b, c] = b * c + (a * c + (a * b + 0)) := by
      show a * (b * c) / a + (a * (b * c) / b + (a * (b * c) / c + 0)) = _
      rw [Int.mul_ediv_cancel_left _ (by omega), Int.mul_left_comm a b c, Int.mul_ediv_cancel_left _ (by omega), Int.mul_left_comm b a c, ← Int.mul_assoc, Int.mul_ediv_cancel _ (by omega)]
    rw [e1] at hw
    obtain ⟨n, rfl, n21, n2⟩ := as_nat a2 a20
    obtain ⟨m, rfl, m21, m2⟩ := as_nat b2 b20
    obtain ⟨l, rfl, l21, l2⟩ := as_nat c2 c20
    have := w3_nat n n21 m m21 l l21 n2 m2 l2 (by
      have z : ((m * l + (n * l + n * m) : Nat) : Int) < ((n * (m * l) : Nat) : Int) := by
        rw [Int.natCast_add, Int.natCast_add, Int.natCast_mul, Int.natCast_mul, Int.natCast_mul, Int.natCast_mul, Int.natCast_mul]
        omega
      omega)
    show (s + 4000) / (n : Int) + ((t + 4000) / (m : Int) + ((u + 4000) / (l : Int) + 0)) ≤ 3916
    have g1 : (4012 : Int) / (n : Int) = ((4012 / n : Nat) : Int) := rfl
    have g2 : (4012 : Int) / (m : Int) = ((4012 / m : Nat) : Int) := rfl
    have g3 : (4012 : Int) / (l : Int) = ((4012 / l : Nat) : Int) := rfl
    omega
  | [], _, hC, _, _, _ => absurd hC.1 (by simp)
  | _ :: _ :: _ :: _ :: _, _, hC, _, _, _ => absurd hC.2.1 (by simp)
theorem least_4000 {cs ss : List Int} {r t : Int} (hC : Cards cs) (hl : cs.length = ss.length) (hp : pq (perOf cs) cs < perOf cs) (hs : ∀ s ∈ ss, s ≤ 12) (hr : r ≤ 84) (h : Least cs r ss t) : t ≤ 4000 := by
  have h1 := wears_few hC hl hp hs
  by_cases c : t ≤ 4000
  · exact c
  · have := h.2.2 4000 (by omega) (by omega)
    omega
end FR
namespace FR
theorem pow20 {i : Nat} (h : i ≤ 3) : (20 : Int) ^ i ≤ 8000 := by
  have h3 : i = 0 ∨ i = 1 ∨ i = 2 ∨ i = 3 := by omega
  rcases h3 with e | e | e | e <;> rw [e] <;> decide
theorem whole_step {f c g : Int} (f1 : 1 ≤ f) (c2 : 2 ≤ c) (g0 : 0 < g) (gf : g ∣ f) (gc : g ∣ c) : 1 ≤ f * c / g ∧ f * c / g ≤ f * c ∧ f ∣ f * c / g ∧ c ∣ f * c / g := by
  obtain ⟨c', hc⟩ := gc
  obtain ⟨f', hf⟩ := gf
  have e1 : f * c / g = f * c' := by
    rw [hc, Int.mul_left_comm, Int.mul_ediv_cancel_left _ (by omega)]
  have e2 : f * c / g = f' * c := by
    rw [hf, Int.mul_assoc, Int.mul_ediv_cancel_left _ (by omega)]
  have c1 : 1 ≤ c' := by
    by_cases z : 1 ≤ c'
    · exact z
    · have : g * c' ≤ g * 0 := Int.mul_le_mul_of_nonneg_left (by omega) (by omega)
      omega
  have c3 : c' ≤ c := by
    have : 1 * c' ≤ g * c' := Int.mul_le_mul_of_nonneg_right (by omega) (by omega)
    omega
  have h1 : f * 1 ≤ f * c' := Int.mul_le_mul_of_nonneg_left c1 (by omega)
  have h2 : f * c' ≤ f * c := Int.mul_le_mul_of_nonneg_left c3 (by omega)
  refine ⟨by omega, by omega, ?_, ?_⟩
  · rw [e1]
    exact Int.dvd_mul_right f c'
  · rw [e2]
    exact Int.dvd_mul_left f' c
end FR
namespace FR
theorem least_13 : Least [4] 10 [0] 13 := ⟨by decide, by decide, fun m h0 h1 => by
  show m < 10 + ((0 + m) / 4 + 0)
  omega⟩
theorem least_1 : Least [2, 2] 1 [0, 0] 1 := ⟨by decide, by decide, fun m h0 h1 => by
  show m < 1 + ((0 + m) / 2 + ((0 + m) / 2 + 0))
  omega⟩
theorem never_22 : Never [2, 2] 2 [0, 0] := fun m h0 => by
  show m < 2 + ((0 + m) / 2 + ((0 + m) / 2 + 0))
  omega
theorem most_whole {cs ss : List Int} {r W t : Int} (hC : Cards cs) (hl : cs.length = ss.length) (hp : ¬ pq (perOf cs) cs < perOf cs) (w1 : 1 ≤ W) (hd : ∀ c ∈ cs, c ∣ W) (h : Least cs r ss t) : t ≤ W := by
  by_cases z : t ≤ W
  · exact z
  · obtain ⟨p1, _, p3⟩ := perOf_ok hC
    have hW := (pays_any (fun c hc => (hC.2.2 c hc).1) p3 hd p1 w1).mp (by omega)
    exact (least_never h (never_any hC hl w1 hd hW fun m m0 m1 => h.2.2 m m0 (by omega))).elim
end FR
namespace FR
/-! ### it ends, or never -/
theorem least_search {cs ss : List Int} {r : Int} (hC : Cards cs) (hs : ∀ s ∈ ss, (0 : Int) ≤ s) (hr : 0 ≤ r) : ∀ (n : Nat), (∀ m, 0 ≤ m → m < (n : Int) → m < r + fc cs ss m) ∨ ∃ t, Least cs r ss t
  | 0 => .inl fun m m0 m1 => by omega
  | n + 1 => by
    rcases least_search hC hs hr n with h | h
    · by_cases c : (n : Int) < r + fc cs ss n
      · refine .inl fun m m0 m1 => ?_
        by_cases g : m < (n : Int)
        · exact h m m0 g
        · have e : m = (n : Int) := by omega
          rw [e]
          exact c
      · refine .inr ⟨(n : Int), by omega, ?_, h⟩
        by_cases z : n = 0
        · subst z
          have := fc_nonneg cs ss (n := 0) (fun c hc => (hC.2.2 c hc).1) hs (by omega)
          have e : ((0 : Nat) : Int) = 0 := rfl
          rw [e] at c ⊢
          omega
        · have h1 := h ((n : Int) - 1) (by omega) (by omega)
          have h2 := fc_mono cs ss (m := (n : Int) - 1) (n := (n : Int)) (fun c hc => (hC.2.2 c hc).1) (by omega)
          omega
    · exact .inr h
theorem ends_or {cs ss : List Int} {r : Int} (hC : Cards cs) (hs : ∀ s ∈ ss, (0 : Int) ≤ s) (hr : 0 ≤ r) (h : ∀ t, ¬ Least cs r ss t) : Never cs r ss := by
  intro m m0
  rcases least_search hC hs hr (m.toNat + 1) with g | ⟨t, g⟩
  · exact g m m0 (by omega)
  · exact absurd g (h t)
theorem want_exists (cs ss : List Int) : ∀ n : Nat, ∃ v, Want cs ss 0 (n : Int) v
  | 0 => ⟨0, by omega, fun m m0 m1 => by omega, .inl rfl⟩
  | n + 1 => by
    obtain ⟨v, hv⟩ := want_exists cs ss n
    exact ⟨_, want_step hv (by omega)⟩
theorem want_unique {cs ss : List Int} {n v w : Int} (a : Want cs ss 0 n v) (b : Want cs ss 0 n w) : v = w := by
  have h1 : v ≤ w := by
    rcases a.2.2 with g | ⟨m, m0, m1, g⟩
    · have := b.1
      omega
    · have := b.2.1 m m0 m1
      omega
  have h2 : w ≤ v := by
    rcases b.2.2 with g | ⟨m, m0, m1, g⟩
    · have := a.1
      omega
    · have := a.2.1 m m0 m1
      omega
  omega
/-- from the wanted number on, and from no fewer -/
theorem want_iff {cs ss : List Int} {n v r : Int} (h : Want cs ss 0 n v) (r0 : 0 ≤ r) : (∀ m, 0 ≤ m → m < n → m < r + fc cs ss m) ↔ v ≤ r := by
  constructor
  · intro g
    rcases h.2.2 with e | ⟨m, m0, m1, e⟩
    · omega
    · have := g m m0 m1
      omega
  · intro g m m0 m1
    have := h.2.1 m m0 m1
    omega
theorem least_ge {cs ss : List Int} {r t n : Int} (h : Least cs r ss t) (hC : Cards cs) : n ≤ t ↔ ∀ m, 0 ≤ m → m < n → m < r + fc cs ss m := by
  constructor
  · intro g m m0 m1
    exact h.2.2 m m0 (by omega)
  · intro g
    by_cases c : n ≤ t
    · exact c
    · have := g t h.1 (by omega)
      have := h.2.1
      omega
theorem want_22 {t : Int} (h : Want [2, 2] [0, 0] 0 2 t) : t = 2 := by
  have h1 := h.2.1 1 (by omega) (by omega)
  have e1 : fc [2, 2] [0, 0] 1 = 0 := by decide
  rw [e1] at h1
  have := want_le (cs := [2, 2]) (ss := [0, 0]) ⟨by decide, by decide, by decide⟩ (by decide) (by omega) h
  omega
theorem want_4 {t : Int} (h : Want [4] [0] 0 13 t) : t = 10 := by
  have h1 := h.2.1 12 (by omega) (by omega)
  have e1 : fc [4] [0] 12 = 3 := by decide
  rw [e1] at h1
  rcases h.2.2 with g | ⟨m, m0, m1, g⟩
  · omega
  · have e : fc [4] [0] m = (0 + m) / 4 + 0 := rfl
    rw [e] at g
    omega
end FR
namespace FR
/-! ### folk: purses put together -/
def zadd (xs ys : List Int) : List Int := List.zipWith (· + ·) xs ys
theorem zadd_len {xs ys : List Int} (h : xs.length = ys.length) : (zadd xs ys).length = xs.length := by
  unfold zadd
  rw [List.length_zipWith, h, Nat.min_self]
theorem zadd_comm : ∀ (xs ys : List Int), zadd xs ys = zadd ys xs
  | [], [] => rfl
  | [], _ :: _ => rfl
  | _ :: _, [] => rfl
  | x :: xs, y :: ys => by
    show (x + y) :: zadd xs ys = (y + x) :: zadd ys xs
    rw [zadd_comm xs ys, Int.add_comm]
theorem zadd_assoc : ∀ (xs ys zs : List Int), zadd (zadd xs ys) zs = zadd xs (zadd ys zs)
  | [], _, _ => rfl
  | _ :: _, [], _ => rfl
  | _ :: _, _ :: _, [] => rfl
  | x :: xs, y :: ys, z :: zs => by
    show (x + y + z) :: zadd (zadd xs ys) zs = (x + (y + z)) :: zadd xs (zadd ys zs)
    rw [zadd_assoc xs ys zs, Int.add_assoc]
theorem zadd_zero : ∀ (xs : List Int), zadd xs (List.replicate xs.length 0) = xs
  | [] => rfl
  | x :: xs => by
    show (x + 0) :: zadd xs (List.replicate xs.length 0) = x :: xs
    rw [zadd_zero xs, Int.add_zero]
theorem zadd_nonneg : ∀ {xs ys : List Int}, (∀ x ∈ xs, (0 : Int) ≤ x) → (∀ y ∈ ys, (0 : Int) ≤ y) → ∀ z ∈ zadd xs ys, (0 : Int) ≤ z
  | [], _, _, _, z, hz => by cases hz
  | _ :: _, [], _, _, z, hz => by cases hz
  | x :: xs, y :: ys, hx, hy, z, hz => by
    rcases List.mem_cons.mp (show z ∈ (x + y) :: zadd xs ys from hz) with rfl | h
    · have := hx x List.mem_cons_self
      have := hy y List.mem_cons_self
      omega
    · exact zadd_nonneg (fun a h => hx a (List.mem_cons_of_mem _ h)) (fun a h => hy a (List.mem_cons_of_mem _ h)) z h
theorem fc_shift : ∀ (cs s1 s : List Int) {t m : Int}, cs.length = s1.length → cs.length = s.length → (∀ c ∈ cs, (2 : Int) ≤ c) → fc cs (zadd s1 s) (t + m) = fc cs s1 t + fc cs (zadd (lf cs s1 t) s) m
  | [], [], [], t, m, _, _, _ => by simp [fc, zadd, lf]
  | c :: cs, a :: s1, b :: s, t, m, h1, h2, hc => by
    have ih := fc_shift cs s1 s (t := t) (m := m) (Nat.succ.inj h1) (Nat.succ.inj h2) (fun c h => hc c (List.mem_cons_of_mem _ h))
    have c2 := hc c List.mem_cons_self
    show (a + b + (t + m)) / c + fc cs (zadd s1 s) (t + m) = (a + t) / c + fc cs s1 t + (((a + t) % c + b + m) / c + fc cs (zadd (lf cs s1 t) s) m)
    have e : (a + b + (t + m)) = ((a + t) % c + b + m) + c * ((a + t) / c) := by
      have := Int.emod_add_mul_ediv (a + t) c
      omega
    rw [ih, e, Int.add_mul_ediv_left _ _ (by omega)]
    omega
theorem fc_less : ∀ (cs s1 s : List Int) {m : Int}, cs.length = s1.length → cs.length = s.length → (∀ c ∈ cs, (2 : Int) ≤ c) → (∀ x ∈ s, (0 : Int) ≤ x) → fc cs s1 m ≤ fc cs (zadd s1 s) m
  | [], [], [], m, _, _, _, _ => by simp [fc, zadd]
  | c :: cs, a :: s1, b :: s, m, h1, h2, hc, hs => by
    have ih := fc_less cs s1 s (m := m) (Nat.succ.inj h1) (Nat.succ.inj h2) (fun c h => hc c (List.mem_cons_of_mem _ h)) (fun x h => hs x (List.mem_cons_of_mem _ h))
    have c2 := hc c List.mem_cons_self
    have b0 := hs b List.mem_cons_self
    show (a + m) / c + fc cs s1 m ≤ (a + b + m) / c + fc cs (zadd s1 s) m
    have := Int.ediv_le_ediv (a := a + m) (b := a + b + m) (c := c) (by omega) (by omega)
    omega
theorem shift_least {cs s1 s : List Int} {r1 r t u : Int} (hc : ∀ c ∈ cs, (2 : Int) ≤ c) (h1 : cs.length = s1.length) (h2 : cs.length = s.length) (hs : ∀ x ∈ s, (0 : Int) ≤ x) (r0 : 0 ≤ r) (h : Least cs r1 s1 t) (h' : Least cs r (zadd (lf cs s1 t) s) u) : Least cs (r1 + r) (zadd s1 s) (t + u) := by
  obtain ⟨a0, a1, a2⟩ := h
  obtain ⟨b0, b1, b2⟩ := h'
  refine ⟨by omega, ?_, fun m m0 mt => ?_⟩
  · rw [fc_shift cs s1 s h1 h2 hc]
    omega
  · by_cases q : m < t
    · have := a2 m m0 q
      have := fc_less cs s1 s (m := m) h1 h2 hc hs
      omega
    · have e := fc_shift cs s1 s (t := t) (m := m - t) h1 h2 hc
      rw [show t + (m - t) = m by omega] at e
      have := b2 (m - t) (by omega) (by omega)
      omega
theorem shift_never {cs s1 s : List Int} {r1 r t : Int} (hc : ∀ c ∈ cs, (2 : Int) ≤ c) (h1 : cs.length = s1.length) (h2 : cs.length = s.length) (hs : ∀ x ∈ s, (0 : Int) ≤ x) (r0 : 0 ≤ r) (h : Least cs r1 s1 t) (h' : Never cs r (zadd (lf cs s1 t) s)) : Never cs (r1 + r) (zadd s1 s) := by
  obtain ⟨a0, a1, a2⟩ := h
  intro m m0
  by_cases q : m < t
  · have := a2 m m0 q
    have := fc_less cs s1 s (m := m) h1 h2 hc hs
    omega
  · have e := fc_shift cs s1 s (t := t) (m := m - t) h1 h2 hc
    rw [show t + (m - t) = m by omega] at e
    have := h' (m - t) (by omega)
    omega
theorem first_never {cs s1 s : List Int} {r1 r : Int} (hc : ∀ c ∈ cs, (2 : Int) ≤ c) (h1 : cs.length = s1.length) (h2 : cs.length = s.length) (hs : ∀ x ∈ s, (0 : Int) ≤ x) (r0 : 0 ≤ r) (h : Never cs r1 s1) : Never cs (r1 + r) (zadd s1 s) := by
  intro m m0
  have := h m m0
  have := fc_less cs s1 s (m := m) h1 h2 hc hs
  omega
/-- all purses: rides, stamps -/
def totR (ps : List (Int × List Int)) : Int := (ps.map (·.1)).sum
def totS (n : Nat) (ps : List (Int × List Int)) : List Int := ps.foldr (fun p acc => zadd p.2 acc) (List.replicate n 0)
def GoodP (n : Nat) (ps : List (Int × List Int)) : Prop := ∀ p ∈ ps, 0 ≤ p.1 ∧ p.2.length = n ∧ ∀ x ∈ p.2, (0 : Int) ≤ x
theorem totR_cons {p : Int × List Int} {ps : List (Int × List Int)} : totR (p :: ps) = p.1 + totR ps := by
  unfold totR
  rw [List.map_cons, List.sum_cons]
theorem tot_ok {n : Nat} : ∀ {ps : List (Int × List Int)}, GoodP n ps → 0 ≤ totR ps ∧ (totS n ps).length = n ∧ ∀ x ∈ totS n ps, (0 : Int) ≤ x
  | [], _ => ⟨by simp [totR], List.length_replicate, fun x hx => by rw [(List.mem_replicate.mp hx).2]; omega⟩
  | p :: ps, h => by
    obtain ⟨a, b, c⟩ := tot_ok (ps := ps) (fun q hq => h q (List.mem_cons_of_mem _ hq))
    obtain ⟨d, e, f⟩ := h p List.mem_cons_self
    refine ⟨by rw [totR_cons]; omega, ?_, zadd_nonneg f c⟩
    show (zadd p.2 (totS n ps)).length = n
    rw [zadd_len (by omega), e]
/-- what is left to each, one behind the other -/
inductive Each (cs : List Int) : List (Int × List Int) → List Int → Prop
  | nil : Each cs [] []
  | cons {p t ps ts} : Least cs p.1 p.2 t → Each cs ps ts → Each cs (p :: ps) (t :: ts)
def leftS (cs : List Int) : List (Int × List Int) → List Int → List Int → List Int
  | p :: ps, t :: ts, o => leftS cs ps ts (zadd o (lf cs p.2 t))
  | _, _, o => o
theorem lf_nonneg : ∀ (cs ss : List Int) {t : Int}, (∀ c ∈ cs, (2 : Int) ≤ c) → ∀ x ∈ lf cs ss t, (0 : Int) ≤ x
  | [], _, _, _, x, h => by cases h
  | _ :: _, [], _, _, x, h => by cases h
  | c :: cs, s :: ss, t, hc, x, h => by
    have c2 := hc c List.mem_cons_self
    rcases List.mem_cons.mp (show x ∈ ((s + t) % c) :: lf cs ss t from h) with rfl | h
    · exact Int.emod_nonneg _ (by omega)
    · exact lf_nonneg cs ss (fun c h => hc c (List.mem_cons_of_mem _ h)) x h
theorem folk_step {cs o s1 S : List Int} {n : Nat} (t : Int) : zadd o (zadd s1 S) = zadd s1 (zadd o S) := by
  rw [← zadd_assoc, zadd_comm o s1, zadd_assoc]
theorem folk_least {cs : List Int} (hc : ∀ c ∈ cs, (2 : Int) ≤ c) : ∀ {ps : List (Int × List Int)} {ts o : List Int} {u : Int}, GoodP cs.length ps → o.length = cs.length → (∀ x ∈ o, (0 : Int) ≤ x) → Each cs ps ts → Least cs 0 (leftS cs ps ts o) u → Least cs (totR ps) (zadd o (totS cs.length ps)) (ts.sum + u)
  | [], [], o, u, _, ho, _, _, h => by
    show Least cs 0 (zadd o (List.replicate cs.length 0)) (0 + u)
    rw [← ho, zadd_zero, Int.zero_add]
    exact h
  | p :: ps, t :: ts, o, u, hG, ho, o0, .cons h1 h2, h => by
    obtain ⟨d, e, f⟩ := hG p List.mem_cons_self
    have hG' : GoodP cs.length ps := fun q hq => hG q (List.mem_cons_of_mem _ hq)
    obtain ⟨a, b, c⟩ := tot_ok hG'
    have hl : (lf cs p.2 t).length = cs.length := lf_len (by omega)
    have ih := folk_least hc (o := zadd o (lf cs p.2 t)) hG' (by rw [zadd_len (by omega)]; exact ho) (zadd_nonneg o0 (lf_nonneg cs p.2 hc)) h2 h
    rw [zadd_comm o, zadd_assoc] at ih
    have k := shift_least hc (by omega) (by rw [zadd_len (by omega)]; omega) (zadd_nonneg o0 c) a h1 ih
    show Least cs (totR (p :: ps)) (zadd o (zadd p.2 (totS cs.length ps))) ((t :: ts).sum + u)
    rw [folk_step (cs := cs) (n := 0) 0, totR_cons, List.sum_cons, Int.add_assoc]
    exact k
theorem folk_never {cs : List Int} (hc : ∀ c ∈ cs, (2 : Int) ≤ c) : ∀ {ps : List (Int × List Int)} {ts o : List Int}, GoodP cs.length ps → o.length = cs.length → (∀ x ∈ o, (0 : Int) ≤ x) → Each cs ps ts → Never cs 0 (leftS cs ps ts o) → Never cs (totR ps) (zadd o (totS cs.length ps))
  | [], [], o, _, ho, _, _, h => by
    show Never cs 0 (zadd o (List.replicate cs.length 0))
    rw [← ho, zadd_zero]
    exact h
  | p :: ps, t :: ts, o, hG, ho, o0, .cons h1 h2, h => by
    obtain ⟨d, e, f⟩ := hG p List.mem_cons_self
    have hG' : GoodP cs.length ps := fun q hq => hG q (List.mem_cons_of_mem _ hq)
    obtain ⟨a, b, c⟩ := tot_ok hG'
    have hl : (lf cs p.2 t).length = cs.length := lf_len (by omega)
    have ih := folk_never hc (o := zadd o (lf cs p.2 t)) hG' (by rw [zadd_len (by omega)]; exact ho) (zadd_nonneg o0 (lf_nonneg cs p.2 hc)) h2 h
    rw [zadd_comm o, zadd_assoc] at ih
    have k := shift_never hc (by omega) (by rw [zadd_len (by omega)]; omega) (zadd_nonneg o0 c) a h1 ih
    show Never cs (totR (p :: ps)) (zadd o (zadd p.2 (totS cs.length ps)))
    rw [folk_step (cs := cs) (n := 0) 0, totR_cons]
    exact k
/-- somebody's never end -/
theorem folk_some {cs : List Int} (hc : ∀ c ∈ cs, (2 : Int) ≤ c) : ∀ {ps : List (Int × List Int)} {p : Int × List Int}, GoodP cs.length ps → p ∈ ps → Never cs p.1 p.2 → Never cs (totR ps) (totS cs.length ps)
  | q :: ps, p, hG, hm, h => by
    have hG' : GoodP cs.length ps := fun q hq => hG q (List.mem_cons_of_mem _ hq)
    obtain ⟨a, b, c⟩ := tot_ok hG'
    obtain ⟨d, e, f⟩ := hG q List.mem_cons_self
    show Never cs (totR (q :: ps)) (zadd q.2 (totS cs.length ps))
    rw [totR_cons]
    rcases List.mem_cons.mp hm with rfl | hm
    · exact first_never hc (by omega) (by omega) c a h
    · have ih := folk_some hc hG' hm h
      rw [zadd_comm, Int.add_comm]
      exact first_never hc (by omega) (by omega) f d ih
/-! ### loans -/
def CanN (cs : List Int) (r : Int) (ss : List Int) (n : Int) : Prop := n ≤ r + fc cs ss n
/-- with a loan of L just n rides -/
def Lent (cs : List Int) (r : Int) (ss : List Int) (n L : Int) : Prop := (∀ m, 0 ≤ m → m < n → m < r + L + fc cs ss m) ∧ CanN cs r ss n
theorem lent_iff {cs ss : List Int} {r n v L : Int} (h : Want cs ss 0 n v) (r0 : 0 ≤ r) (l0 : 0 ≤ L) : Lent cs r ss n L ↔ v - r ≤ L ∧ CanN cs r ss n := by
  have := want_iff h (r := r + L) (by omega)
  constructor
  · rintro ⟨a, b⟩
    have := this.mp a
    exact ⟨by omega, b⟩
  · rintro ⟨a, b⟩
    exact ⟨this.mpr (by omega), b⟩
/-- the greatest number -/
def Great (cs : List Int) (r : Int) (ss : List Int) (g : Int) : Prop := 0 ≤ g ∧ r + fc cs ss g = g ∧ ∀ m, g < m → r + fc cs ss m < m
theorem great_can {cs ss : List Int} {r g m : Int} (h : Great cs r ss g) (hm : CanN cs r ss m) : m ≤ g := by
  obtain ⟨_, _, h2⟩ := h
  unfold CanN at hm
  by_cases q : m ≤ g
  · exact q
  · have := h2 m (by omega)
    omega
theorem great_unique {cs ss : List Int} {r g k : Int} (a : Great cs r ss g) (b : Great cs r ss k) : g = k := by
  have h1 := great_can a (m := k) (by unfold CanN; have := b.2.1; omega)
  have h2 := great_can b (m := g) (by unfold CanN; have := a.2.1; omega)
  omega
theorem great_least {cs ss : List Int} {r g t : Int} (a : Great cs r ss g) (b : Least cs r ss t) : t ≤ g := great_can a (by unfold CanN; have := b.2.1; omega)
/-- beyond a bound no number can be had, where rides wear off -/
theorem wears_bound {cs ss : List Int} {r : Int} (hC : Cards cs) (hl : cs.length = ss.length) (hp : pq (perOf cs) cs < perOf cs) : ∀ m, perOf cs * (max 0 (r + fc cs ss (perOf cs)) + 1) ≤ m → r + fc cs ss m < m := by
  obtain ⟨p1, _, hd⟩ := perOf_ok hC
  intro m hm
  have c2 : ∀ c ∈ cs, (2 : Int) ≤ c := fun c h => (hC.2.2 c h).1
  have e := Int.emod_add_mul_ediv m (perOf cs)
  have m0 := Int.emod_nonneg m (show perOf cs ≠ 0 by omega)
  have m1 := Int.emod_lt_of_pos m (show 0 < perOf cs by omega)
  have f := fc_per cs ss (m := m % perOf cs) (P := perOf cs) (q := m / perOf cs) hl c2 hd
  rw [e] at f
  have g := fc_mono cs ss c2 (show m % perOf cs ≤ perOf cs by omega)
  have q1 : max 0 (r + fc cs ss (perOf cs)) + 1 ≤ m / perOf cs := by
    rw [Int.le_ediv_iff_mul_le (by omega), Int.mul_comm]
    exact hm
  have q2 : (m / perOf cs) * pq (perOf cs) cs ≤ (m / perOf cs) * (perOf cs - 1) := Int.mul_le_mul_of_nonneg_left (by omega) (by omega)
  rw [Int.mul_sub, Int.mul_one, Int.mul_comm] at q2
  rw [Int.mul_comm (m / perOf cs) (perOf cs)] at q2
  rw [Int.mul_comm (m / perOf cs) (pq _ cs)] at f
  omega
/-- where a period pays, greater numbers can be had beyond any -/
theorem pays_more {cs ss : List Int} {r : Int} (hC : Cards cs) (hl : cs.length = ss.length) (hp : perOf cs ≤ pq (perOf cs) cs) (h0 : 0 ≤ r + fc cs ss 0) (g : Int) : ∃ m, g < m ∧ CanN cs r ss m := by
  obtain ⟨p1, _, hd⟩ := perOf_ok hC
  have c2 : ∀ c ∈ cs, (2 : Int) ≤ c := fun c h => (hC.2.2 c h).1
  have f := fc_per cs ss (m := 0) (P := perOf cs) (q := max 0 g + 1) hl c2 hd
  refine ⟨perOf cs * (max 0 g + 1), ?_, ?_⟩
  · have : 1 * (max 0 g + 1) ≤ perOf cs * (max 0 g + 1) := Int.mul_le_mul_of_nonneg_right p1 (by omega)
    omega
  · unfold CanN
    rw [Int.zero_add] at f
    rw [f]
    have : (max 0 g + 1) * perOf cs ≤ (max 0 g + 1) * pq (perOf cs) cs := Int.mul_le_mul_of_nonneg_left hp (by omega)
    rw [Int.mul_comm (perOf cs)]
    omega
end FR
namespace FR
/-! ### a card of ten; cards of two, three and seven -/
theorem fc_one {c s m : Int} : fc [c] [s] m = (s + m) / c := by
  show (s + m) / c + 0 = _
  omega
theorem fc_two {c d s t m : Int} : fc [c, d] [s, t] m = (s + m) / c + (t + m) / d := by
  show (s + m) / c + ((t + m) / d + 0) = _
  omega
theorem fc_three {c d e s t u m : Int} : fc [c, d, e] [s, t, u] m = (s + m) / c + (t + m) / d + (u + m) / e := by
  show (s + m) / c + ((t + m) / d + ((u + m) / e + 0)) = _
  omega
theorem ten_least {r : Int} (h : 0 < r) : Least [10] r [0] (r + (r - 1) / 9) := by
  refine ⟨by omega, ?_, fun m m0 mt => ?_⟩
  · rw [fc_one]
    omega
  · rw [fc_one]
    omega
theorem ten_zero : Least [10] 0 [0] 0 := ⟨by decide, by decide, fun m m0 mt => by omega⟩
theorem ten_great {r : Int} (h : 0 ≤ r) : Great [10] r [0] (r + r / 9) := by
  refine ⟨by omega, ?_, fun m m0 => ?_⟩
  · rw [fc_one]
    omega
  · rw [fc_one]
    omega
theorem ten_want {r v : Int} (h : 0 < r) (w : Want [10] [0] 0 (r + (r - 1) / 9) v) : v = r := by
  obtain ⟨v0, v1, v2⟩ := w
  have a := v1 (r + (r - 1) / 9 - 1) (by omega) (by omega)
  rw [fc_one] at a
  rcases v2 with rfl | ⟨m, m0, m1, rfl⟩
  · omega
  · rw [fc_one] at a ⊢
    omega
theorem ten_more {r v : Int} (h : 0 < r) (h9 : r % 9 = 0) (w : Want [10] [0] 0 (r + (r - 1) / 9 + 1) v) : v = r + 1 := by
  obtain ⟨v0, v1, v2⟩ := w
  have a := v1 (r + (r - 1) / 9) (by omega) (by omega)
  rw [fc_one] at a
  rcases v2 with rfl | ⟨m, m0, m1, rfl⟩
  · omega
  · rw [fc_one] at a ⊢
    omega
theorem ten_can {r : Int} (h : 0 < r) (h9 : r % 9 = 0) : CanN [10] r [0] (r + (r - 1) / 9 + 1) := by
  unfold CanN
  rw [fc_one]
  omega
theorem ten_cant {r : Int} (h : 0 < r) (h9 : r % 9 = 0) : ¬ CanN [10] r [0] (r + (r - 1) / 9 + 2) := by
  unfold CanN
  rw [fc_one]
  omega
theorem sev_nat : ∀ m : Nat, m < 42 → (m < 41 → m - (m / 2 + m / 3 + m / 7) ≤ 2) ∧ m - (m / 2 + m / 3 + m / 7) ≤ 3 ∧ (0 < m → m / 2 + m / 3 + m / 7 < m) ∧ m / 2 + m / 3 + m / 7 ≤ m := by decide +kernel
theorem fc_sev (m : Int) (h : 0 ≤ m) : ∃ (q : Int) (k : Nat), 0 ≤ q ∧ k < 42 ∧ m = 42 * q + k ∧ fc [2, 3, 7] [0, 0, 0] m = 41 * q + ((k / 2 + k / 3 + k / 7 : Nat) : Int) := by
  refine ⟨m / 42, (m % 42).toNat, by omega, by omega, by omega, ?_⟩
  rw [fc_three]
  omega
theorem sev_least {r : Int} (h : 3 ≤ r) : Least [2, 3, 7] r [0, 0, 0] (42 * r - 85) := by
  refine ⟨by omega, ?_, fun m m0 mt => ?_⟩
  · rw [fc_three]
    omega
  · obtain ⟨q, k, q0, k1, e, f⟩ := fc_sev m m0
    obtain ⟨a, b, c, d⟩ := sev_nat k k1
    rw [f]
    generalize k / 2 + k / 3 + k / 7 = z at *
    omega
theorem sev_great {r : Int} (h : 0 ≤ r) : Great [2, 3, 7] r [0, 0, 0] (42 * r) := by
  refine ⟨by omega, ?_, fun m m0 => ?_⟩
  · rw [fc_three]
    omega
  · obtain ⟨q, k, q0, k1, e, f⟩ := fc_sev m (by omega)
    obtain ⟨a, b, c, d⟩ := sev_nat k k1
    rw [f]
    generalize k / 2 + k / 3 + k / 7 = z at *
    omega
theorem three_least : Least [3] 0 [1000000000000000000] 499999999999999999 := by
  refine ⟨by decide, by decide, fun m m0 mt => ?_⟩
  rw [fc_one]
  omega
theorem two_never {r : Int} (h : 2 ≤ r) : Never [2, 2] r [0, 0] := fun m m0 => by
  rw [fc_two]
  omega
theorem two_want {n v : Int} (h : 2 ≤ n) (w : Want [2, 2] [0, 0] 0 n v) : v = 2 := by
  obtain ⟨v0, v1, v2⟩ := w
  have a := v1 1 (by omega) (by omega)
  rw [fc_two] at a
  rcases v2 with rfl | ⟨m, m0, m1, rfl⟩
  · omega
  · rw [fc_two] at a ⊢
    omega
theorem two_want' {n v : Int} (h : 2 ≤ n) (w : Want [2, 2] [2, 0] 0 n v) : v = 1 := by
  obtain ⟨v0, v1, v2⟩ := w
  have a := v1 1 (by omega) (by omega)
  rw [fc_two] at a
  rcases v2 with rfl | ⟨m, m0, m1, rfl⟩
  · omega
  · rw [fc_two] at a ⊢
    omega
end FR
namespace FR
/-! ### the greatest number, by shares -/
def shr (P : Int) : List Int → List Int → Int
  | c :: cs, s :: ss => s * (P / c) + shr P cs ss
  | _, _ => 0
def shl (P : Int) (cs ss : List Int) : List Int := (ss.zip (cs.map fun c => P / c)).map fun p => p.1 * p.2
theorem shl_get {P : Int} {cs ss : List Int} {i : Nat} {h s : Int} (h1 : (cs.map fun c => P / c)[i]? = some h) (h2 : ss[i]? = some s) : (shl P cs ss)[i]? = some (s * h) := by
  unfold shl
  rw [List.getElem?_map, List.getElem?_zip_eq_some (z := (s, h)) |>.mpr ⟨h2, h1⟩]
  rfl
theorem shl_sum (P : Int) : ∀ (cs ss : List Int), (shl P cs ss).sum = shr P cs ss
  | [], [] => rfl
  | [], _ :: _ => rfl
  | _ :: _, [] => rfl
  | c :: cs, s :: ss => by
    show (s * (P / c) :: shl P cs ss).sum = s * (P / c) + shr P cs ss
    rw [List.sum_cons, shl_sum P cs ss]
theorem shl_len {P : Int} {cs ss : List Int} (h : cs.length = ss.length) : (shl P cs ss).length = cs.length := by
  unfold shl
  rw [List.length_map, List.length_zip, List.length_map, h, Nat.min_self]
theorem shr_nonneg {P : Int} (hP : 0 ≤ P) : ∀ (cs ss : List Int), (∀ c ∈ cs, (2 : Int) ≤ c) → (∀ s ∈ ss, (0 : Int) ≤ s) → 0 ≤ shr P cs ss
  | [], _, _, _ => Int.le_refl _
  | _ :: _, [], _, _ => Int.le_refl _
  | c :: cs, s :: ss, hc, hs => by
    have ih := shr_nonneg hP cs ss (fun x h => hc x (List.mem_cons_of_mem _ h)) (fun x h => hs x (List.mem_cons_of_mem _ h))
    have c2 := hc c List.mem_cons_self
    have h1 : 0 ≤ s * (P / c) := Int.mul_nonneg (hs s List.mem_cons_self) (Int.ediv_nonneg hP (by omega))
    show 0 ≤ s * (P / c) + shr P cs ss
    omega
/-- a full card is no more than its shares -/
theorem fc_shares {P : Int} (hP : 0 ≤ P) : ∀ (cs ss : List Int) {m : Int}, cs.length = ss.length → (∀ c ∈ cs, (2 : Int) ≤ c) → (∀ c ∈ cs, c ∣ P) → fc cs ss m * P ≤ shr P cs ss + m * pq P cs
  | [], [], m, _, _, _ => by simp [fc, shr, pq]
  | c :: cs, s :: ss, m, hl, hc, hd => by
    have ih := fc_shares hP cs ss (m := m) (Nat.succ.inj hl) (fun x h => hc x (List.mem_cons_of_mem _ h)) (fun x h => hd x (List.mem_cons_of_mem _ h))
    have c2 := hc c List.mem_cons_self
    obtain ⟨k, rfl⟩ := hd c List.mem_cons_self
    have k0 : 0 ≤ k := by
      by_cases z : 0 ≤ k
      · exact z
      · have : c * k < 0 := Int.mul_neg_of_pos_of_neg (by omega) (by omega)
        omega
    have e : c * k / c = k := Int.mul_ediv_cancel_left _ (by omega)
    show ((s + m) / c + fc cs ss m) * (c * k) ≤ s * (c * k / c) + shr (c * k) cs ss + m * (c * k / c + pq (c * k) cs)
    rw [e, Int.add_mul, Int.mul_add m]
    have h1 : (s + m) / c * c ≤ s + m := Int.ediv_mul_le _ (by omega)
    have h2 : (s + m) / c * c * k ≤ (s + m) * k := Int.mul_le_mul_of_nonneg_right h1 k0
    rw [Int.add_mul, Int.mul_assoc] at h2
    omega
theorem pq_nonneg {P : Int} (hP : 0 ≤ P) : ∀ (cs : List Int), (∀ c ∈ cs, (2 : Int) ≤ c) → 0 ≤ pq P cs
  | [], _ => Int.le_refl _
  | c :: cs, hc => by
    have ih := pq_nonneg hP cs (fun x h => hc x (List.mem_cons_of_mem _ h))
    have c2 := hc c List.mem_cons_self
    have h1 : 0 ≤ P / c := Int.ediv_nonneg hP (by omega)
    show 0 ≤ P / c + pq P cs
    omega
def byShares (cs : List Int) (r : Int) (ss : List Int) : Int := (r * perOf cs + shr (perOf cs) cs ss) / (perOf cs - pq (perOf cs) cs)
theorem shares_ok {cs ss : List Int} {r : Int} (hC : Cards cs) (hl : cs.length = ss.length) (hs : ∀ s ∈ ss, (0 : Int) ≤ s) (hr : 0 ≤ r) (hp : pq (perOf cs) cs < perOf cs) : 0 ≤ byShares cs r ss ∧ ∀ m, byShares cs r ss < m → ¬ CanN cs r ss m := by
  obtain ⟨p1, _, hd⟩ := perOf_ok hC
  have c2 : ∀ c ∈ cs, (2 : Int) ≤ c := fun c h => (hC.2.2 c h).1
  unfold byShares
  refine ⟨Int.ediv_nonneg ?_ (by omega), fun m hm hcan => ?_⟩
  · have a := shr_nonneg (P := perOf cs) (by omega) cs ss c2 hs
    have b : 0 ≤ r * perOf cs := Int.mul_nonneg hr (by omega)
    omega
  · have a := fc_shares (P := perOf cs) (by omega) cs ss (m := m) hl c2 hd
    unfold CanN at hcan
    have b : m * perOf cs ≤ (r + fc cs ss m) * perOf cs := Int.mul_le_mul_of_nonneg_right hcan (by omega)
    rw [Int.add_mul] at b
    have d : m * (perOf cs - pq (perOf cs) cs) ≤ r * perOf cs + shr (perOf cs) cs ss := by
      rw [Int.mul_sub]
      omega
    have := Int.le_ediv_of_mul_le (by omega) d
    omega
theorem great_of {cs ss : List Int} {r g : Int} (hC : Cards cs) (g0 : 0 ≤ g) (h : CanN cs r ss g) (hm : ∀ m, g < m → ¬ CanN cs r ss m) : Great cs r ss g := by
  have c2 : ∀ c ∈ cs, (2 : Int) ≤ c := fun c h => (hC.2.2 c h).1
  refine ⟨g0, ?_, fun m h => ?_⟩
  · have a := hm (g + 1) (by omega)
    have b := fc_mono cs ss c2 (show g ≤ g + 1 by omega)
    unfold CanN at h a
    omega
  · have a := hm m h
    unfold CanN at a
    omega
/-! ### full cards given, many at once -/
theorem gone_many : ∀ (cs ss zs : List Int) (i : Nat) {k G c z : Int}, Gone cs ss zs k G → cs[i]? = some c → zs[i]? = some z → 2 ≤ c → Gone cs ss (zs.set i (z % c)) k (G + z / c)
  | [], [], [], i, _, _, _, _, _, h, _, _ => by simp at h
  | c :: cs, s :: ss, z :: zs, 0, k, G, c', z', ⟨g, h0, h1, h2⟩, hc, hz, h => by
    have e1 : c = c' := Option.some.inj hc
    have e2 : z = z' := Option.some.inj hz
    subst e1 e2
    have e := Int.emod_add_mul_ediv z c
    refine ⟨g + z / c, Int.emod_nonneg _ (by omega), ?_, ?_⟩
    · rw [Int.mul_add]
      omega
    · have e : G + z / c - (g + z / c) = G - g := by omega
      rw [e]
      exact h2
  | c :: cs, s :: ss, z :: zs, i + 1, k, G, c', z', ⟨g, h0, h1, h2⟩, hc, hz, h => by
    refine ⟨g, h0, h1, ?_⟩
    have := gone_many cs ss zs i h2 (by simpa using hc) (by simpa using hz) h
    have e : G + z' / c' - g = G - g + z' / c' := by omega
    rw [e]
    exact this
/-! ### what is told of loans -/
/-- the least loan -/
def loanOf (w r : Int) : Int := if w - r > 0 then w - r else 0
end FR
namespace FR
theorem great_4 : Great [4] 10 [0] 13 := ⟨by decide, by decide, fun m h => by rw [fc_one]; omega⟩
theorem great_3 : Great [3] 2 [0] 3 := ⟨by decide, by decide, fun m h => by rw [fc_one]; omega⟩
theorem can_3 : CanN [3] 2 [0] 3 := by unfold CanN; decide
theorem loan_3 {w : Int} (h : Want [3] [0] 0 3 w) : loanOf w 2 = 1 := by
  obtain ⟨v0, v1, v2⟩ := h
  have a := v1 2 (by omega) (by omega)
  rw [fc_one] at a
  have e : w = 3 := by
    rcases v2 with rfl | ⟨m, m0, m1, rfl⟩
    · omega
    · rw [fc_one] at a ⊢
      omega
  rw [e]
  decide
end FR
namespace FR
/-! ### folk in another order -/
theorem each_len {cs : List Int} : ∀ {ps : List (Int × List Int)} {ts : List Int}, Each cs ps ts → ts.length = ps.length
  | [], [], _ => rfl
  | _ :: _, _ :: _, .cons _ h => congrArg (· + 1) (each_len h)
theorem each_app {cs : List Int} : ∀ {ps qs : List (Int × List Int)} {ts us : List Int}, Each cs ps ts → Each cs qs us → Each cs (ps ++ qs) (ts ++ us)
  | [], _, [], _, _, h => h
  | _ :: _, _, _ :: _, _, .cons h1 h2, h => .cons h1 (each_app h2 h)
theorem each_rev {cs : List Int} : ∀ {ps : List (Int × List Int)} {ts : List Int}, Each cs ps ts → Each cs ps.reverse ts.reverse
  | [], [], _ => .nil
  | _ :: _, _ :: _, .cons h1 h2 => by
    rw [List.reverse_cons, List.reverse_cons]
    exact each_app (each_rev h2) (.cons h1 .nil)
theorem each_unique {cs : List Int} : ∀ {ps : List (Int × List Int)} {ts us : List Int}, Each cs ps ts → Each cs ps us → ts = us
  | [], [], [], _, _ => rfl
  | _ :: _, _ :: _, _ :: _, .cons h1 h2, .cons h3 h4 => by rw [least_unique h1 h3, each_unique h2 h4]
theorem each_mem {cs : List Int} : ∀ {ps : List (Int × List Int)} {ts : List Int} {p : Int × List Int}, Each cs ps ts → p ∈ ps → ∃ t, Least cs p.1 p.2 t
  | q :: ps, t :: ts, p, .cons h1 h2, hm => by
    rcases List.mem_cons.mp hm with rfl | hm
    · exact ⟨t, h1⟩
    · exact each_mem h2 hm
theorem sum_app : ∀ (xs ys : List Int), (xs ++ ys).sum = xs.sum + ys.sum
  | [], ys => by rw [List.nil_append, List.sum_nil, Int.zero_add]
  | x :: xs, ys => by rw [List.cons_append, List.sum_cons, List.sum_cons, sum_app xs ys, Int.add_assoc]
theorem sum_rev : ∀ (xs : List Int), xs.reverse.sum = xs.sum
  | [] => rfl
  | x :: xs => by
    rw [List.reverse_cons, sum_app, sum_rev xs, List.sum_cons, List.sum_cons, List.sum_nil]
    omega
theorem totR_rev (ps : List (Int × List Int)) : totR ps.reverse = totR ps := by
  unfold totR
  rw [List.map_reverse, sum_rev]
theorem good_rev {n : Nat} {ps : List (Int × List Int)} (h : GoodP n ps) : GoodP n ps.reverse := fun p hp => h p (List.mem_reverse.mp hp)
theorem sum_nonneg : ∀ {xs : List Int}, (∀ x ∈ xs, (0 : Int) ≤ x) → 0 ≤ xs.sum
  | [], _ => Int.le_refl _
  | x :: xs, h => by
    have := sum_nonneg (fun y hy => h y (List.mem_cons_of_mem _ hy))
    have := h x List.mem_cons_self
    rw [List.sum_cons]
    omega
theorem zadd_zero' {n : Nat} {xs : List Int} (h : xs.length = n) : zadd (List.replicate n 0) xs = xs := by
  rw [zadd_comm, ← h, zadd_zero]
theorem left_step {cs : List Int} : ∀ {ps : List (Int × List Int)} {ts o : List Int} {p : Int × List Int} {t : Int}, ps.length = ts.length → leftS cs (ps ++ [p]) (ts ++ [t]) o = zadd (leftS cs ps ts o) (lf cs p.2 t)
  | [], [], o, p, t, _ => rfl
  | q :: ps, u :: ts, o, p, t, h => left_step (ps := ps) (ts := ts) (o := zadd o (lf cs q.2 u)) (Nat.succ.inj h)
theorem zadd_le {m k : Int} : ∀ {xs ys : List Int}, (∀ x ∈ xs, x ≤ m) → (∀ y ∈ ys, y ≤ k) → ∀ z ∈ zadd xs ys, z ≤ m + k
  | [], _, _, _, z, hz => by cases hz
  | _ :: _, [], _, _, z, hz => by cases hz
  | x :: xs, y :: ys, hx, hy, z, hz => by
    rcases List.mem_cons.mp (show z ∈ (x + y) :: zadd xs ys from hz) with rfl | h
    · have := hx x List.mem_cons_self
      have := hy y List.mem_cons_self
      omega
    · exact zadd_le (fun a h => hx a (List.mem_cons_of_mem _ h)) (fun a h => hy a (List.mem_cons_of_mem _ h)) z h
theorem lf_le : ∀ (cs ss : List Int) {t : Int}, (∀ c ∈ cs, (2 : Int) ≤ c ∧ c ≤ 20) → ∀ x ∈ lf cs ss t, x ≤ 20
  | [], _, _, _, x, h => by cases h
  | _ :: _, [], _, _, x, h => by cases h
  | c :: cs, s :: ss, t, hc, x, h => by
    have c2 := hc c List.mem_cons_self
    rcases List.mem_cons.mp (show x ∈ ((s + t) % c) :: lf cs ss t from h) with rfl | h
    · have := Int.emod_lt_of_pos (s + t) (show 0 < c by omega)
      omega
    · exact lf_le cs ss (fun c h => hc c (List.mem_cons_of_mem _ h)) x h
end FR
namespace FR
/-! ### loans of lesser and greater numbers -/
theorem want_mono {cs ss : List Int} {n m v w : Int} (h : Want cs ss 0 n v) (h' : Want cs ss 0 m w) (hn : n ≤ m) : v ≤ w := by
  obtain ⟨_, _, a⟩ := h
  obtain ⟨b0, b1, _⟩ := h'
  rcases a with rfl | ⟨k, k0, k1, rfl⟩
  · exact b0
  · exact b1 k k0 (by omega)
theorem loan_mono {v w r : Int} (h : v ≤ w) : loanOf v r ≤ loanOf w r := by
  unfold loanOf
  split <;> split <;> omega
theorem loan_zero {cs ss : List Int} {n w r : Int} (h : Want cs ss 0 n w) (r0 : 0 ≤ r) : loanOf w r = 0 ↔ ∀ m, 0 ≤ m → m < n → m < r + fc cs ss m := by
  rw [want_iff h r0]
  unfold loanOf
  constructor
  · intro e
    split at e <;> omega
  · intro e
    rw [if_neg (by omega)]
theorem least_can {cs ss : List Int} {r t n : Int} (h : Least cs r ss t) (n0 : 0 ≤ n) (hn : n ≤ t) : CanN cs r ss n := by
  obtain ⟨_, a, b⟩ := h
  unfold CanN
  by_cases z : n = t
  · rw [z]
    omega
  · have := b n n0 (by omega)
    omega
end FR
namespace FR
theorem gone_lf : ∀ (cs ss : List Int) {n : Int}, (∀ c ∈ cs, (2 : Int) ≤ c) → cs.length = ss.length → Gone cs ss (lf cs ss n) n (fc cs ss n)
  | [], [], _, _, _ => rfl
  | c :: cs, s :: ss, n, hc, hl => by
    have ih := gone_lf cs ss (n := n) (fun x h => hc x (List.mem_cons_of_mem _ h)) (Nat.succ.inj hl)
    have c2 := hc c List.mem_cons_self
    refine ⟨(s + n) / c, Int.emod_nonneg _ (by omega), ?_, ?_⟩
    · have := Int.emod_add_mul_ediv (s + n) c
      omega
    · show Gone cs ss (lf cs ss n) n ((s + n) / c + fc cs ss n - (s + n) / c)
      rw [show (s + n) / c + fc cs ss n - (s + n) / c = fc cs ss n by omega]
      exact ih
end FR
namespace FR
theorem fc_lf : ∀ (cs ss : List Int) {n : Int}, (∀ c ∈ cs, (2 : Int) ≤ c) → fc cs (lf cs ss n) 0 = 0
  | [], _, _, _ => rfl
  | _ :: _, [], _, _ => rfl
  | c :: cs, s :: ss, n, hc => by
    have ih := fc_lf cs ss (n := n) (fun x h => hc x (List.mem_cons_of_mem _ h))
    have c2 := hc c List.mem_cons_self
    show ((s + n) % c + 0) / c + fc cs (lf cs ss n) 0 = 0
    have e : ((s + n) % c + 0) / c = 0 := by
      rw [Int.add_zero]
      exact Int.ediv_eq_zero_of_lt (Int.emod_nonneg _ (by omega)) (Int.emod_lt_of_pos _ (by omega))
    omega
theorem least_rest {cs ss : List Int} {n : Int} (hc : ∀ c ∈ cs, (2 : Int) ≤ c) : Least cs 0 (lf cs ss n) 0 :=
  ⟨Int.le_refl _, by rw [fc_lf cs ss hc]; rfl, fun m m0 m1 => by omega⟩
theorem fc_le : ∀ (cs ss : List Int) {n M : Int}, (∀ c ∈ cs, (2 : Int) ≤ c) → (∀ s ∈ ss, (0 : Int) ≤ s ∧ s ≤ M) → 0 ≤ n → 0 ≤ M → fc cs ss n ≤ cs.length * (M + n)
  | [], _, n, M, _, _, _, _ => by simp [fc]
  | c :: cs, [], n, M, _, _, h0, h1 => by
    show (0 : Int) ≤ _
    exact Int.mul_nonneg (by omega) (by omega)
  | c :: cs, s :: ss, n, M, hc, hs, h0, h1 => by
    have ih := fc_le cs ss (n := n) (M := M) (fun x h => hc x (List.mem_cons_of_mem _ h)) (fun x h => hs x (List.mem_cons_of_mem _ h)) h0 h1
    have c2 := hc c List.mem_cons_self
    have s2 := hs s List.mem_cons_self
    have h3 : (s + n) / c ≤ s + n := Int.ediv_le_self _ (by omega)
    show (s + n) / c + fc cs ss n ≤ _
    rw [List.length_cons, Int.natCast_succ, Int.add_mul]
    omega
end FR
namespace FR
open PySem PySem.Spec PyProof.Rows L2
/-! ### a def that is called: its promise, and where it stands -/
structure Def (P : Program) (w : World) (K : PySem.W.Frag) (mg : Str → Option Value) (base : Heap) (x : Str) (k : Nat) (ps : List Str) (sp : Sp) : Prop where
  ex : ∃ f fd, FnOk P w K mg base CX0 k f fd ps sp ∧ mg x = some (.ref f) ∧ PySem.W.keepIn K (.ref f) = true ∧ Binds K fd ps []
theorem pe_def {X : Cx} {k j : Nat} {ps : List Str} {sp : Sp} {x : Str} {p pos : Pos} {e : Expr} {es : List Expr} {t : TA} (D : Def X.prog X.w X.K X.mg X.base x k ps sp) (hr : Room j X.A) (ha : PA X (e :: es) t) (hg : Gl X x := by rfl) (hl : k ≤ j := by decide)
    (hdb : (x == ("__debug__" : Str)) = false := by decide) (he : starEach (e :: es) X.env = (false, eval e X.env) :: starEach es X.env := by rfl) (hpl : (backTo pos (starEach es X.env)).any (·.1) = false := by rfl) :
    PE X (.Call (.Name x p) (e :: es) [] pos) (tCall sp [] E0 t) := by
  obtain ⟨f, fd, F, m, kp, b⟩ := D.ex
  exact pe_call F (hr.mono hl) hg m kp b .nil pass0 ha hdb he hpl
theorem def_mk {P : Program} {w : World} {K : PySem.W.Frag} {mg : Str → Option Value} {base : Heap} {x : Str} {k : Nat} {ps : List Str} {sp : Sp} {f : Addr} {fd : FuncData} {st : Stmt} (F : Fun K x x st f fd) (ok : FnOk P w K mg base CX0 k f fd ps sp) (m : mg x = some (.ref f)) (b : Binds K fd ps []) : Def P w K mg base x k ps sp :=
  ⟨f, fd, ok, m, F.kp, b⟩
/-! ### heaps: what is kept -/
theorem same_upd {H : Hp} {p : Addr} {o : HO} (h : H p = none) : Same H (upd H p o) := fun b x e => by
  rw [upd_ne (ne_of_none e h)]
  exact e
/-- the two things of a bag: its numbers, its place -/
def BagSh (o : HO) : Prop := ∃ d c, o = .lst [.ref d, .int c]
structure Kp (H H' : Hp) : Prop where
  keep : ∀ a o, H a = some o → ¬ BagSh o → H' a = some o
  bag : ∀ a d c, H a = some (.lst [.ref d, .int c]) → ∃ c', H' a = some (.lst [.ref d, .int c'])
theorem Kp.of {H H' : Hp} (s : Same H H') : Kp H H' := ⟨fun a o e _ => s a o e, fun a d c e => ⟨c, s _ _ e⟩⟩
theorem Kp.refl (H : Hp) : Kp H H := .of (.refl H)
theorem Kp.trans {H H1 H2 : Hp} (x : Kp H H1) (y : Kp H1 H2) : Kp H H2 := by
  refine ⟨fun a o e n => y.keep a o (x.keep a o e n) n, fun a d c e => ?_⟩
  obtain ⟨c1, e1⟩ := x.bag a d c e
  exact y.bag a d c1 e1
/-- what is new to H may be laid or changed -/
theorem Kp.fresh {H H' : Hp} {p : Addr} {o : HO} (x : Kp H H') (h : H p = none) : Kp H (upd H' p o) := by
  refine ⟨fun a u e n => ?_, fun a d c e => ?_⟩
  · rw [upd_ne (ne_of_none e h)]
    exact x.keep a u e n
  · rw [upd_ne (ne_of_none e h)]
    exact x.bag a d c e
theorem Kp.none {H H' : Hp} {p : Addr} (x : Kp H H') (h : H' p = none) : H p = Option.none := by
  cases q : H p with
  | none => rfl
  | some o =>
    by_cases n : BagSh o
    · obtain ⟨d, c, rfl⟩ := n
      obtain ⟨c', e⟩ := x.bag p d c q
      rw [e] at h
      cases h
    · rw [x.keep p o q n] at h
      cases h
theorem Kp.new {H H' : Hp} {p : Addr} {o : HO} (x : Kp H H') (h : H' p = Option.none) : Kp H (upd H' p o) := x.fresh (x.none h)
theorem ntup {xs : List V} : ¬ BagSh (.tup xs) := fun ⟨_, _, e⟩ => nomatch e
theorem nfrz {ob : Obj} {u : HO} : ¬ BagSh (.frz ob u) := fun ⟨_, _, e⟩ => nomatch e
theorem nint {ns : List Int} : ¬ BagSh (.lst (ns.map V.int)) := by
  rintro ⟨d, c, e⟩
  have e' : ns.map V.int = [.ref d, .int c] := HO.lst.inj e
  cases ns with
  | nil => exact nomatch e'
  | cons n r =>
    have := (List.cons.inj e').1
    exact nomatch this
theorem Kp.tup {K : PySem.W.Frag} {H H' : Hp} {a : Addr} {xs : List V} (x : Kp H H') (h : SqT K H a xs) : SqT K H' a xs := by
  rcases h with (h | ⟨o, h⟩) | h
  · exact .inl (.inl (x.keep _ _ h ntup))
  · exact .inl (.inr ⟨o, x.keep _ _ h nfrz⟩)
  · exact .inr h
theorem Kp.ints {K : PySem.W.Frag} {H H' : Hp} {a : Addr} {ns : List Int} (x : Kp H H') (h : SqL K H a (ns.map V.int)) : SqL K H' a (ns.map V.int) := by
  rcases h with (h | ⟨o, h⟩) | h
  · exact .inl (.inl (x.keep _ _ h nint))
  · exact .inl (.inr ⟨o, x.keep _ _ h nfrz⟩)
  · exact .inr h
/-! ### bags -/
def Bag (H : Hp) (b : Addr) : Prop := ∃ (d : Addr) (c : Int) (ds : List Int), H b = some (.lst [.ref d, .int c]) ∧ H d = some (.lst (ds.map V.int)) ∧ ds.length = 400 ∧ ∀ x ∈ ds, (0 : Int) ≤ x ∧ x < 1000
theorem Kp.bags {H H' : Hp} {b : Addr} (x : Kp H H') (h : Bag H b) : Bag H' b := by
  obtain ⟨d, c, ds, h1, h2, h3⟩ := h
  obtain ⟨c', e⟩ := x.bag b d c h1
  exact ⟨d, c', ds, e, x.keep _ _ h2 nint, h3⟩
/-- the place moves on -/
theorem Kp.bump {H : Hp} {b d : Addr} {c c' : Int} (h : H b = some (.lst [.ref d, .int c])) : Kp H (upd H b (.lst [.ref d, .int c'])) := by
  refine ⟨fun a o e n => ?_, fun a d2 c2 e => ?_⟩
  · rw [upd_ne]
    · exact e
    · rintro rfl
      rw [h] at e
      cases e
      exact n ⟨d, c, rfl⟩
  · by_cases q : a = b
    · subst q
      rw [h] at e
      cases e
      exact ⟨c', upd_same⟩
    · exact ⟨c2, by rw [upd_ne q]; exact e⟩
theorem p0 {n : Int} (h : decide (0 < n) = true := by decide) : 0 < n := of_decide_eq_true h
/-! ### lists -/
theorem get_int {ns : List Int} {i : Nat} (h : i < ns.length) : (ns.map V.int)[i]? = some (.int ns[i]) := by
  rw [List.getElem?_map, List.getElem?_eq_getElem h]
  rfl
theorem at_int {ns : List Int} {k : Int} (h0 : 0 ≤ k) (h : k < (ns.length : Int)) : ∃ v, v ∈ ns ∧ ns[k.toNat]? = some v ∧ atI (ns.map V.int) k = some (.int v) := by
  have hk : k.toNat < ns.length := by omega
  refine ⟨ns[k.toNat], List.getElem_mem hk, List.getElem?_eq_getElem hk, ?_⟩
  exact at_of (j := k.toNat) (by omega) (get_int hk)
theorem get_map {ns : List Int} {i : Nat} {x : V} (h : (ns.map V.int)[i]? = some x) : ∃ v, ns[i]? = some v ∧ x = .int v := by
  rw [List.getElem?_map] at h
  cases q : ns[i]? with
  | none =>
    rw [q] at h
    exact nomatch h
  | some v =>
    rw [q] at h
    exact ⟨v, rfl, (Option.some.inj h).symm⟩
end FR
namespace FR
open PySem PySem.Spec PyProof.Rows L2
theorem nrefs {bs : List Addr} : ¬ BagSh (.lst (bs.map V.ref)) := by
  rintro ⟨d, c, e⟩
  have e' : bs.map V.ref = [.ref d, .int c] := HO.lst.inj e
  match bs, e' with
  | [], e' => exact nomatch e'
  | [_], e' => exact nomatch e'
  | _ :: y :: _, e' =>
    have := (List.cons.inj (List.cons.inj e').2).1
    exact nomatch this
theorem bag_upd {H : Hp} {D b : Addr} {bs : List Addr} {o : HO} (h : Bag H b) (e : H D = some (.lst (bs.map V.ref))) : Bag (upd H D o) b := by
  obtain ⟨d, c, ds, h1, h2, h3, h4⟩ := h
  have n1 : b ≠ D := ne_of h1 e (fun z => nrefs ⟨d, c, z.symm⟩)
  have n2 : d ≠ D := ne_of h2 e (fun z => by
    have z' : ds.map V.int = bs.map V.ref := HO.lst.inj z
    match ds, bs, z' with
    | [], _, _ => exact absurd h3 (by decide)
    | x :: r, [], z' => exact nomatch z'
    | x :: r, y :: t, z' => exact nomatch (List.cons.inj z').1)
  exact ⟨d, c, ds, by rw [upd_ne n1]; exact h1, by rw [upd_ne n2]; exact h2, h3, h4⟩
end FR
namespace FR
open PySem PySem.Spec PyProof.Rows L2
theorem ix_listK (K : PySem.W.Frag) {X : Cx} (h : X.K = K := by rfl) : IxR X (rIxL K) := h ▸ ix_list
theorem ix_tupK (K : PySem.W.Frag) {X : Cx} (h : X.K = K := by rfl) : IxR X (rIxT K) := h ▸ ix_tup
theorem call_len_seqK (K : PySem.W.Frag) {X : Cx} (h : X.K = K := by rfl) : CallR X (.builtin "len") (fun xs H Q => ∃ p ys, xs = [.ref p] ∧ (SqL K H p ys ∨ SqT K H p ys) ∧ Q (.int ys.length) H) := h ▸ call_len_seq
end FR
namespace FR
open PySem PySem.Spec PyProof.Rows L2
/-! ### data of any depth -/
theorem dp_len {K : PySem.W.Frag} {H : Hp} : ∀ {xs : List V} {ds : List PyData}, DpAll K H xs ds → xs.length = ds.length
  | _, _, .nil => rfl
  | _, _, .cons _ t => congrArg (· + 1) (dp_len t)
theorem dp_get {K : PySem.W.Frag} {H : Hp} : ∀ {xs : List V} {ds : List PyData} {i : Nat} {x : V}, DpAll K H xs ds → xs[i]? = some x → ∃ d, ds[i]? = some d ∧ Dp K H x d
  | _, _, i, _, .nil, e => by simp at e
  | _, _, 0, _, .cons h _, e => ⟨_, rfl, (Option.some.inj e) ▸ h⟩
  | _, _, i + 1, x, .cons (vs := vs) (ds := ds) _ t, e => by
    have e' : vs[i]? = some x := by simpa using e
    obtain ⟨d, h1, h2⟩ := dp_get t e'
    exact ⟨d, by simpa using h1, h2⟩
theorem Same.seqT {K : PySem.W.Frag} {H H' : Hp} {a : Addr} {xs : List V} (e : Same H H') (h : SqT K H a xs) : SqT K H' a xs := by
  rcases h with (h | ⟨o, h⟩) | h
  · exact .inl (.inl (e _ _ h))
  · exact .inl (.inr ⟨o, e _ _ h⟩)
  · exact .inr h
mutual
theorem Same.dp {K : PySem.W.Frag} {H H' : Hp} (e : Same H H') : ∀ {x : V} {d : PyData}, Dp K H x d → Dp K H' x d
  | _, _, .non => .non
  | _, _, .bl b => .bl b
  | _, _, .int b => .int b
  | _, _, .str b => .str b
  | _, _, .lst s t => .lst (L2.Same.seq e s) (Same.dpa e t)
  | _, _, .tup s t => .tup (Same.seqT e s) (Same.dpa e t)
theorem Same.dpa {K : PySem.W.Frag} {H H' : Hp} (e : Same H H') : ∀ {x : List V} {d : List PyData}, DpAll K H x d → DpAll K H' x d
  | _, _, .nil => .nil
  | _, _, .cons h t => .cons (Same.dp e h) (Same.dpa e t)
end
theorem dp_ints {K : PySem.W.Frag} {H : Hp} : ∀ (ns : List Int), DpAll K H (ns.map V.int) (ns.map PyData.int)
  | [] => .nil
  | n :: r => .cons (.int n) (dp_ints r)
theorem tyT {K : PySem.W.Frag} {H : Hp} {a : Addr} {xs : List V} (h : SqT K H a xs) : TyX K H (.ref a) (.type "tuple") := by
  rcases h with (h | ⟨o, h⟩) | ⟨o, _, _, h, c, _⟩
  · exact .base (.tup h)
  · exact .fTuple h
  · exact .kTuple h c
theorem tyL {K : PySem.W.Frag} {H : Hp} {a : Addr} {xs : List V} (h : SqL K H a xs) : TyX K H (.ref a) (.type "list") := by
  rcases h with (h | ⟨o, h⟩) | ⟨o, _, _, h, c, _⟩
  · exact .base (.lst h)
  · exact .base (.frz h)
  · exact .kList h c
/-! ### what the program tells of data -/
def withinD (lo hi : Int) : PyData → Bool
  | .int i => decide (lo ≤ i) && decide (i ≤ hi)
  | _ => false
def cardsD : PyData → Bool
  | .tuple ds => decide (1 ≤ ds.length) && decide (ds.length ≤ 3) && ds.all (withinD 2 20)
  | _ => false
def stampsD (n : Nat) : PyData → Bool
  | .tuple ds => decide (ds.length = n) && ds.all (withinD 0 1000000000000000000)
  | _ => false
def purseD (n : Nat) : PyData → Bool
  | .tuple [r, s] => withinD 0 1000000000000000000 r && stampsD n s
  | _ => false
theorem all_ints {lo hi : Int} {ns : List Int} (h : ∀ c ∈ ns, lo ≤ c ∧ c ≤ hi) : (ns.map PyData.int).all (withinD lo hi) = true := by
  rw [List.all_map, List.all_eq_true]
  intro c hc
  obtain ⟨h1, h2⟩ := h c hc
  show (decide (lo ≤ c) && decide (c ≤ hi)) = true
  rw [decide_eq_true h1, decide_eq_true h2]
  rfl
theorem cardsD_ok {cs : List Int} (h : Cards cs) : cardsD (.tuple (cs.map PyData.int)) = true := by
  show (decide (1 ≤ (cs.map PyData.int).length) && decide ((cs.map PyData.int).length ≤ 3) && (cs.map PyData.int).all (withinD 2 20)) = true
  rw [List.length_map, all_ints h.2.2, decide_eq_true h.1, decide_eq_true h.2.1]
  rfl
def Stamps (n : Nat) (ss : List Int) : Prop := ss.length = n ∧ ∀ x ∈ ss, (0 : Int) ≤ x ∧ x ≤ 1000000000000000000
theorem stampsD_ok {n : Nat} {ss : List Int} (h : Stamps n ss) : stampsD n (.tuple (ss.map PyData.int)) = true := by
  show (decide ((ss.map PyData.int).length = n) && (ss.map PyData.int).all (withinD 0 1000000000000000000)) = true
  rw [List.length_map, all_ints h.2, decide_eq_true h.1]
  rfl
/-- a purse as it stands -/
def Purse (K : PySem.W.Frag) (H : Hp) (p : Addr) (r : Int) (ss : List Int) : Prop := ∃ sA, SqT K H p [.int r, .ref sA] ∧ SqT K H sA (ss.map V.int)
theorem Purse.dp {K : PySem.W.Frag} {H : Hp} {p : Addr} {r : Int} {ss : List Int} (h : Purse K H p r ss) : Dp K H (.ref p) (.tuple [.int r, .tuple (ss.map PyData.int)]) := by
  obtain ⟨sA, h1, h2⟩ := h
  exact .tup h1 (.cons (.int r) (.cons (.tup h2 (dp_ints ss)) .nil))
theorem purseD_ok {n : Nat} {r : Int} {ss : List Int} (h0 : 0 ≤ r) (h1 : r ≤ 1000000000000000000) (h : Stamps n ss) : purseD n (.tuple [.int r, .tuple (ss.map PyData.int)]) = true := by
  show ((decide (0 ≤ r) && decide (r ≤ 1000000000000000000)) && stampsD n (.tuple (ss.map PyData.int))) = true
  rw [stampsD_ok h, decide_eq_true h0, decide_eq_true h1]
  rfl
theorem Purse.same {K : PySem.W.Frag} {H H' : Hp} {p : Addr} {r : Int} {ss : List Int} (e : Same H H') (h : Purse K H p r ss) : Purse K H' p r ss := by
  obtain ⟨sA, h1, h2⟩ := h
  exact ⟨sA, Same.seqT e h1, Same.seqT e h2⟩
theorem Purse.kp {K : PySem.W.Frag} {H H' : Hp} {p : Addr} {r : Int} {ss : List Int} (e : Kp H H') (h : Purse K H p r ss) : Purse K H' p r ss := by
  obtain ⟨sA, h1, h2⟩ := h
  exact ⟨sA, e.tup h1, e.tup h2⟩
theorem same_fresh {H H' : Hp} {p : Addr} {o : HO} (x : Same H H') (h : H p = none) : Same H (upd H' p o) := fun b u e => by
  rw [upd_ne (ne_of_none e h)]
  exact x b u e
theorem same_new {H H' : Hp} {p : Addr} {o : HO} (x : Same H H') (h : H' p = none) : Same H (upd H' p o) := same_fresh x (x.free h)
theorem take_map {α β : Type} {l : List α} {i : Nat} {z : α} (f : α → β) (h : l[i]? = some z) : (l.take (i + 1)).map f = (l.take i).map f ++ [f z] := by
  rw [List.take_add_one, h, List.map_append]
  rfl
/-- a comprehension over two tuples, one beside the other -/
theorem lc_zipT {K : PySem.W.Frag} {a b : Addr} {xs ys : List V} {g : TG} {tt : TT} {te : TE} {vs : List Nat} {σ : L2.St} {H1 : Hp} {D : Addr} {Qd : Hp → Prop} (hl : xs.length = ys.length) (Pv : Nat → Hp → Prop) (h0 : Pv 0 (upd H1 D (.lst []))) (hq : ∀ i H, Pv i H → SqT K H a xs ∧ SqT K H b ys)
    (hs : ∀ (i : Nat) (x y : V) (T : Addr) (H : Hp), xs[i]? = some x → ys[i]? = some y → Pv i H → H T = none → g (.ref T) (wipe σ vs) (upd H T (.tup [x, y])) fun σ2 H2 => wipe σ2 vs = wipe σ vs ∧ tt σ2 H2 fun b H3 =>
      if b = true then te σ2 H3 fun y H4 => ∃ acc, H4 D = some (.lst acc) ∧ acc.length < sizeLine ∧ Pv (i + 1) (upd H4 D (.lst (acc ++ [y]))) else Pv (i + 1) H3) (hd : ∀ H, Pv xs.length H → Qd H) :
    ∃ W : Nat → Nat → Hp → Prop, (∃ m, W 0 m (upd H1 D (.lst []))) ∧ ∀ i m H, W i m H →
      ((RZ.ItzT K a b).stop i H ∧ Qd H) ∨ ((RZ.ItzT K a b).go i H ∧ ∃ Nx : Hp → Prop, (∀ H', Nx H' → ∃ m', m' < m ∧ W (i + 1) m' H') ∧ ∀ x H', (RZ.ItzT K a b).yld i H x H' → g x (wipe σ vs) H' fun σ2 H2 => wipe σ2 vs = wipe σ vs ∧ tt σ2 H2 fun b H3 =>
        if b = true then te σ2 H3 fun y H4 => ∃ acc, H4 D = some (.lst acc) ∧ acc.length < sizeLine ∧ Nx (upd H4 D (.lst (acc ++ [y]))) else Nx H3) := by
  refine ⟨fun i m H => m = xs.length - i ∧ i ≤ xs.length ∧ Pv i H, ⟨xs.length, rfl, Nat.zero_le _, h0⟩, ?_⟩
  rintro i m H ⟨rfl, hi, p⟩
  obtain ⟨qx, qy⟩ := hq i H p
  by_cases hlt : i < xs.length
  · have g1 : xs[i]? = some xs[i] := List.getElem?_eq_getElem hlt
    have g2 : ys[i]? = some ys[i] := List.getElem?_eq_getElem (by omega)
    refine .inr ⟨⟨_, _, _, _, qx, qy, g1, g2⟩, Pv (i + 1), fun H' p' => ⟨xs.length - (i + 1), by omega, rfl, hlt, p'⟩, fun x H' y => ?_⟩
    obtain ⟨T, x1, x2, rfl, nT, rfl, f1, f2⟩ := y
    exact hs i x1 x2 T H (f1 _ qx) (f2 _ qy) p nT
  · have e : i = xs.length := by omega
    subst e
    exact .inl ⟨⟨_, _, qx, qy, .inl (Nat.le_refl _)⟩, hd H p⟩
end FR
namespace FR
open PySem PySem.Spec PyProof.Rows L2
theorem len2 {α : Type} : ∀ {xs : List α}, xs.length = 2 → ∃ x y, xs = [x, y]
  | [x, y], _ => ⟨x, y, rfl⟩
theorem dp_two {K : PySem.W.Frag} {H : Hp} {x y : V} {ds : List PyData} (h : DpAll K H [x, y] ds) : ∃ d e, ds = [d, e] ∧ Dp K H x d ∧ Dp K H y e := by
  cases h with
  | cons h1 t =>
    cases t with
    | cons h2 u =>
      cases u with
      | nil => exact ⟨_, _, rfl, h1, h2⟩
theorem purse_not2 {n : Nat} : ∀ {ds : List PyData}, ds.length ≠ 2 → purseD n (.tuple ds) = false
  | [], _ => rfl
  | [_], _ => rfl
  | [_, _], h => absurd rfl h
  | _ :: _ :: _ :: _, _ => rfl
end FR
namespace FR
open PySem PySem.Spec PyProof.Rows L2
/-- what is told of a purse -/
def ToldV (cs : List Int) (r : Int) (ss : List Int) : V → Prop
  | .int t => Least cs r ss t
  | .non => Never cs r ss
  | _ => False
def LeftV (cs : List Int) (r : Int) (ss : List Int) (v : V) (H : Hp) : Prop :=
  (v = .non ∧ Never cs r ss) ∨ ∃ (p : Addr) (t : Int), v = .ref p ∧ H p = some (.tup ((lf cs ss t).map V.int)) ∧ Least cs r ss t
end FR
namespace FR
open PySem PySem.Spec PyProof.Rows L2
/-- no fewer are told where no fewer are paid for -/
theorem nf_of {cs ss cs' ss' : List Int} {r r' : Int} {v v' : V} (h : ToldV cs r ss v) (h' : ToldV cs' r' ss' v') (mono : ∀ m, 0 ≤ m → r + fc cs ss m ≤ r' + fc cs' ss' m) : v' = .non ∨ ∃ i j, v' = .int i ∧ v = .int j ∧ j ≤ i := by
  match v', h' with
  | .non, _ => exact .inl rfl
  | .int t', h' =>
    obtain ⟨a0, a1, a2⟩ := h'
    have m1 := mono t' a0
    match v, h with
    | .non, h =>
      have := h t' a0
      omega
    | .int t, h =>
      obtain ⟨b0, b1, b2⟩ := h
      refine .inr ⟨t', t, rfl, rfl, ?_⟩
      by_cases c : t' < t
      · have := b2 t' a0 c
        omega
      · omega
/-- a slice of a tuple, a sum of two: whatever is laid -/
theorem rd_slA {K : PySem.W.Frag} {H : Hp} {Q : VK} {a : Addr} {xs : List V} {lo hi : Option Int} (h : SqT K H a xs) (q : ∀ b H', Same H H' → SqT K H' b (cutV xs lo hi) → Q (.ref b) H') : rSlA K (.ref a) lo hi H Q := by
  refine ⟨a, xs, rfl, h, fun c => ?_, fun c p np => q p _ (same_upd np) (SqT.of upd_same)⟩
  refine q a H (.refl H) ?_
  unfold cutV
  rw [c.1, c.2, List.drop_zero, Nat.sub_zero, List.take_length]
  exact h
theorem rd_catA {K : PySem.W.Frag} {H : Hp} {Q : VK} {a b : Addr} {xs ys : List V} (h1 : SqT K H a xs) (h2 : SqT K H b ys) (hl : xs.length + ys.length ≤ 1000) (q : ∀ p H', Same H H' → SqT K H' p (xs ++ ys) → Q (.ref p) H') : rCatA K (.ref a) (.ref b) H Q := by
  refine ⟨a, b, xs, ys, rfl, rfl, h1, h2, Nat.le_of_lt (small1000 hl), fun e => ?_, fun _ e => ?_, fun _ _ p np => q p _ (same_upd np) (SqT.of upd_same)⟩
  · subst e
    exact q b H (.refl H) h2
  · subst e
    exact q a H (.refl H) (by rw [List.append_nil]; exact h1)
theorem cut_to {ns : List Int} {k : Int} (h0 : 0 ≤ k) : cutV (ns.map V.int) none (some k) = (ns.take k.toNat).map V.int := by
  unfold cutV
  obtain ⟨n, rfl⟩ : ∃ n : Nat, k = (n : Int) := ⟨k.toNat, by omega⟩
  rw [HT.sIx_none, HT.sIx_nat, List.drop_zero, Nat.sub_zero, List.length_map, List.map_take]
  by_cases c : n ≤ ns.length
  · rw [Nat.min_eq_left c]
    rfl
  · rw [Nat.min_eq_right (by omega), ← List.length_map (f := V.int), List.take_length]
    exact (List.take_of_length_le (by rw [List.length_map]; show ns.length ≤ n; omega)).symm
theorem cut_from {ns : List Int} {k : Int} (h0 : 0 ≤ k) : cutV (ns.map V.int) (some k) none = (ns.drop k.toNat).map V.int := by
  unfold cutV
  obtain ⟨n, rfl⟩ : ∃ n : Nat, k = (n : Int) := ⟨k.toNat, by omega⟩
  rw [HT.sIx_none, HT.sIx_nat, List.length_map, List.map_drop]
  by_cases c : n ≤ ns.length
  · rw [Nat.min_eq_left c, List.take_of_length_le (by rw [List.length_drop, List.length_map]; exact Nat.le_refl _)]
    rfl
  · rw [Nat.min_eq_right (by omega), List.drop_eq_nil_of_le (by rw [List.length_map]; exact Nat.le_refl _), List.take_nil]
    exact (List.drop_eq_nil_of_le (by rw [List.length_map]; show ns.length ≤ n; omega)).symm
theorem Kp.same {H H' : Hp} (s : Same H H') : Kp H H' := .of s
theorem get_ref {bs : List Addr} {i : Nat} {x : V} (h : (bs.map V.ref)[i]? = some x) : ∃ b, b ∈ bs ∧ x = .ref b := by
  rw [List.getElem?_map] at h
  cases q : bs[i]? with
  | none =>
    rw [q] at h
    exact nomatch h
  | some b =>
    rw [q] at h
    exact ⟨b, List.mem_of_getElem? q, (Option.some.inj h).symm⟩
end FR
namespace FR
open PySem PySem.Spec PyProof.Rows L2
theorem lay_ints : ∀ ns : List Int, PyData.canLayAll0 (ns.map PyData.int) = true
  | [] => by simp [PyData.canLayAll0]
  | n :: r => by simp [PyData.canLayAll0, PyData.canLay0, lay_ints r]
theorem deep_ints : ∀ ns : List Int, PyData.depthAll (ns.map PyData.int) = 0
  | [] => by simp [PyData.depthAll]
  | n :: r => by simp [PyData.depthAll, PyData.depth, deep_ints r]
theorem shaped_tup (ns : List Int) : SeqAt.shaped (.tuple (ns.map PyData.int)) = true := by
  unfold SeqAt.shaped
  rw [PyData.canLay0, PyData.depth, lay_ints, deep_ints]
  rfl
theorem eqv_tup (ns : List Int) : PyData.eqv (.tuple (ns.map PyData.int)) (.tuple (ns.map PyData.int)) = true := SeqAt.eqv_refl _ (by rw [PyData.canLay0]; exact lay_ints ns)
theorem iteP {c A B : Prop} [Decidable c] (hc : c) (h : A) : if c then A else B := by
  rw [if_pos hc]
  exact h
theorem iteN {c A B : Prop} [Decidable c] (hc : ¬ c) (h : B) : if c then A else B := by
  rw [if_neg hc]
  exact h
theorem nn_int {t : Int} : (!decide (V.int t = V.non)) = true := by
  rw [decide_eq_false (fun z => nomatch z)]
  rfl
theorem none_ir {t : Int} {o : Addr} : V.bl (decide (V.int t = .non)) = V.bl (decide (V.ref o = .non)) := by
  rw [decide_eq_false (fun z => nomatch z), decide_eq_false (fun z => nomatch z)]
theorem told_never {cs ss : List Int} {r : Int} {v : V} (h : ToldV cs r ss v) (n : Never cs r ss) : v = .non := by
  match v, h with
  | .non, _ => rfl
  | .int t, h => exact (least_never h n).elim
theorem told_least {cs ss : List Int} {r t : Int} {v : V} (h : ToldV cs r ss v) (n : Least cs r ss t) : v = .int t := by
  match v, h with
  | .non, h => exact (least_never n h).elim
  | .int u, h => rw [least_unique h n]
end FR
namespace FR
open PySem PySem.Spec PyProof.Rows L2
theorem rd_slFrom {K : PySem.W.Frag} {σ : L2.St} {H : Hp} {Q : VK} {a : Addr} {xs : List V} {lo : Option Int} (h : SqT K H a xs) (q : ∀ b H', Same H H' → SqT K H' b (cutV xs lo none) → Q (.ref b) H') : tNoPart σ H fun u H3 => rSlA K (.ref a) lo u H3 Q := rd_slA h q
end FR
namespace FR
open PySem PySem.Spec PyProof.Rows L2
/-! ### what the top has left -/
def FunAt (K : PySem.W.Frag) (mg : Str → Option Value) (x : Str) (st : Stmt) : Prop := ∃ f fd, Fun K x x st f fd ∧ mg x = some (.ref f)
theorem funAt_mk {K : PySem.W.Frag} {h : Heap} {mg : Str → Option Value} {x : Str} {st : Stmt} {f : Addr} {od an : Option Addr} {sl : Array (Option Value)} {oc kV dc pm cd ct : Value} (X : K.In h) (G : h.Ns mainGlobals mg)
    (a1 : PySem.W.nsIn K mainGlobals x = some (some (.ref f))) (l1 : K.lookup f = some ⟨oc, od, .func (PySem.W.fnOf x x (defArgs st) (defBody st) (defScope st) .none kV dc pm an cd ct), sl⟩) (c1 : PySem.W.codeIn K cd x = true) (k1 : PySem.W.keepIn K (.ref f) = true) : FunAt K mg x st :=
  ⟨f, _, fun_mk (st := st) l1 c1 k1, PySem.W.mg_of X G a1⟩
theorem FunAt.def {P : Program} {w : World} {K : PySem.W.Frag} {mg : Str → Option Value} {base : Heap} {x : Str} {st : Stmt} {k : Nat} {ps : List Str} {sp : Sp} (F : FunAt K mg x st) (ok : ∀ f fd, Fun K x x st f fd → FnOk P w K mg base CX0 k f fd ps sp)
    (h : ∀ (kV doc pm : Value) (an : Option Addr) (cdv ct : Value) (us : List Value), us.length = ps.length → bindArgs (PySem.W.fnOf x x (defArgs st) (defBody st) (defScope st) .none kV doc pm an cdv ct) ⟨us, []⟩ = pure (ps.zip us)) : Def P w K mg base x k ps sp := by
  obtain ⟨f, fd, F, m⟩ := F
  exact ⟨f, fd, ok f fd F, m, F.kp, F.binds h⟩
end FR
namespace FR
open PySem PySem.Spec PyProof.Rows L2
def FunAtX {K : PySem.W.Frag} {h : Heap} (_ : K.In h) (mg : Str → Option Value) (x : Str) (st : Stmt) : Prop := FunAt K mg x st
end FR
namespace FR
open PySem PySem.Spec PyProof.Rows L2
theorem glob_mk {K : PySem.W.Frag} {h : Heap} {mg : Str → Option Value} {x : Str} {n : Int} {v : Value} (X : K.In h) (G : h.Ns mainGlobals mg) (z : PySem.W.nsIn K mainGlobals x = some (some v)) (e : ∃ t, v = .int n t) : ∃ t, mg x = some (.int n t) := by
  obtain ⟨t, rfl⟩ := e
  exact ⟨t, PySem.W.mg_of X G z⟩
end FR
namespace FR
open PySem PySem.Spec PyProof.Rows L2
def EndlessV (cs ss : List Int) (v : V) : Prop := (v = .non ∧ pq (perOf cs) cs < perOf cs) ∨ ∃ t, v = .int t ∧ perOf cs ≤ pq (perOf cs) cs ∧ Want cs ss 0 (perOf cs) t
theorem at_ref {as : List Addr} {k : Int} (h0 : 0 ≤ k) (h : k < (as.length : Int)) : ∃ a, a ∈ as ∧ atI (as.map V.ref) k = some (.ref a) := by
  have hk : k.toNat < as.length := by omega
  refine ⟨as[k.toNat], List.getElem_mem hk, ?_⟩
  refine at_of (j := k.toNat) (by omega) ?_
  rw [List.getElem?_map, List.getElem?_eq_getElem hk]
  rfl
end FR
namespace FR
open PySem PySem.Spec PyProof.Rows L2
/-! ### deeds -/
def DeedV (n : Nat) (v : V) : Prop := v = .str "ride" ∨ ∃ i : Int, v = .int i ∧ 0 ≤ i ∧ i < (n : Int)
def Can (cs : List Int) (x : Int) (zs : List Int) (v : V) : Prop := (v = .str "ride" ∧ 0 < x) ∨ ∃ (i c z : Int), v = .int i ∧ 0 ≤ i ∧ cs[i.toNat]? = some c ∧ zs[i.toNat]? = some z ∧ c ≤ z
def aftX (x : Int) : V → Int
  | .str _ => x - 1
  | _ => x + 1
def aftS (cs zs : List Int) : V → List Int
  | .str _ => zs.map (· + 1)
  | .int i => zs.set i.toNat (zs.getD i.toNat 0 - cs.getD i.toNat 0)
  | _ => zs
def dD : V → PyData
  | .str x => .str x
  | .int i => .int i
  | _ => .none
theorem deeds_dp {K : PySem.W.Frag} {H : Hp} {n : Nat} : ∀ {xs : List V}, (∀ v ∈ xs, DeedV n v) → DpAll K H xs (xs.map dD)
  | [], _ => .nil
  | v :: xs, h => by
    have h1 := deeds_dp (K := K) (H := H) (xs := xs) (fun x hx => h x (List.mem_cons_of_mem _ hx))
    rcases h v (List.mem_cons_self ..) with rfl | ⟨i, rfl, _, _⟩
    · exact .cons (.str _) h1
    · exact .cons (.int i) h1
theorem ride_ok : PyData.canLay0 (.str "ride") = true := by
  rw [PyData.canLay0]
  decide +kernel
theorem deeds_lay {n : Nat} : ∀ {xs : List V}, (∀ v ∈ xs, DeedV n v) → PyData.canLayAll0 (xs.map dD) = true ∧ PyData.depthAll (xs.map dD) = 0
  | [], _ => by simp [PyData.canLayAll0, PyData.depthAll]
  | v :: xs, h => by
    have h1 := deeds_lay (xs := xs) (fun x hx => h x (List.mem_cons_of_mem _ hx))
    rcases h v (List.mem_cons_self ..) with rfl | ⟨i, rfl, _, _⟩
    · simp only [List.map_cons, dD, PyData.canLayAll0, PyData.depthAll, PyData.depth, ride_ok, h1.1, h1.2]
      exact ⟨rfl, rfl⟩
    · simp only [List.map_cons, dD, PyData.canLayAll0, PyData.canLay0, PyData.depthAll, PyData.depth, h1.1, h1.2]
      exact ⟨rfl, rfl⟩
theorem deeds_shaped {n : Nat} {xs : List V} (h : ∀ v ∈ xs, DeedV n v) : SeqAt.shaped (.list (xs.map dD)) = true := by
  unfold SeqAt.shaped
  rw [PyData.canLay0, PyData.depth, (deeds_lay h).1, (deeds_lay h).2]
  rfl
theorem shaped_nil : SeqAt.shaped (.list []) = true := by
  unfold SeqAt.shaped
  rw [PyData.canLay0, PyData.depth, PyData.canLayAll0, PyData.depthAll]
  rfl
theorem deeds_none {xs : List V} (h : xs = []) : (!PyData.eqv (.list (xs.map dD)) (.list [])) = false := by
  subst h
  rw [PyData.eqv]
  rfl
theorem deeds_some {xs : List V} (h : xs ≠ []) : (!PyData.eqv (.list (xs.map dD)) (.list [])) = true := by
  match xs, h with
  | _ :: _, _ =>
    rw [PyData.eqv]
    rfl
end FR
namespace FR
open PySem PySem.Spec PyProof.Rows L2
theorem ndeeds {n : Nat} {xs : List V} (h : ∀ v ∈ xs, DeedV n v) : ¬ BagSh (.lst xs) := by
  rintro ⟨d, c, e⟩
  have e' : xs = [.ref d, .int c] := HO.lst.inj e
  rcases h (.ref d) (by rw [e']; exact List.mem_cons_self ..) with g | ⟨i, g, _⟩ <;> exact nomatch g
theorem at_any {xs : List V} {k : Int} (h0 : 0 ≤ k) (h : k < (xs.length : Int)) : ∃ v, v ∈ xs ∧ atI xs k = some v := by
  have hk : k.toNat < xs.length := by omega
  exact ⟨xs[k.toNat], List.getElem_mem hk, at_of (j := k.toNat) (by omega) (List.getElem?_eq_getElem hk)⟩
/-- all deeds, in their order -/
def deedsL (n : Int) : List V := [.str "ride"] ++ rgV 0 n
theorem deedsL_len (n : Nat) : (deedsL n).length = n + 1 := by
  unfold deedsL
  rw [List.length_append, rgV_length, List.length_singleton]
  omega
theorem deedsL_mem {n : Nat} {v : V} : v ∈ deedsL n ↔ DeedV n v := by
  unfold deedsL DeedV rgV
  rw [List.mem_append, List.mem_singleton, List.mem_map]
  constructor
  · rintro (h | ⟨i, h1, h2⟩)
    · exact .inl h
    · rw [List.mem_range] at h1
      exact .inr ⟨0 + (i : Int), h2.symm, by omega, by omega⟩
  · rintro (h | ⟨i, rfl, h1, h2⟩)
    · exact .inl h
    · exact .inr ⟨i.toNat, List.mem_range.mpr (by omega), congrArg V.int (by omega)⟩
theorem nn_ref {p : Addr} : (!decide (V.ref p = V.non)) = true := by
  rw [decide_eq_false (fun z => nomatch z)]
  rfl
def OnV (K : PySem.W.Frag) (cs : List Int) (r : Int) (ss : List Int) (most : Int) (v : V) (H : Hp) : Prop :=
  (v = .non ∧ ∀ t, Least cs r ss t → most < t) ∨ ∃ (p s' : Addr) (t : Int), v = .ref p ∧ H p = some (.tup [.int t, .ref s']) ∧ SqT K H s' ((lf cs ss t).map V.int) ∧ Least cs r ss t ∧ t ≤ most
end FR
namespace FR
open PySem PySem.Spec PyProof.Rows L2
theorem shaped_non : SeqAt.shaped .none = true := by
  unfold SeqAt.shaped
  rw [PyData.canLay0, PyData.depth]
  rfl
theorem eqv_non : PyData.eqv .none .none = true := by rw [PyData.eqv]
theorem due_lay (t : Int) (ns : List Int) : PyData.canLay0 (.tuple [.int t, .tuple (ns.map PyData.int)]) = true := by
  rw [PyData.canLay0, PyData.canLayAll0, PyData.canLayAll0, PyData.canLayAll0, PyData.canLay0, PyData.canLay0, lay_ints]
  rfl
theorem due_shaped (t : Int) (ns : List Int) : SeqAt.shaped (.tuple [.int t, .tuple (ns.map PyData.int)]) = true := by
  unfold SeqAt.shaped
  rw [due_lay, PyData.depth, PyData.depthAll, PyData.depthAll, PyData.depthAll, PyData.depth, PyData.depth, deep_ints]
  rfl
theorem due_eqv (t : Int) (ns : List Int) : PyData.eqv (.tuple [.int t, .tuple (ns.map PyData.int)]) (.tuple [.int t, .tuple (ns.map PyData.int)]) = true := SeqAt.eqv_refl _ (due_lay t ns)
theorem SqT.same2 {K : PySem.W.Frag} {H H' : Hp} {a : Addr} {xs : List V} (h : SqT K H a xs) (e : Same H H') : SqT K H' a xs := Same.seqT e h
end FR
namespace FR
open PySem PySem.Spec PyProof.Rows L2
/-! ### enumerate of a tuple -/
set_option maxHeartbeats 1000000 in
theorem meets_enum1 {v : Value} {o : Obj} {H : Heap → Prop} (B : Begins v o H) :
    Meets (Builtin.«enumerate.__new__» ⟨[.type "enumerate", v], []⟩) (fun _ R s => H s.heap ∧
      R (.ok (.ret (.ref (s.heap.push o).objs.size))) { s with heap := (s.heap.push o).push { cls := .type "enumerate", data := .fields #[.none, .bool false, .ref s.heap.objs.size, rawInt 0, .none, .none] } }) :=
  .of_wp fun prog w A R s h => by
    obtain ⟨hp, g, d, tk, os⟩ := s
    obtain ⟨h1, h⟩ := h
    have hsub := sub_enumerate
    have q1 : ∀ {A' : Around} {E : Value → Shared → Prop} {Q : Value → Shared → Prop}, Q (.ref hp.objs.size) ⟨hp.push o, g, d, tk, os⟩ → wpAny (model prog w) A' (pyIter v) Q E ⟨hp, g, d, tk, os⟩ :=
      fun q => B.iter prog w _ _ ⟨hp, g, d, tk, os⟩ _ h1 q
    wp_walk using q1
    refine wpAny_stack_any fun st => wpAny_pure ?_
    split
    · rename_i c _ _ _ _ _
      cases (c == Value.type "enumerate")
      · wp_walk using q1
        exact ⟨_, rfl, h⟩
      · wp_walk using q1
        exact ⟨_, rfl, h⟩
    · wp_walk using q1
      exact ⟨_, rfl, h⟩
theorem call_enum1 {prog : Program} {w : World} {A : Around} {E : Value → Shared → Prop} {s : Shared} {v : Value} {o : Obj} {H : Heap → Prop} {Q : Value → Shared → Prop} (B : Begins v o H) (h1 : H s.heap)
    (h : ∀ h', IsEnum h' (s.heap.objs.size + 1) s.heap.objs.size 0 .none → h'.get? s.heap.objs.size = some o → h'.objs.size = s.heap.objs.size + 2 →
      (∀ b o, s.heap.get? b = some o → h'.get? b = some o) → Q (.ref (s.heap.objs.size + 1)) { s with heap := h' }) :
    wpAny (model prog w) A (call (.type "enumerate") [v]) Q E s := by
  refine callType_new F.called_enumerate (by decide) (F.typeCall_enumerate_1 _) (F.newCall_enumerate_1 _) (fun obj => F.args_object_init_2 obj _) F.entry_enumerate_new
    (meets_enum1 B) ⟨h1, ?_⟩
  have hz : (s.heap.push o).objs.size = s.heap.objs.size + 1 := Heap.size_push ..
  show _ ∧ _
  rw [hz]
  have he : IsEnum ((s.heap.push o).push { cls := .type "enumerate", data := .fields #[.none, .bool false, .ref s.heap.objs.size, rawInt 0, .none, .none] }) (s.heap.objs.size + 1) s.heap.objs.size 0 .none := by
    have z := Heap.get?_push_size (s.heap.push o) (o := { cls := .type "enumerate", data := .fields #[.none, .bool false, .ref s.heap.objs.size, rawInt 0, .none, .none] }) rfl
    rw [hz] at z
    exact z
  exact ⟨⟨_, he, rfl⟩, h _ he (Heap.get?_push_of_some _ (Heap.get?_push_size _ B.free)) (by rw [Heap.size_push, hz]) fun b o x => Heap.get?_push_of_some _ (Heap.get?_push_of_some _ x)⟩
/-- the tuple at a, each item in a new pair -/
def IteT (K : PySem.W.Frag) (a : Addr) : It :=
  ⟨fun i H => ∃ (xs : List V) (x : V), SqT K H a xs ∧ xs[i]? = some x, fun i H v H' => ∃ T x, v = .ref T ∧ H T = none ∧ H' = upd H T (.tup [.int (i : Nat), x]) ∧ ∀ xs, SqT K H a xs → xs[i]? = some x, fun i H => ∃ xs : List V, SqT K H a xs ∧ xs.length = i⟩
theorem turn_enumT {P : Program} {w : World} {K : PySem.W.Frag} {elts : List Expr} {kk : Nat} {tpos : Pos} (a e it : Addr) :
    Turn P w K (.Tuple elts kk tpos) (IteT K a) [e, it] e (fun i h => (∃ old, IsEnum h e it ((i : Nat) : Int) old) ∧ h.IsTupleIter it a i ∧ e ≠ it) where
  mem := by simp
  obj := fun i h st b hb => by
    obtain ⟨⟨old, he⟩, ⟨o, ho, hc, hd⟩, _⟩ := st
    have e' : b = e ∨ b = it := by simpa using hb
    rcases e' with z | z
    · rw [z]
      exact ⟨_, he, fun v q => nomatch q⟩
    · rw [z]
      exact ⟨o, ho, fun v q => by rw [hd] at q; cases q⟩
  keep := fun i h h' st k => let ⟨⟨old, he⟩, hi, hne⟩ := st; ⟨⟨old, k e (by simp) _ he⟩, hi.at fun o q => k it (by simp) o q, hne⟩
  item := by
    intro X hP hw hK hc i pins s σ H E I hf st hg
    subst hP hw hK
    obtain ⟨⟨old, he⟩, hit, hne⟩ := st
    obtain ⟨xs, x, hq, hx⟩ := hg
    obtain ⟨its, rv, p, hz⟩ := I.tuple hq
    obtain ⟨u, hu, ru⟩ := rv.get hx
    have hel : e < s.heap.objs.size := Heap.lt_size he
    have hil : it < s.heap.objs.size := by obtain ⟨_, q, _⟩ := hit; exact Heap.lt_size q
    have nae : e ≠ a := fun z => by
      obtain ⟨o, ho, hcl, _⟩ := id p
      rw [← z, he] at ho
      cases ho
      exact absurd hcl (by simp)
    have nai : a ≠ it := fun z => by
      obtain ⟨o, ho, hcl, _⟩ := id p
      obtain ⟨o2, ho2, hcl2, _⟩ := id hit
      rw [z, ho2] at ho
      cases ho
      rw [hcl] at hcl2
      exact absurd hcl2 (by simp)
    have hh : X.A.in1.handled = none := I.ok.hd hc
    have hlt : i < its.toArray.size := (Array.getElem?_eq_some_iff.mp (show its.toArray[i]? = some u by simpa using hu)).1
    refine wpAny_pyNext_enum_itemD (Draws.tuple hh it a nai its.toArray) he ⟨hit, p⟩ hlt hne (by simp [hne, nae]) fun u' h' tk hu' ho hit' hT hsz hk => ?_
    have eu : u' = u := by
      have e1 : its.toArray[i]? = some u := by simpa using hu
      rw [e1] at hu'
      exact (Option.some.inj hu').symm
    subst eu
    refine ⟨_, rfl, wpAny_letOwnedTupleGo_enum (s := { s with heap := h', toks := tk + 1 }) ho fun h'' he' sb => ?_⟩
    have hT2 : h''.get? s.heap.objs.size = some { cls := .type "tuple", data := .seq #[.int i tk, u'] } := (sb.2 _ (Nat.ne_of_gt hel)).trans hT
    have new : ObjOk X.prog X.w (upd H s.heap.objs.size (.tup [.int (i : Nat), x])) h'' s.heap.objs.size (.tup [.int (i : Nat), x]) :=
      ⟨by show 2 ≤ sizeLine; decide, [.int i tk, u'], .cons ⟨_, rfl⟩ (.cons ru .nil), ⟨_, hT2, rfl, _, rfl⟩⟩
    have I1 : Inv X pins σ (upd H s.heap.objs.size (.tup [.int (i : Nat), x])) { s with heap := h'', toks := tk + 1 } :=
      I.turnedNew (t' := tk + 1) (ch := [e, it]) (fun b ob hb q => (sb.2 b (fun z => hb (by simp [z]))).trans (hk b ob (fun z => hb (by simp [z])) (fun z => hb (by simp [z])) q)) hf (Nat.le_refl _) new
    refine ⟨.ref s.heap.objs.size, _, I1, rfl, ⟨_, x, rfl, I.hok.fresh (Nat.le_refl _), rfl, fun ys hy => by rw [I.tuple_inj hy hq]; exact hx⟩, ⟨⟨u', ?_⟩, hit'.1.at fun o q => (sb.2 it (Ne.symm hne)).trans q, hne⟩, fun b hb => ?_⟩
    · have e1 : ((i + 1 : Nat) : Int) = (i : Int) + 1 := by omega
      rw [e1]
      exact he'
    · have hb' : b < s.heap.objs.size := by
        have e' : b = e ∨ b = it := by simpa using hb
        rcases e' with z | z
        · rw [z]
          exact hel
        · rw [z]
          exact hil
      rw [upd_ne (Nat.ne_of_lt hb')]
      exact (hf b hb).1
  done := by
    intro X hP hw hK hc i pins s σ H E I hf st hg
    subst hP hw hK
    obtain ⟨⟨old, he⟩, hit, hne⟩ := st
    obtain ⟨xs, hq, hx⟩ := hg
    obtain ⟨its, rv, p, hz⟩ := I.tuple hq
    obtain ⟨f0, f1, f2, f3, f4, f5⟩ := hf it (by simp)
    have hl := rv.length
    have nai : a ≠ it := fun z => by
      obtain ⟨o, ho, hcl, _⟩ := id p
      obtain ⟨o2, ho2, hcl2, _⟩ := id hit
      rw [z, ho2] at ho
      cases ho
      rw [hcl] at hcl2
      exact absurd hcl2 (by simp)
    have hh : X.A.in1.handled = none := I.ok.hd hc
    have hn : i = its.toArray.size := by simp; omega
    exact wpAny_pyNext_enum_endD (Draws.tuple hh it a nai its.toArray) he ⟨hn ▸ hit, p⟩ fun h' eb => ⟨rfl, I.turned (t' := s.toks) (fun b o hb q => eb b o hb q) f0 f1 f3 f4 f5⟩
  self := fun A i s Q E st h => let ⟨⟨_, he⟩, _⟩ := st; wpAny_pyIter_enum he h
def iEnumT (K : PySem.W.Frag) (ta : TA) : TI := fun σ H R => ta σ H fun vs H1 => ∃ a xs, vs = [.ref a] ∧ SqT K H1 a xs ∧ R (IteT K a) H1
theorem pi_enumT {X : Cx} {e : Expr} {ta : TA} {p pos tpos : Pos} {elts : List Expr} {kk : Nat} (hg : Gl X "enumerate") (hm : X.mg "enumerate" = none) (ha : PA X [e] ta) (hs : starEach [e] X.env = [(false, eval e X.env)] := by rfl) :
    PI X (.Tuple elts kk tpos) (.Call (.Name "enumerate" p) [e] [] pos) (iEnumT X.K ta) := by
  refine ⟨fun pins s σ H R I h => ?_⟩
  refine Call_ (ld_blt I hg hm boot_enumerate (PyProof.Rows.callWith_type1 (thn (ha.run pos pins s σ H _ I h) fun us s1 ⟨vs, H1, I1, r1, q1⟩ => ?_) hs rfl))
  obtain ⟨a, xs, ex, hq, q⟩ := q1
  subst ex
  cases r1 with
  | cons r rr =>
    cases rr
    cases r
    obtain ⟨its, rv, p', hz⟩ := I1.tuple hq
    refine call_enum1 (begins_tuple a its.toArray) p' fun h' he hit hsz hk => wpAny_pyIter_enum he ?_
    have I2 : Inv X pins σ H1 { s1 with heap := h' } := I1.kept (t' := s1.toks) hk
    refine ⟨s1.heap.objs.size + 1, [s1.heap.objs.size + 1, s1.heap.objs.size], _, _, H1, rfl, I2, turn_enumT a (s1.heap.objs.size + 1) s1.heap.objs.size, ⟨⟨.none, he⟩, ⟨_, hit, rfl, rfl⟩, Nat.succ_ne_self _⟩, fun b hb => ?_, q⟩
    have e' : b = s1.heap.objs.size + 1 ∨ b = s1.heap.objs.size := by simpa using hb
    have hle : s1.heap.objs.size ≤ b := by
      rcases e' with z | z
      · rw [z]
        exact Nat.le_add_right _ _
      · rw [z]
        exact Nat.le_refl _
    exact I1.fpOk hle (I1.hok.fresh hle)
theorem for_enumT {K : PySem.W.Frag} {a : Addr} {xs : List V} {g : TG} {tb : TS} {D : Ends} {σ : L2.St} {H : Hp} (Pv : Nat → L2.St → Hp → Prop) (h0 : Pv 0 σ H) (hq : ∀ i σ H, Pv i σ H → SqT K H a xs)
    (hs : ∀ (i : Nat) (x : V) (T : Addr) (σ : L2.St) (H : Hp), xs[i]? = some x → Pv i σ H → H T = none → g (.ref T) σ (upd H T (.tup [.int (i : Nat), x])) fun σ2 H2 => tb { D with nx := Pv (i + 1), ct := Pv (i + 1), bk := D.nx } σ2 H2) (hd : ∀ σ H, Pv xs.length σ H → D.nx σ H) :
    ∃ W : Nat → Nat → L2.St → Hp → Prop, (∃ m, W 0 m σ H) ∧ ∀ i m σ H, W i m σ H →
      ((IteT K a).stop i H ∧ D.nx σ H) ∨ ((IteT K a).go i H ∧ ∃ N : L2.St → Hp → Prop, (∀ σ' H', N σ' H' → ∃ m', m' < m ∧ W (i + 1) m' σ' H') ∧ ∀ v H', (IteT K a).yld i H v H' → g v σ H' fun σ2 H2 => tb { D with nx := N, ct := N, bk := D.nx } σ2 H2) := by
  refine ⟨fun i m σ H => m = xs.length - i ∧ i ≤ xs.length ∧ Pv i σ H, ⟨xs.length, rfl, Nat.zero_le _, h0⟩, ?_⟩
  rintro i m σ H ⟨rfl, hi, p⟩
  have qx := hq i σ H p
  by_cases hlt : i < xs.length
  · have hx : xs[i]? = some xs[i] := List.getElem?_eq_getElem hlt
    refine .inr ⟨⟨xs, _, qx, hx⟩, Pv (i + 1), fun σ' H' p' => ⟨xs.length - (i + 1), by omega, rfl, hlt, p'⟩, fun v H' y => ?_⟩
    obtain ⟨T, x', rfl, hT, rfl, f1⟩ := y
    exact hs i x' T σ H (f1 xs qx) p hT
  · have e : i = xs.length := by omega
    subst e
    exact .inl ⟨⟨xs, qx, rfl⟩, hd σ H p⟩
end FR
namespace FR
open PySem PySem.Spec PyProof.Rows L2
theorem call_repr_b {X : Cx} : CallR X (.builtin "repr") (fun xs H Q => ∃ b : Bool, xs = [.bl b] ∧ Q (.str (if b then "True" else "False")) H) := by
  intro pins s σ H xs us Q I r h
  obtain ⟨b, rfl, q⟩ := h
  cases r with
  | cons rx rr =>
    cases rr
    cases rx
    exact PySem.P.repr_of_bool ⟨.str _, H, I.tok _, ⟨_, rfl⟩, q⟩
/-- the numbers of a range -/
def rgI (a b : Int) : List Int := (List.range (b - a).toNat).map fun i => a + (i : Nat)
theorem rgI_map (a b : Int) : rgV a b = (rgI a b).map V.int := by
  unfold rgV rgI
  rw [List.map_map]
  rfl
theorem rgI_mem {a b x : Int} (h : x ∈ rgI a b) : a ≤ x ∧ x < b := by
  unfold rgI at h
  obtain ⟨i, h1, h2⟩ := List.mem_map.mp h
  rw [List.mem_range] at h1
  omega
theorem rgI_len (a b : Int) : (rgI a b).length = (b - a).toNat := by
  unfold rgI
  rw [List.length_map, List.length_range]
end FR
namespace FR
open PySem PySem.Spec PyProof.Rows L2
theorem shaped_ints (ns : List Int) : SeqAt.shaped (.list (ns.map PyData.int)) = true := by
  unfold SeqAt.shaped
  rw [PyData.canLay0, PyData.depth, lay_ints, deep_ints]
  rfl
theorem ints_ne {ns : List Int} (h : ns ≠ []) : (!PyData.eqv (.list (ns.map PyData.int)) (.list [])) = true := by
  match ns, h with
  | _ :: _, _ =>
    rw [PyData.eqv]
    rfl
theorem ints_eq {ns : List Int} (h : ns = []) : (!PyData.eqv (.list (ns.map PyData.int)) (.list [])) = false := by
  subst h
  rw [PyData.eqv]
  rfl
end FR
namespace FR
open PySem PySem.Spec PyProof.Rows L2
/-! ### rules with the written part named, for what stands inside a comprehension -/
theorem pi_tupK (K : PySem.W.Frag) {X : Cx} {tg l : Expr} {tl : TE} (hl : PE X l tl) (h : X.K = K := by rfl) : PI X tg l (iTup K tl) := h ▸ pi_tup hl
theorem pi_listK (K : PySem.W.Frag) {X : Cx} {tg l : Expr} {tl : TE} (hl : PE X l tl) (h : X.K = K := by rfl) : PI X tg l (iList K tl) := h ▸ pi_list hl
theorem cr_sumK (K : PySem.W.Frag) {X : Cx} (hc : X.calm = true) (h : X.K = K := by rfl) : CallR X (.builtin "sum") (rSum K) := h ▸ cr_sum hc
theorem cr_allK (K : PySem.W.Frag) {X : Cx} (hc : X.calm = true) (h : X.K = K := by rfl) : CallR X (.builtin "all") (rAll K) := h ▸ cr_all hc
theorem op_eqDK (K : PySem.W.Frag) {X : Cx} (hu : X.A.units + 64 < cLine) (h : X.K = K := by rfl) : OpR X (compareOp .Eq) (rEqD K) := h ▸ op_eqD hu
theorem op_neDK (K : PySem.W.Frag) {X : Cx} (hu : X.A.units + 64 < cLine) (h : X.K = K := by rfl) : OpR X (compareOp .NotEq) (rNeD K) := h ▸ op_neD hu
end FR
namespace FR
open PySem PySem.Spec PyProof.Rows L2
/-- two lists of numbers put together: a new one -/
theorem rd_catL {H : Hp} {Q : VK} {l b : Addr} (ns ms : List Int) (h1 : H l = some (.lst (ns.map V.int))) (h2 : H b = some (.lst (ms.map V.int))) (hl : ns.length + ms.length ≤ 999) (q : ∀ p H', Same H H' → H p = none → H' p = some (.lst ((ns ++ ms).map V.int)) → Q (.ref p) H') : rCat (.ref l) (.ref b) H Q := by
  refine ⟨l, b, _, _, rfl, rfl, h1, h2, ?_, fun p np => ?_⟩
  · rw [List.length_map, List.length_map]
    exact Nat.le_of_lt (small1000 (by omega))
  · rw [← List.map_append]
    exact q p _ (same_upd np) np upd_same
end FR
namespace FR
open L2
/-- one way on from several ends -/
theorem via {G P : Prop} (main : G → P) (rest : G) : P := main rest
theorem viaH {H0 : Hp} {G : Hp → Prop} {P : Prop} (main : (∀ H', Same H0 H' → G H') → P) (rest : ∀ H', Same H0 H' → G H') : P := main rest
end FR
namespace FR
open PySem PySem.Spec PyProof.Rows L2
theorem pe_def0 {X : Cx} {k j : Nat} {sp : Sp} {x : Str} {p pos : Pos} (D : Def X.prog X.w X.K X.mg X.base x k [] sp) (hr : Room j X.A) (hg : Gl X x := by rfl) (hl : k ≤ j := by decide) (hdb : (x == ("__debug__" : Str)) = false := by decide) :
    PE X (.Call (.Name x p) [] [] pos) (tCall sp [] E0 tNil) := by
  obtain ⟨f, fd, F, m, kp, b⟩ := D.ex
  exact pe_call0 F (hr.mono hl) hg m kp b .nil pass0 hdb
end FR
namespace FR
open PySem PySem.Spec PyProof.Rows L2
def rGetQ (K : PySem.W.Frag) : V → V → Hp → VK → Prop := fun o i H Q => ∃ p xs k v, o = .ref p ∧ i = .int k ∧ SqL K H p xs ∧ 0 ≤ k ∧ k < 2 ^ 63 ∧ xs[k.toNat]? = some v ∧ Q v H
theorem get_lst {X : Cx} : PGet X (rGetQ X.K) := by
  intro pins s σ H o i ov iv Q I ro ri h
  obtain ⟨p, xs, k, v, rfl, rfl, sq, k0, k1, at_, q⟩ := h
  cases ro
  obtain ⟨tk, rfl⟩ := ri
  obtain ⟨its, rv, isl, _⟩ := I.list sq
  obtain ⟨u, atu, ru⟩ := rv.get at_
  exact wpAny_getItem_list isl.isList k0 k1 (by simpa using atu) ⟨v, H, I, ru, q⟩
/-! ### defs that raise -/
end FR
namespace FR
open PySem PySem.Spec PyProof.Rows L2
/-! ### zip of a list and a tuple, one beside the other -/
def SqB (b : Bool) (K : PySem.W.Frag) (H : Hp) (a : Addr) (xs : List V) : Prop := match b with | true => SqL K H a xs | false => SqT K H a xs
def IsB (b : Bool) (h : Heap) (a : Addr) (its : Array Value) : Prop := match b with | true => h.IsList a its | false => h.IsTuple a its
def ItB (b : Bool) (h : Heap) (it a : Addr) (i : Nat) : Prop := match b with | true => h.IsListIter it a i | false => h.IsTupleIter it a i
def obB (b : Bool) (a : Addr) : Obj := { cls := .type (match b with | true => "list_iterator" | false => "tuple_iterator"), data := .fields #[.ref a, .int 0 0] }
theorem drawsB {prog : Program} {w : World} {A : Around} (b : Bool) (hh : A.handled = none) (it l : Addr) (hne : l ≠ it) (items : Array Value) :
    Draws prog w A it [it, l] items.size (fun i v => items[i]? = some v) (fun i h => ItB b h it l i ∧ IsB b h l items) := by
  cases b
  · exact Draws.tuple hh it l hne items
  · exact Draws.list hh it l hne items
theorem beginsB (b : Bool) (a : Addr) (items : Array Value) : Begins (.ref a) (obB b a) fun h => IsB b h a items := by
  cases b
  · exact begins_tuple a items
  · exact begins_list a items
theorem ItB.new {b : Bool} {h : Heap} {it a : Addr} (e : h.get? it = some (obB b a)) : ItB b h it a 0 := by
  cases b
  · exact ⟨_, e, rfl, rfl⟩
  · exact ⟨_, e, rfl, rfl⟩
theorem ItB.at {b : Bool} {h h' : Heap} {it a : Addr} {i : Nat} (x : ItB b h it a i) (k : ∀ o, h.get? it = some o → h'.get? it = some o) : ItB b h' it a i := by
  cases b
  · exact Heap.IsTupleIter.at x k
  · exact Heap.IsListIter.at x k
theorem ItB.ex {b : Bool} {h : Heap} {it a : Addr} {i : Nat} (x : ItB b h it a i) : ∃ o, h.get? it = some o ∧ ∀ v, o.data ≠ .cell v := by
  cases b
  · obtain ⟨o, e, _, d⟩ := x
    exact ⟨o, e, fun v q => by rw [d] at q; cases q⟩
  · obtain ⟨o, e, _, d⟩ := x
    exact ⟨o, e, fun v q => by rw [d] at q; cases q⟩
theorem invB {b : Bool} {X : Cx} {pins : List (Addr × Obj)} {σ : L2.St} {H : Hp} {s : Shared} {a : Addr} {xs : List V} (I : Inv X pins σ H s) (h : SqB b X.K H a xs) : ∃ its : List Value, Vals xs its ∧ IsB b s.heap a its.toArray ∧ a < s.heap.objs.size := by
  cases b
  · obtain ⟨its, rv, p, _⟩ := I.tuple h
    obtain ⟨o, ho, _⟩ := id p
    exact ⟨its, rv, p, Heap.lt_size ho⟩
  · obtain ⟨its, rv, p, _⟩ := I.list h
    exact ⟨its, rv, p.isList, p.lt⟩
theorem injB {b : Bool} {X : Cx} {pins : List (Addr × Obj)} {σ : L2.St} {H : Hp} {s : Shared} {a : Addr} {xs ys : List V} (I : Inv X pins σ H s) (h : SqB b X.K H a xs) (h' : SqB b X.K H a ys) : xs = ys := by
  cases b
  · exact I.tuple_inj h h'
  · exact I.list_inj h h'
def ItzB (p q : Bool) (K : PySem.W.Frag) (a b : Addr) : It :=
  ⟨fun i H => ∃ (xs ys : List V) (x y : V), SqB p K H a xs ∧ SqB q K H b ys ∧ xs[i]? = some x ∧ ys[i]? = some y,
    fun i H v H' => ∃ T x y, v = .ref T ∧ H T = none ∧ H' = upd H T (.tup [x, y]) ∧ (∀ xs, SqB p K H a xs → xs[i]? = some x) ∧ ∀ ys, SqB q K H b ys → ys[i]? = some y,
    fun i H => ∃ xs ys : List V, SqB p K H a xs ∧ SqB q K H b ys ∧ xs.length = i ∧ ys.length = i⟩
theorem sepB {z TI TO i1 i2 a b : Addr} (D : ZipApart z TI TO i1 i2 a b) : ZipSep2 z TI TO i1 i2 [i1, a] [i2, b] :=
  { TIz := D.TIz, TOz := D.TOz, TITO := D.TITO, TIi1 := D.TIi1, mem1 := by simp, zf1 := by simp [Ne.symm D.i1z, Ne.symm D.l1z], Tf1 := by simp [D.TOi1, Ne.symm D.l1TO],
    TIi2 := D.TIi2, mem2 := by simp, zf2 := by simp [Ne.symm D.i2z, Ne.symm D.l2z], Tf2 := by simp [D.TOi2, Ne.symm D.l2TO],
    sep1_2 := by simp [D.i12, Ne.symm D.l2i1], sep2_1 := by simp [Ne.symm D.i12, Ne.symm D.l1i2] }
theorem turn_zipB {P : Program} {w : World} {K : PySem.W.Frag} {elts : List Expr} {kk : Nat} {tpos : Pos} {p q : Bool} {a b z TI TO i1 i2 : Addr} (D : ZipApart z TI TO i1 i2 a b) :
    Turn P w K (.Tuple elts kk tpos) (ItzB p q K a b) [z, TI, TO, i1, i2] z (fun i h => IsZip h z TI TO .none ∧ IsTupOf2 h TI (.ref i1) (.ref i2) ∧ (∃ x y, IsTupOf2 h TO x y) ∧ ItB p h i1 a i ∧ ItB q h i2 b i) where
  mem := by simp
  obj := fun i h st c hc => by
    obtain ⟨hz, hTI, ⟨x, y, hTO⟩, h1, h2⟩ := st
    have e' : c = z ∨ c = TI ∨ c = TO ∨ c = i1 ∨ c = i2 := by simpa using hc
    rcases e' with q | q | q | q | q
    · rw [q]; exact ⟨_, hz, fun v q => nomatch q⟩
    · rw [q]; exact ⟨_, hTI, fun v q => nomatch q⟩
    · rw [q]; exact ⟨_, hTO, fun v q => nomatch q⟩
    · rw [q]; exact h1.ex
    · rw [q]; exact h2.ex
  keep := fun i h h' st k => by
    obtain ⟨hz, hTI, ⟨x, y, hTO⟩, h1, h2⟩ := st
    exact ⟨k z (by simp) _ hz, k TI (by simp) _ hTI, ⟨x, y, k TO (by simp) _ hTO⟩, h1.at fun o q => k i1 (by simp) o q, h2.at fun o q => k i2 (by simp) o q⟩
  item := by
    intro X hP hw hK hc i pins s σ H E I hf st hg
    subst hP hw hK
    obtain ⟨hz, hTI, ⟨x0, y0, hTO⟩, h1, h2⟩ := st
    obtain ⟨xs, ys, x, y, hqx, hqy, hx, hy⟩ := hg
    obtain ⟨its, rv, pp, _⟩ := invB I hqx
    obtain ⟨its2, rv2, pp2, _⟩ := invB I hqy
    obtain ⟨u, hu, ru⟩ := rv.get hx
    obtain ⟨u2, hu2, ru2⟩ := rv2.get hy
    have hu' : its.toArray[i]? = some u := by simpa using hu
    have hu2' : its2.toArray[i]? = some u2 := by simpa using hu2
    have hzl : z < s.heap.objs.size := Heap.lt_size hz
    have hh : X.A.in1.handled = none := I.ok.hd hc
    refine wpAny_pyNext_zipD2_item (sepB D) (drawsB p hh i1 a D.l1i1 its.toArray) (drawsB q hh i2 b D.l2i2 its2.toArray) hz hTI hTO ⟨h1, pp⟩ ⟨h2, pp2⟩ (Array.getElem?_eq_some_iff.mp hu').1 (Array.getElem?_eq_some_iff.mp hu2').1 fun v v2 h' tk hv hv2 z' TO' h1' h2' hT hsz hk => ?_
    have ev : v = u := by
      rw [hu'] at hv
      exact (Option.some.inj hv).symm
    have ev2 : v2 = u2 := by
      rw [hu2'] at hv2
      exact (Option.some.inj hv2).symm
    subst ev ev2
    refine ⟨_, rfl, wpAny_letOwnedTupleGo_zip (s := { s with heap := h', toks := tk }) z' fun h'' z'' sb => ?_⟩
    have hT2 : h''.get? s.heap.objs.size = some { cls := .type "tuple", data := .seq #[v, v2] } := (sb.2 _ (Nat.ne_of_gt hzl)).trans hT
    have new : ObjOk X.prog X.w (upd H s.heap.objs.size (.tup [x, y])) h'' s.heap.objs.size (.tup [x, y]) :=
      ⟨by show 2 ≤ sizeLine; decide, [v, v2], .cons ru (.cons ru2 .nil), ⟨_, hT2, rfl, _, rfl⟩⟩
    have I1 : Inv X pins σ (upd H s.heap.objs.size (.tup [x, y])) { s with heap := h'', toks := tk } :=
      I.turnedNew (t' := tk) (ch := [z, TI, TO, i1, i2]) (fun c o hb q => (sb.2 c (fun q' => hb (by simp [q']))).trans (hk c o (fun q' => hb (by simp [q'])) (fun q' => hb (by simp [q'])) (fun q' => hb (by simp [q'])) (fun q' => hb (by simp [q'])) q)) hf (Nat.le_refl _) new
    refine ⟨.ref s.heap.objs.size, _, I1, rfl, ⟨_, x, y, rfl, I.hok.fresh (Nat.le_refl _), rfl, fun l hl => by rw [injB I hl hqx]; exact hx, fun l hl => by rw [injB I hl hqy]; exact hy⟩, ⟨z'', ?_, ⟨v, v2, ?_⟩, ?_, ?_⟩, fun c hcm => ?_⟩
    · exact (sb.2 _ D.TIz).trans (hk _ _ D.TIz D.TITO D.TIi1 D.TIi2 hTI)
    · exact (sb.2 _ D.TOz).trans TO'
    · exact h1'.1.at fun o q => (sb.2 _ D.i1z).trans q
    · exact h2'.1.at fun o q => (sb.2 _ D.i2z).trans q
    · have hlt : c < s.heap.objs.size := by
        have e' : c = z ∨ c = TI ∨ c = TO ∨ c = i1 ∨ c = i2 := by simpa using hcm
        rcases e' with q | q | q | q | q
        · rw [q]; exact hzl
        · rw [q]; exact Heap.lt_size hTI
        · rw [q]; exact Heap.lt_size hTO
        · rw [q]; obtain ⟨_, e1, _⟩ := h1.ex; exact Heap.lt_size e1
        · rw [q]; obtain ⟨_, e2, _⟩ := h2.ex; exact Heap.lt_size e2
      rw [upd_ne (Nat.ne_of_lt hlt)]
      exact (hf c hcm).1
  done := by
    intro X hP hw hK hc i pins s σ H E I hf st hg
    subst hP hw hK
    obtain ⟨hz, hTI, ⟨x0, y0, hTO⟩, h1, h2⟩ := st
    obtain ⟨xs, ys, hqx, hqy, e1, e2⟩ := hg
    obtain ⟨its, rv, pp, _⟩ := invB I hqx
    obtain ⟨its2, rv2, pp2, _⟩ := invB I hqy
    have l1 := rv.length
    have l2 := rv2.length
    have hh : X.A.in1.handled = none := I.ok.hd hc
    have n1 : i = its.toArray.size := by simp; omega
    have n2 : i = its2.toArray.size := by simp; omega
    exact wpAny_pyNext_zipD2_end (sepB D) (drawsB p hh i1 a D.l1i1 its.toArray) (drawsB q hh i2 b D.l2i2 its2.toArray) hz hTI hTO ⟨h1, pp⟩ ⟨h2, pp2⟩ (Nat.le_of_eq n1) (Nat.le_of_eq n2) (.inl n1) fun h' tk hk => ⟨rfl, I.turnedL (t' := tk) (ch := [z, TI, TO, i1, i2]) (fun c o hb q =>
      hk c o (fun q' => hb (by simp [q'])) (fun q' => hb (by simp [q'])) (fun q' => hb (by simp [q'])) (fun q' => hb (by simp [q'])) q) hf⟩
  self := fun A i s Q E st h => wpAny_pyIter_zip st.1 h
def iZipB (K : PySem.W.Frag) (p q : Bool) (ta : TA) : TI := fun σ H R => ta σ H fun vs H1 => ∃ a b xs ys, vs = [.ref a, .ref b] ∧ SqB p K H1 a xs ∧ SqB q K H1 b ys ∧ R (ItzB p q K a b) H1
theorem pi_zipB (p q : Bool) {X : Cx} {e e2 : Expr} {ta : TA} {ps pos tpos : Pos} {elts : List Expr} {kk : Nat} (hg : Gl X "zip") (hm : X.mg "zip" = none) (ha : PA X [e, e2] ta)
    (hs : starEach [e, e2] X.env = (false, eval e X.env) :: starEach [e2] X.env := by rfl) (hpl : (backTo pos (starEach [e2] X.env)).any (·.1) = false := by rfl) :
    PI X (.Tuple elts kk tpos) (.Call (.Name "zip" ps) [e, e2] [] pos) (iZipB X.K p q ta) := by
  refine ⟨fun pins s σ H R I h => ?_⟩
  refine Call_ (ld_blt I hg hm PyProof.Rows.boot_zip (PyProof.Rows.callWith_type1 (thn (ha.run pos pins s σ H _ I h) fun us s1 ⟨vs, H1, I1, r1, q1⟩ => ?_) hs hpl))
  obtain ⟨a, b, xs, ys, ex, hqx, hqy, q2⟩ := q1
  subst ex
  cases r1 with
  | cons r rr =>
    cases rr with
    | cons r' rr =>
      cases rr
      cases r
      cases r'
      have fresh5 : ∀ c, c ∈ [s1.heap.objs.size + 4, s1.heap.objs.size + 2, s1.heap.objs.size + 3, s1.heap.objs.size, s1.heap.objs.size + 1] → FpOk X pins H1 c := fun c hcm => by
        have e' : c = s1.heap.objs.size + 4 ∨ c = s1.heap.objs.size + 2 ∨ c = s1.heap.objs.size + 3 ∨ c = s1.heap.objs.size ∨ c = s1.heap.objs.size + 1 := by simpa using hcm
        have hle : s1.heap.objs.size ≤ c := by
          rcases e' with z | z | z | z | z
          · rw [z]; exact Nat.le_add_right _ _
          · rw [z]; exact Nat.le_add_right _ _
          · rw [z]; exact Nat.le_add_right _ _
          · rw [z]; exact Nat.le_refl _
          · rw [z]; exact Nat.le_add_right _ _
        exact I1.fpOk hle (I1.hok.fresh hle)
      obtain ⟨its, rv, p1, lt1⟩ := invB I1 hqx
      obtain ⟨its2, rv2, p2, lt2⟩ := invB I1 hqy
      refine zip_begins2 (beginsB p a its.toArray) (beginsB q b its2.toArray) p1 p2 fun h' hz hTI hTO h1 h2 hsz hk => wpAny_pyIter_zip hz ?_
      have I2 : Inv X pins σ H1 { s1 with heap := h' } := I1.kept (t' := s1.toks) hk
      exact ⟨s1.heap.objs.size + 4, [s1.heap.objs.size + 4, s1.heap.objs.size + 2, s1.heap.objs.size + 3, s1.heap.objs.size, s1.heap.objs.size + 1], _, _, H1, rfl, I2, turn_zipB (PySem.W.ktu_apart s1.heap.objs.size a b lt1 lt2), ⟨hz, hTI, ⟨_, _, hTO⟩, ItB.new h1, ItB.new h2⟩, fresh5, q2⟩
/-- a comprehension over both -/
theorem lc_zipB {p q : Bool} {K : PySem.W.Frag} {a b : Addr} {xs ys : List V} {g : TG} {tt : TT} {te : TE} {vs : List Nat} {σ : L2.St} {H1 : Hp} {D : Addr} {Qd : Hp → Prop} (hl : xs.length = ys.length) (Pv : Nat → Hp → Prop) (h0 : Pv 0 (upd H1 D (.lst []))) (hq : ∀ i H, Pv i H → SqB p K H a xs ∧ SqB q K H b ys)
    (hs : ∀ (i : Nat) (x y : V) (T : Addr) (H : Hp), xs[i]? = some x → ys[i]? = some y → Pv i H → H T = none → g (.ref T) (wipe σ vs) (upd H T (.tup [x, y])) fun σ2 H2 => wipe σ2 vs = wipe σ vs ∧ tt σ2 H2 fun b H3 =>
      if b = true then te σ2 H3 fun y H4 => ∃ acc, H4 D = some (.lst acc) ∧ acc.length < sizeLine ∧ Pv (i + 1) (upd H4 D (.lst (acc ++ [y]))) else Pv (i + 1) H3) (hd : ∀ H, Pv xs.length H → Qd H) :
    ∃ W : Nat → Nat → Hp → Prop, (∃ m, W 0 m (upd H1 D (.lst []))) ∧ ∀ i m H, W i m H →
      ((ItzB p q K a b).stop i H ∧ Qd H) ∨ ((ItzB p q K a b).go i H ∧ ∃ Nx : Hp → Prop, (∀ H', Nx H' → ∃ m', m' < m ∧ W (i + 1) m' H') ∧ ∀ x H', (ItzB p q K a b).yld i H x H' → g x (wipe σ vs) H' fun σ2 H2 => wipe σ2 vs = wipe σ vs ∧ tt σ2 H2 fun b H3 =>
        if b = true then te σ2 H3 fun y H4 => ∃ acc, H4 D = some (.lst acc) ∧ acc.length < sizeLine ∧ Nx (upd H4 D (.lst (acc ++ [y]))) else Nx H3) := by
  refine ⟨fun i m H => m = xs.length - i ∧ i ≤ xs.length ∧ Pv i H, ⟨xs.length, rfl, Nat.zero_le _, h0⟩, ?_⟩
  rintro i m H ⟨rfl, hi, p⟩
  obtain ⟨qx, qy⟩ := hq i H p
  by_cases hlt : i < xs.length
  · have g1 : xs[i]? = some xs[i] := List.getElem?_eq_getElem hlt
    have g2 : ys[i]? = some ys[i] := List.getElem?_eq_getElem (by omega)
    refine .inr ⟨⟨_, _, _, _, qx, qy, g1, g2⟩, Pv (i + 1), fun H' p' => ⟨xs.length - (i + 1), by omega, rfl, hlt, p'⟩, fun x H' y => ?_⟩
    obtain ⟨T, x1, x2, rfl, nT, rfl, f1, f2⟩ := y
    exact hs i x1 x2 T H (f1 _ qx) (f2 _ qy) p nT
  · have e : i = xs.length := by omega
    subst e
    exact .inl ⟨⟨_, _, qx, qy, rfl, hl.symm⟩, hd H p⟩
end FR
namespace FR
open PySem PySem.Spec PyProof.Rows L2 HT
/-! ### t[::-1] -/
theorem rev_pick (its : List Value) : ((List.range its.length).filterMap fun (m : Nat) => its.toArray[(((its.length : Int) - 1) + (m : Int) * (-1)).toNat]?) = its.reverse := by
  have e : ∀ m ∈ List.range its.length, its.toArray[(((its.length : Int) - 1) + (m : Int) * (-1)).toNat]? = its.reverse[m]? := fun m hm => by
    rw [List.mem_range] at hm
    rw [List.getElem?_reverse hm, List.getElem?_toArray]
    congr 1
    omega
  have e2 : ∀ (l : List Nat) (f g : Nat → Option Value), (∀ m ∈ l, f m = g m) → l.filterMap f = l.filterMap g := fun l f g h => by
    induction l with
    | nil => rfl
    | cons a r ih =>
      rw [List.filterMap_cons, List.filterMap_cons, h a List.mem_cons_self, ih fun m hm => h m (List.mem_cons_of_mem _ hm)]
  rw [e2 _ _ _ e]
  have e3 : ∀ (ys : List Value), (List.range ys.length).filterMap (fun m => ys[m]?) = ys := fun ys => by
    have h := pick_run ys.toArray 0 ys.length
    simpa using h
  have := e3 its.reverse
  rw [List.length_reverse] at this
  exact this
theorem sliceApplied_rev {prog : Program} {w : World} {A : Around} {E : Value → Shared → Prop} {s : Shared} {sl : Addr} {t : Tok} {n : Nat} {Q : Int × Int × Nat → Shared → Prop} (hs : s.heap.IsSliceOf sl .none .none (.int (-1) t))
    (h : Q ((n : Int) - 1, -1, n) s) : wpAny (model prog w) A (Builtin.Slice.sliceApplied (.ref sl) (pure (n : Int))) Q E s := by
  obtain ⟨os, hos, hcs, hds⟩ := id hs
  unfold Builtin.Slice.sliceApplied Builtin.Slice.sliceFields
  refine wpAny_bind (wpAny_bind (wpAny_field hos hds (x := .none) rfl (wpAny_bind (wpAny_field hos hds (x := .none) rfl (wpAny_bind (wpAny_field hos hds (x := .int (-1) t) rfl (wpAny_pure ?_)))))))
  refine wpAny_bind (slicePart_int ?_)
  show wpAny _ _ (if ((-1 : Int) == 0) = true then _ else _) _ _ s
  rw [if_neg (by decide)]
  refine wpAny_bind (slicePart_none (wpAny_bind (slicePart_none (wpAny_bind (wpAny_pure ?_)))))
  show wpAny _ _ (pure ((n : Int) - 1, (-1 : Int), Builtin.Slice.slicePlaces ((n : Int) - 1) (-1) (-1))) _ _ s
  have e : Builtin.Slice.slicePlaces ((n : Int) - 1) (-1) (-1) = n := by
    unfold Builtin.Slice.slicePlaces
    rw [if_neg (by decide)]
    split
    · have : ((n : Int) - 1 - -1 - 1) / (- -1) = (n : Int) - 1 := by
        rw [show (- -1 : Int) = 1 by decide, Int.ediv_one]
        omega
      rw [this]
      omega
    · omega
  rw [e]
  exact wpAny_pure h
theorem getItem_rev {prog : Program} {w : World} {A : Around} {E : Value → Shared → Prop} {s : Shared} {t sl : Addr} {its : List Value} {k : Tok} {Q : Value → Shared → Prop} (ht : IsTup s.heap t its.toArray) (hs : s.heap.IsSliceOf sl .none .none (.int (-1) k))
    (h : Q (.ref s.heap.objs.size) { s with heap := s.heap.push { cls := .type "tuple", data := .seq its.reverse.toArray } })
    (hsz : its.length ≤ sizeLine) : wpAny (model prog w) A (getItem (.ref t) (.ref sl)) Q E s := by
  have htake : sizeOk (.seq its.reverse.toArray) := by
    show its.reverse.toArray.size ≤ sizeLine
    rw [List.size_toArray, List.length_reverse]
    exact hsz
  obtain ⟨os, hos, hcs, hds⟩ := id hs
  have hTs : s.TypeIs (.ref sl) "slice" := ⟨os, hos, hcs⟩
  unfold getItem
  try with_reducible refine wpAny_holding ?_
  first | refine wpAny_bind (wpAny_pure ?_) | skip
  refine wpAny_bind (wpAny_sequenceKey ht.typeIs (by decide) ?_)
  refine wpAny_bind (wpAny_callSpecial?_slot (name := Str.ofString "__getitem__") ht.typeIs PyProof.Rows.slot_tuple_getitem
    (wpAny_call_entry PyProof.Rows.slot_tuple_getitem ht.typeIs entry_tuple_getitem ?_ (args_tuple_getitem _ _)))
  show wpAny _ _ (Builtin.Tuple.tupleItemsOf (.ref t) >>= _) _ _ s
  refine wpAny_bind (tupleItemsOf_ ht ?_)
  refine wpAny_bind (wpAny_typeOf hTs ?_)
  rw [if_pos (by decide)]
  refine wpAny_bind (sliceApplied_rev (n := its.toArray.size) hs ?_)
  have hno : ¬ ((((its.toArray.size : Int) - 1) == 0 && (-1 : Int) == 1 && its.toArray.size == its.toArray.size) = true) := by
    intro q
    rw [Bool.and_eq_true, Bool.and_eq_true] at q
    exact absurd q.1.2 (by decide)
  show wpAny _ _ (if (((its.toArray.size : Int) - 1) == 0 && (-1 : Int) == 1 && its.toArray.size == its.toArray.size) = true then _ else _) _ _ s
  rw [if_neg hno, List.size_toArray, rev_pick]
  first
    | exact wpAny_bind (m := Builtin.Tuple.tupleExact _) (wpAny_newObj_type (wpAny_pure ⟨_, rfl, wpAny_pure h⟩) htake)
    | exact wpAny_bind (m := Builtin.Tuple.tupleExact _) (wpAny_newObj_type (wpAny_bind (wpAny_pure (wpAny_pure ⟨_, rfl, wpAny_pure h⟩))) htake)
    | exact wpAny_bind (wpAny_bind (m := Builtin.Tuple.tupleExact _) (wpAny_newObj_type (wpAny_pure (wpAny_pure ⟨_, rfl, wpAny_pure h⟩)) htake))
    | exact wpAny_bind (wpAny_bind (m := Builtin.Tuple.tupleExact _) (wpAny_newObj_type (wpAny_pure ⟨_, rfl, wpAny_pure h⟩) htake))
theorem vals_rev {xs : List V} {us : List Value} (r : Vals xs us) : Vals xs.reverse us.reverse := by
  have app : ∀ {a c : List V} {b d : List Value}, Vals a b → Vals c d → Vals (a ++ c) (b ++ d) := by
    intro a c b d h1 h2
    induction h1 with
    | nil => exact h2
    | cons r rr ih => exact .cons r ih
  induction r with
  | nil => exact .nil
  | cons r rr ih =>
    rw [List.reverse_cons, List.reverse_cons]
    exact app ih (.cons r .nil)
def tRev (K : PySem.W.Frag) (te ts : TE) : TE := fun σ H Q => te σ H fun x H1 => ts σ H1 fun y H2 => y = .int (-1) ∧ ∃ a xs, x = .ref a ∧ SqT K H2 a xs ∧ ∀ p, H2 p = none → Q (.ref p) (upd H2 p (.tup xs.reverse))
theorem pe_rev {X : Cx} {e es : Expr} {te ts : TE} {pos p2 : Pos} (he : PE X e te) (hs : PE X es ts) : PE X (.Subscript e (.Slice none none (some es) p2) pos) (tRev X.K te ts) := by
  refine ⟨fun pins s σ H Q I h => ?_⟩
  refine Subscript_ (thn (he.run pins s σ H _ I h) fun v s1 ⟨x, H1, I1, r1, q1⟩ => ?_)
  refine wpAny_Slice ?_
  rw [evalPart_none]
  refine wpAny_pure ?_
  refine wpAny_pure ?_
  rw [evalPart_some]
  refine thn (hs.run pins s1 σ H1 _ I1 q1) fun u s3 ⟨y, H3, I3, r3, q3⟩ => ?_
  obtain ⟨rfl, a, xs, rfl, hx, q⟩ := q3
  obtain ⟨t, rfl⟩ := r3
  cases r1
  have I4 : Inv X pins σ H3 { s3 with heap := s3.heap.push { cls := .type "slice", data := .fields #[.none, .none, .int (-1) t] } } := I3.kept (t' := s3.toks) fun b ob q => Heap.get?_push_of_some _ q
  obtain ⟨its, r, ht, hz⟩ := I4.tuple hx
  show wpAny (model X.prog X.w) X.A (subscriptTail e (.Slice none none (some es) p2) (.ref a) (.ref s3.heap.objs.size)) (EP X pins σ Q) X.xe { s3 with heap := s3.heap.push { cls := .type "slice", data := .fields #[.none, .none, .int (-1) t] } }
  refine tail_any (ops := [.ref a, .ref s3.heap.objs.size]) (T := "tuple") ht.typeIs PyProof.Rows.slot_tuple_getitem.lookup ?_ (by with_unfolding_all rfl)
  refine getItem_rev ht (Heap.IsSliceOf.new ..) ?_ (by rw [← r.length]; exact hz)
  refine ⟨.ref _, _, I4.laid (t' := s3.toks) (o := .tup xs.reverse) (fun b ob q => Heap.get?_push_of_some _ q) (Nat.le_refl _) ?_, rfl, q _ (I4.hok.fresh (Nat.le_refl _))⟩
  exact ⟨by rw [List.length_reverse]; exact hz, _, vals_rev r, IsTup.new _ _⟩
end FR
namespace FR
open PySem PySem.Spec PyProof.Rows L2
/-! ### folk: purses in a tuple -/
def pursesD (n : Nat) : PyData → Bool
  | .tuple ds => decide (1 ≤ ds.length) && decide (ds.length ≤ 8) && ds.all (purseD n)
  | _ => false
inductive Pss (K : PySem.W.Frag) (H : Hp) : List Addr → List (Int × List Int) → Prop
  | nil : Pss K H [] []
  | cons {a : Addr} {as : List Addr} {p : Int × List Int} {ps : List (Int × List Int)} : Purse K H a p.1 p.2 → Pss K H as ps → Pss K H (a :: as) (p :: ps)
theorem Pss.kp {K : PySem.W.Frag} {H H' : Hp} (k : Kp H H') {as : List Addr} {ps : List (Int × List Int)} (h : Pss K H as ps) : Pss K H' as ps := by
  induction h with
  | nil => exact .nil
  | cons h1 _ ih => exact .cons (h1.kp k) ih
theorem Pss.same {K : PySem.W.Frag} {H H' : Hp} (k : Same H H') {as : List Addr} {ps : List (Int × List Int)} (h : Pss K H as ps) : Pss K H' as ps := h.kp (.of k)
theorem Pss.len {K : PySem.W.Frag} {H : Hp} {as : List Addr} {ps : List (Int × List Int)} (h : Pss K H as ps) : as.length = ps.length := by
  induction h with
  | nil => rfl
  | cons _ _ ih => exact congrArg (· + 1) ih
theorem Pss.get {K : PySem.W.Frag} {H : Hp} {as : List Addr} {ps : List (Int × List Int)} (h : Pss K H as ps) : ∀ {i : Nat} {a : Addr}, as[i]? = some a → ∃ p, ps[i]? = some p ∧ Purse K H a p.1 p.2 := by
  induction h with
  | nil => intro i a e; simp at e
  | cons h1 _ ih =>
    intro i a e
    match i, e with
    | 0, e =>
      cases e
      exact ⟨_, rfl, h1⟩
    | i + 1, e => exact ih e
theorem Pss.app {K : PySem.W.Frag} {H : Hp} {as bs : List Addr} {ps qs : List (Int × List Int)} (h : Pss K H as ps) (h' : Pss K H bs qs) : Pss K H (as ++ bs) (ps ++ qs) := by
  induction h with
  | nil => exact h'
  | cons h1 _ ih => exact .cons h1 ih
theorem Pss.rev {K : PySem.W.Frag} {H : Hp} {as : List Addr} {ps : List (Int × List Int)} (h : Pss K H as ps) : Pss K H as.reverse ps.reverse := by
  induction h with
  | nil => exact .nil
  | cons h1 _ ih =>
    rw [List.reverse_cons, List.reverse_cons]
    exact ih.app (.cons h1 .nil)
theorem Pss.take {K : PySem.W.Frag} {H : Hp} {as : List Addr} {ps : List (Int × List Int)} (h : Pss K H as ps) : ∀ n : Nat, Pss K H (as.take n) (ps.take n) := by
  induction h with
  | nil => intro n; rw [List.take_nil, List.take_nil]; exact .nil
  | cons h1 _ ih =>
    intro n
    match n with
    | 0 => exact .nil
    | n + 1 => exact .cons h1 (ih n)
def purD (p : Int × List Int) : PyData := .tuple [.int p.1, .tuple (p.2.map PyData.int)]
theorem Pss.dp {K : PySem.W.Frag} {H : Hp} {as : List Addr} {ps : List (Int × List Int)} (h : Pss K H as ps) : DpAll K H (as.map V.ref) (ps.map purD) := by
  induction h with
  | nil => exact .nil
  | cons h1 _ ih => exact .cons h1.dp ih
/-- purses within the bounds -/
def Folk (n : Nat) (ps : List (Int × List Int)) : Prop := 1 ≤ ps.length ∧ ps.length ≤ 8 ∧ ∀ p ∈ ps, 0 ≤ p.1 ∧ p.1 ≤ 1000000000000000000 ∧ Stamps n p.2
theorem pursesD_ok {n : Nat} {ps : List (Int × List Int)} (h : Folk n ps) : pursesD n (.tuple (ps.map purD)) = true := by
  obtain ⟨h1, h8, h⟩ := h
  show (decide (1 ≤ (ps.map purD).length) && decide ((ps.map purD).length ≤ 8) && (ps.map purD).all (purseD n)) = true
  rw [List.length_map, decide_eq_true h1, decide_eq_true h8, List.all_map, Bool.true_and, Bool.true_and, List.all_eq_true]
  intro p hp
  obtain ⟨a, b, c⟩ := h p hp
  exact purseD_ok a b c
theorem Folk.good {n : Nat} {ps : List (Int × List Int)} (h : Folk n ps) : GoodP n ps := fun p hp => by
  obtain ⟨a, b, c⟩ := h.2.2 p hp
  exact ⟨a, c.1, fun x hx => (c.2 x hx).1⟩
/-- the sum of one kind's stamps -/
def colS (k : Nat) (ps : List (Int × List Int)) : Int := (ps.map fun p => p.2.getD k 0).sum
theorem tots_get {n k : Nat} (hk : k < n) : ∀ {ps : List (Int × List Int)}, GoodP n ps → (totS n ps)[k]? = some (colS k ps)
  | [], _ => by
    show (List.replicate n (0 : Int))[k]? = some 0
    rw [List.getElem?_replicate, if_pos hk]
  | p :: ps, h => by
    have ih := tots_get hk (ps := ps) (fun q hq => h q (List.mem_cons_of_mem _ hq))
    obtain ⟨_, e, _⟩ := h p List.mem_cons_self
    show (zadd p.2 (totS n ps))[k]? = some (colS k (p :: ps))
    unfold zadd
    rw [List.getElem?_zipWith, ih, List.getElem?_eq_getElem (by omega)]
    unfold colS
    rw [List.map_cons, List.sum_cons, List.getD_eq_getElem?_getD, List.getElem?_eq_getElem (by omega)]
    rfl
theorem tots_eq {n : Nat} {ps : List (Int × List Int)} (h : GoodP n ps) : totS n ps = (List.range n).map fun k => colS k ps := by
  refine List.ext_getElem? fun k => ?_
  by_cases hk : k < n
  · rw [tots_get hk h, List.getElem?_map, List.getElem?_range hk]
    rfl
  · rw [List.getElem?_eq_none (by rw [(tot_ok h).2.1]; omega), List.getElem?_eq_none (by rw [List.length_map, List.length_range]; omega)]
end FR
namespace FR
open PySem PySem.Spec PyProof.Rows L2
theorem totS_rev {n : Nat} {ps : List (Int × List Int)} (h : GoodP n ps) : totS n ps.reverse = totS n ps := by
  rw [tots_eq h, tots_eq (good_rev h)]
  refine List.map_congr_left fun k _ => ?_
  unfold colS
  rw [List.map_reverse, sum_rev]
def ApartV (cs : List Int) (ps : List (Int × List Int)) (v : V) : Prop := (v = .non ∧ ∃ p ∈ ps, Never cs p.1 p.2) ∨ ∃ ts, v = .int ts.sum ∧ Each cs ps ts
theorem apart_unique {cs : List Int} {ps : List (Int × List Int)} {v w : V} (h : ApartV cs ps v) (h' : ApartV cs ps w) : v = w := by
  rcases h with ⟨rfl, p, hp, hn⟩ | ⟨ts, rfl, he⟩
  · rcases h' with ⟨rfl, _⟩ | ⟨ts, rfl, he⟩
    · rfl
    · obtain ⟨t, ht⟩ := each_mem he hp
      exact (least_never ht hn).elim
  · rcases h' with ⟨rfl, p, hp, hn⟩ | ⟨ts', rfl, he'⟩
    · obtain ⟨t, ht⟩ := each_mem he hp
      exact (least_never ht hn).elim
    · rw [each_unique he he']
theorem apart_rev {cs : List Int} {ps : List (Int × List Int)} {v : V} (h : ApartV cs ps v) : ApartV cs ps.reverse v := by
  rcases h with ⟨rfl, p, hp, hn⟩ | ⟨ts, rfl, he⟩
  · exact .inl ⟨rfl, p, List.mem_reverse.mpr hp, hn⟩
  · exact .inr ⟨ts.reverse, by rw [sum_rev], each_rev he⟩
theorem told_unique {cs ss : List Int} {r : Int} {v w : V} (h : ToldV cs r ss v) (h' : ToldV cs r ss w) : v = w := by
  match w, h' with
  | .non, h' => exact told_never h h'
  | .int t, h' => exact told_least h h'
/-- what is told of each -/
inductive Tolds (cs : List Int) : List (Int × List Int) → List V → Prop
  | nil : Tolds cs [] []
  | cons {p : Int × List Int} {v : V} {ps : List (Int × List Int)} {vs : List V} : ToldV cs p.1 p.2 v → Tolds cs ps vs → Tolds cs (p :: ps) (v :: vs)
theorem Tolds.snoc {cs : List Int} {ps : List (Int × List Int)} {vs : List V} {p : Int × List Int} {v : V} (h : Tolds cs ps vs) (h' : ToldV cs p.1 p.2 v) : Tolds cs (ps ++ [p]) (vs ++ [v]) := by
  induction h with
  | nil => exact .cons h' .nil
  | cons h1 _ ih => exact .cons h1 ih
theorem Tolds.len {cs : List Int} {ps : List (Int × List Int)} {vs : List V} (h : Tolds cs ps vs) : vs.length = ps.length := by
  induction h with
  | nil => rfl
  | cons _ _ ih => exact congrArg (· + 1) ih
/-- all are numbers, or somebody's never end -/
theorem Tolds.split {cs : List Int} {ps : List (Int × List Int)} {vs : List V} (h : Tolds cs ps vs) : (∃ ts, vs = ts.map V.int ∧ Each cs ps ts) ∨ (V.non ∈ vs ∧ ∃ p ∈ ps, Never cs p.1 p.2) := by
  induction h with
  | nil => exact .inl ⟨[], rfl, .nil⟩
  | @cons p v ps vs h1 h2 ih =>
    match v, h1 with
    | .non, h1 => exact .inr ⟨List.mem_cons_self, p, List.mem_cons_self, h1⟩
    | .int t, h1 =>
      rcases ih with ⟨ts, rfl, he⟩ | ⟨hm, q, hq, hn⟩
      · exact .inl ⟨t :: ts, rfl, .cons h1 he⟩
      · exact .inr ⟨List.mem_cons_of_mem _ hm, q, List.mem_cons_of_mem _ hq, hn⟩
theorem Tolds.flat {cs : List Int} {ps : List (Int × List Int)} {vs : List V} (h : Tolds cs ps vs) : vs.all flatV = true := by
  induction h with
  | nil => rfl
  | @cons p v ps vs h1 h2 ih =>
    rw [List.all_cons, ih, Bool.and_true]
    match v, h1 with
    | .non, _ => rfl
    | .int t, _ => rfl
end FR
namespace FR
open PySem PySem.Spec PyProof.Rows L2
theorem sqT_updL {K : PySem.W.Frag} {H : Hp} {a D : Addr} {xs ys : List V} {o : HO} (h : SqT K H a xs) (e : H D = some (.lst ys)) : SqT K (upd H D o) a xs := by
  rcases h with (h | ⟨ob, h⟩) | h
  · exact .inl (.inl (by rw [upd_ne (ne_of h e (fun z => nomatch z))]; exact h))
  · exact .inl (.inr ⟨ob, by rw [upd_ne (ne_of h e (fun z => nomatch z))]; exact h⟩)
  · exact .inr h
theorem Purse.upd {K : PySem.W.Frag} {H : Hp} {a D : Addr} {r : Int} {ss : List Int} {ys : List V} {o : HO} (h : Purse K H a r ss) (e : H D = some (.lst ys)) : Purse K (L2.upd H D o) a r ss := by
  obtain ⟨s, h1, h2⟩ := h
  exact ⟨s, sqT_updL h1 e, sqT_updL h2 e⟩
theorem Pss.upd {K : PySem.W.Frag} {H : Hp} {D : Addr} {ys : List V} {o : HO} (e : H D = some (.lst ys)) {as : List Addr} {ps : List (Int × List Int)} (h : Pss K H as ps) : Pss K (L2.upd H D o) as ps := by
  induction h with
  | nil => exact .nil
  | cons h1 _ ih => exact .cons (h1.upd e) ih
theorem inV_ints (ts : List Int) : inV .non (ts.map V.int) = false := by
  unfold inV
  rw [List.any_map, List.any_eq_false]
  intro x _ h
  exact nomatch h
theorem inV_mem {es : List V} (h : V.non ∈ es) : inV .non es = true := by
  unfold inV
  rw [List.any_eq_true]
  exact ⟨.non, h, rfl⟩
theorem get_refA {as : List Addr} {i : Nat} {x : V} (hi : (as.map V.ref)[i]? = some x) : ∃ a, as[i]? = some a ∧ x = .ref a := by
  rw [List.getElem?_map] at hi
  cases z : as[i]? with
  | none => rw [z] at hi; exact nomatch hi
  | some a => rw [z] at hi; exact ⟨a, rfl, (Option.some.inj hi).symm⟩
theorem cut_first (xs : List V) : cutV xs none (some 1) = xs.take 1 := by
  unfold cutV
  rw [HT.sIx_none, show (some (1 : Int)) = some ((1 : Nat) : Int) from rfl, HT.sIx_nat, List.drop_zero, Nat.sub_zero]
  match xs with
  | [] => rfl
  | x :: r =>
    rw [Nat.min_eq_left (by rw [List.length_cons]; omega)]
theorem each_get {cs : List Int} : ∀ {ps : List (Int × List Int)} {ts : List Int} {i : Nat} {p : Int × List Int}, Each cs ps ts → ps[i]? = some p → ∃ t, ts[i]? = some t ∧ Least cs p.1 p.2 t
  | q :: ps, t :: ts, 0, p, .cons h _, e => by
    cases e
    exact ⟨t, rfl, h⟩
  | q :: ps, t :: ts, i + 1, p, .cons _ h, e => each_get (i := i) h e
theorem Folk.rev {n : Nat} {ps : List (Int × List Int)} (h : Folk n ps) : Folk n ps.reverse := by
  obtain ⟨h1, h2, h3⟩ := h
  exact ⟨by rw [List.length_reverse]; exact h1, by rw [List.length_reverse]; exact h2, fun p hp => h3 p (List.mem_reverse.mp hp)⟩
theorem zadd_get {xs ys : List Int} {i : Nat} {x y : Int} (h1 : xs[i]? = some x) (h2 : ys[i]? = some y) : (zadd xs ys)[i]? = some (x + y) := by
  unfold zadd
  rw [List.getElem?_zipWith, h1, h2]
theorem least_45 : Least [4] 4 [0] 5 := ⟨by decide, by decide, fun m h0 h1 => by rw [fc_one]; omega⟩
theorem least_43 : Least [4] 3 [0] 3 := ⟨by decide, by decide, fun m h0 h1 => by rw [fc_one]; omega⟩
theorem least_41 : Least [4] 1 [0] 1 := ⟨by decide, by decide, fun m h0 h1 => by rw [fc_one]; omega⟩
end FR
namespace FR
open PySem PySem.Spec PyProof.Rows L2
theorem rep_zero : ∀ n : Nat, (List.replicate n [V.int 0]).flatten = (List.replicate n (0 : Int)).map V.int
  | 0 => rfl
  | n + 1 => by
    rw [List.replicate_succ, List.flatten_cons, rep_zero n, List.replicate_succ, List.map_cons]
    rfl
theorem scal_told {cs ss : List Int} {r : Int} {v : V} (h : ToldV cs r ss v) : scal v v = true := by
  match v, h with
  | .non, _ => rfl
  | .int t, _ => rfl
theorem scal_apart {cs : List Int} {ps : List (Int × List Int)} {v : V} (h : ApartV cs ps v) : scal v v = true := by
  rcases h with ⟨rfl, _⟩ | ⟨ts, rfl, _⟩ <;> rfl
theorem Folk.one {n : Nat} {p : Int × List Int} {ps : List (Int × List Int)} (h : Folk n (p :: ps)) : Folk n [p] := ⟨Nat.le_refl 1, by show 1 ≤ 8; omega, fun q hq => by
  rw [List.mem_singleton.mp hq]
  exact h.2.2 p List.mem_cons_self⟩
theorem tot_one {n : Nat} {p : Int × List Int} (h : p.2.length = n) : totR [p] = p.1 ∧ totS n [p] = p.2 := by
  refine ⟨by unfold totR; simp, ?_⟩
  show zadd p.2 (List.replicate n 0) = p.2
  rw [← h, zadd_zero]
theorem apart_one {cs : List Int} {p : Int × List Int} {v w : V} (h : ToldV cs p.1 p.2 v) (h' : ApartV cs [p] w) : w = v := by
  refine apart_unique h' ?_
  match v, h with
  | .non, h => exact .inl ⟨rfl, p, List.mem_singleton.mpr rfl, h⟩
  | .int t, h => exact .inr ⟨[t], by simp, .cons h .nil⟩
theorem told_cases {cs ss : List Int} {r : Int} {v : V} (h : ToldV cs r ss v) : (v = .non ∧ Never cs r ss) ∨ ∃ t, v = .int t ∧ Least cs r ss t := by
  match v, h with
  | .non, h => exact .inl ⟨rfl, h⟩
  | .int t, h => exact .inr ⟨t, rfl, h⟩
end FR
namespace FR
open PySem PySem.Spec PyProof.Rows L2
/-! ### a class of the program: its methods, its making -/
structure KeptT (K : PySem.W.Frag) (mg : Str → Option Value) (C : Addr) : Prop where
  cl : Cls K C
  nC : NoAttr K C "cards"
  nS : NoAttr K C "states"
  g : mg "Kept" = some (.ref C)
structure MDef (P : Program) (w : World) (K : PySem.W.Frag) (mg : Str → Option Value) (base : Heap) (C : Addr) (m : Str) (k : Nat) (ps : List Str) (sp : Sp) : Prop where
  ex : ∃ f fd, FnOk P w K mg base CX0 k f fd ps sp ∧ Meth K C m f ∧ Binds K fd ps []
structure KMk (P : Program) (w : World) (K : PySem.W.Frag) (mg : Str → Option Value) (base : Heap) (C : Addr) (k : Nat) (ps : List Str) (sp : Sp) : Prop where
  ex : ∃ f fd, Mk K C f ∧ FnOk P w K mg base CX0 k f fd ps sp ∧ Binds K fd ps []
theorem pe_mdef {X : Cx} {pl : Sem Bool} {k j : Nat} {ps : List Str} {sp : Sp} {C : Addr} {m : Str} {apos pos : Pos} {o e : Expr} {es : List Expr} {ta : TE} {t : TA} (T : KeptT X.K X.mg C) (D : MDef X.prog X.w X.K X.mg X.base C m k ps sp) (hr : Room j X.A) (ho : PE X o ta) (ha : PA X (e :: es) t) (hl : k ≤ j := by decide)
    (he : starEach (e :: es) X.env = (false, eval e X.env) :: starEach es X.env := by rfl) (hpl : (backTo pos (starEach es X.env)).any (·.1) = false := by rfl)
    (ht : eval (.Call (.Attribute o m apos) (e :: es) [] pos) X.env = (do
      let ov ← eval o X.env
      standAt apos.atName
      let (f, first) ← holding [ov] (getMethod ov m pl)
      callWith pos f first (backTo pos (starEach (e :: es) X.env)) (backToKw pos (keywordEach [] X.env))) := by rfl) :
    PE X (.Call (.Attribute o m apos) (e :: es) [] pos) (tMeth C m sp [] E0 ta t) := by
  obtain ⟨f, fd, F, M, b⟩ := D.ex
  exact pe_meth ho T.cl M F (hr.mono hl) b .nil pass0 ha he hpl ht
theorem pe_mdef0 {X : Cx} {pl : Sem Bool} {k j : Nat} {ps : List Str} {sp : Sp} {C : Addr} {m : Str} {apos pos : Pos} {o : Expr} {ta : TE} (T : KeptT X.K X.mg C) (D : MDef X.prog X.w X.K X.mg X.base C m k ps sp) (hr : Room j X.A) (ho : PE X o ta) (hl : k ≤ j := by decide)
    (ht : eval (.Call (.Attribute o m apos) [] [] pos) X.env = (do
      let ov ← eval o X.env
      standAt apos.atName
      let (f, first) ← holding [ov] (getMethod ov m pl)
      callWith pos f first (backTo pos (starEach [] X.env)) (backToKw pos (keywordEach [] X.env))) := by rfl) :
    PE X (.Call (.Attribute o m apos) [] [] pos) (tMeth C m sp [] E0 ta tNil) := by
  obtain ⟨f, fd, F, M, b⟩ := D.ex
  exact pe_meth0 ho T.cl M F (hr.mono hl) b .nil pass0 ht
theorem pe_mkdef {X : Cx} {k j : Nat} {ps : List Str} {sp : Sp} {C : Addr} {p pos : Pos} {e : Expr} {es : List Expr} {t : TA} (T : KeptT X.K X.mg C) (D : KMk X.prog X.w X.K X.mg X.base C k ps sp) (hr : Room j X.A) (ha : PA X (e :: es) t) (hg : Gl X "Kept" := by rfl) (hl : k + 1 ≤ j := by decide)
    (he : starEach (e :: es) X.env = (false, eval e X.env) :: starEach es X.env := by rfl) (hpl : (backTo pos (starEach es X.env)).any (·.1) = false := by rfl) :
    PE X (.Call (.Name "Kept" p) (e :: es) [] pos) (tMake C sp [] E0 t) := by
  obtain ⟨f, fd, M, F, b⟩ := D.ex
  exact pe_make M F (hr.mono hl) hg T.g b .nil pass0 ha (by decide) he hpl
/-! ### a kept purse as it stands -/
structure KS where
  r : Int
  ss : List Int
  rd : Int
  ln : Int
def kf (cA sA : Addr) : List (Str × V) := putF "states" (.ref sA) (putF "cards" (.ref cA) [])
theorem kf_ne : ¬ (("cards" : Str) = "states") := by decide +kernel
theorem kf_cards (cA sA : Addr) : (kf cA sA).lookup ("cards" : Str) = some (.ref cA) := by
  unfold kf
  rw [lookup_putF, if_neg kf_ne, lookup_putF, if_pos rfl]
theorem kf_states (cA sA : Addr) : (kf cA sA).lookup ("states" : Str) = some (.ref sA) := by
  unfold kf
  rw [lookup_putF, if_pos rfl]
theorem kf_no (cA sA : Addr) {m : Str} (h1 : ¬ m = "states") (h2 : ¬ m = "cards") : (kf cA sA).lookup m = none := by
  unfold kf
  rw [lookup_putF, if_neg h1, lookup_putF, if_neg h2]
  rfl
inductive Sts (K : PySem.W.Frag) (H : Hp) : List Addr → List KS → Prop
  | nil : Sts K H [] []
  | cons {t pA : Addr} {ts : List Addr} {k : KS} {ks : List KS} : SqT K H t [.ref pA, .int k.rd, .int k.ln] → Purse K H pA k.r k.ss → Sts K H ts ks → Sts K H (t :: ts) (k :: ks)
theorem Sts.kp {K : PySem.W.Frag} {H H' : Hp} (k : Kp H H') {ts : List Addr} {ks : List KS} (h : Sts K H ts ks) : Sts K H' ts ks := by
  induction h with
  | nil => exact .nil
  | cons h1 h2 _ ih => exact .cons (k.tup h1) (h2.kp k) ih
theorem Sts.same {K : PySem.W.Frag} {H H' : Hp} (k : Same H H') {ts : List Addr} {ks : List KS} (h : Sts K H ts ks) : Sts K H' ts ks := h.kp (.of k)
theorem Sts.upd {K : PySem.W.Frag} {H : Hp} {D : Addr} {ys : List V} {o : HO} (e : H D = some (.lst ys)) {ts : List Addr} {ks : List KS} (h : Sts K H ts ks) : Sts K (L2.upd H D o) ts ks := by
  induction h with
  | nil => exact .nil
  | cons h1 h2 _ ih => exact .cons (sqT_updL h1 e) (h2.upd e) ih
theorem Sts.len {K : PySem.W.Frag} {H : Hp} {ts : List Addr} {ks : List KS} (h : Sts K H ts ks) : ts.length = ks.length := by
  induction h with
  | nil => rfl
  | cons _ _ _ ih => exact congrArg (· + 1) ih
theorem Sts.app {K : PySem.W.Frag} {H : Hp} {ts us : List Addr} {ks ls : List KS} (h : Sts K H ts ks) (h' : Sts K H us ls) : Sts K H (ts ++ us) (ks ++ ls) := by
  induction h with
  | nil => exact h'
  | cons h1 h2 _ ih => exact .cons h1 h2 ih
theorem Sts.last {K : PySem.W.Frag} {H : Hp} {ks : List KS} {k : KS} : ∀ {ts : List Addr}, Sts K H ts (ks ++ [k]) → ∃ us t pA, ts = us ++ [t] ∧ Sts K H us ks ∧ SqT K H t [.ref pA, .int k.rd, .int k.ln] ∧ Purse K H pA k.r k.ss := by
  induction ks with
  | nil =>
    intro ts h
    cases h with
    | cons h1 h2 h3 =>
      cases h3
      exact ⟨[], _, _, rfl, .nil, h1, h2⟩
  | cons a ks ih =>
    intro ts h
    cases h with
    | cons h1 h2 h3 =>
      obtain ⟨us, t, pA, rfl, h4, h5, h6⟩ := ih h3
      exact ⟨_ :: us, t, pA, rfl, .cons h1 h2 h4, h5, h6⟩
/-- a kept purse at x, its states' list at sA -/
structure KeptAt (C : Addr) (K : PySem.W.Frag) (H : Hp) (x sA : Addr) (cs : List Int) (ks : List KS) : Prop where
  ob : ∃ dx cA, H x = some (.ins C dx (kf cA sA)) ∧ SqT K H cA (cs.map V.int)
  st : ∃ ts, H sA = some (.lst (ts.map V.ref)) ∧ Sts K H ts ks
/-- all but one place is kept -/
def But (sA : Addr) (H H' : Hp) : Prop := ∀ b o, H b = some o → b ≠ sA → H' b = some o
theorem But.of {sA : Addr} {H H' : Hp} (h : Same H H') : But sA H H' := fun b o e _ => h b o e
theorem But.trans {sA : Addr} {H H1 H2 : Hp} (a : But sA H H1) (b : But sA H1 H2) : But sA H H2 := fun c o e n => b c o (a c o e n) n
theorem But.same {sA : Addr} {H0 H H' : Hp} (s : Same H0 H) (n : H0 sA = none) (b : But sA H H') : Same H0 H' := fun c o e => b c o (s c o e) (ne_of_none e n)
theorem But.kp {sA : Addr} {H0 H H' : Hp} (s : Kp H0 H) (n : H0 sA = none) (b : But sA H H') : Kp H0 H' := by
  refine ⟨fun a o e h => b a o (s.keep a o e h) (ne_of_none e n), fun a d c e => ?_⟩
  obtain ⟨c', e'⟩ := s.bag a d c e
  exact ⟨c', b _ _ e' (ne_of_none e n)⟩
theorem nins {C dx : Addr} {fs : List (Str × V)} : ¬ BagSh (.ins C dx fs) := fun ⟨_, _, e⟩ => nomatch e
theorem KeptAt.kp {C : Addr} {K : PySem.W.Frag} {H H' : Hp} {x sA : Addr} {cs : List Int} {ks : List KS} (h : KeptAt C K H x sA cs ks) (k : Kp H H') : KeptAt C K H' x sA cs ks := by
  obtain ⟨⟨dx, cA, h1, h2⟩, ts, h3, h4⟩ := h
  exact ⟨⟨dx, cA, k.keep _ _ h1 nins, k.tup h2⟩, ts, k.keep _ _ h3 nrefs, h4.kp k⟩
theorem KeptAt.same {C : Addr} {K : PySem.W.Frag} {H H' : Hp} {x sA : Addr} {cs : List Int} {ks : List KS} (h : KeptAt C K H x sA cs ks) (k : Same H H') : KeptAt C K H' x sA cs ks := h.kp (.of k)
/-- the top's state: where it stands -/
theorem KeptAt.top {C : Addr} {K : PySem.W.Frag} {H : Hp} {x sA : Addr} {cs : List Int} {ks : List KS} {k : KS} (h : KeptAt C K H x sA cs (ks ++ [k])) :
    ∃ dx cA us t pA, H x = some (.ins C dx (kf cA sA)) ∧ SqT K H cA (cs.map V.int) ∧ H sA = some (.lst (us.map V.ref ++ [.ref t])) ∧ Sts K H us ks ∧ SqT K H t [.ref pA, .int k.rd, .int k.ln] ∧ Purse K H pA k.r k.ss := by
  obtain ⟨⟨dx, cA, h1, h2⟩, ts, h3, h4⟩ := h
  obtain ⟨us, t, pA, rfl, h5, h6, h7⟩ := h4.last
  rw [List.map_append] at h3
  exact ⟨dx, cA, us, t, pA, h1, h2, h3, h5, h6, h7⟩
/-- one state more -/
theorem KeptAt.push {C : Addr} {K : PySem.W.Frag} {H H1 : Hp} {x sA t : Addr} {cs : List Int} {ks : List KS} {k : KS} {pA : Addr} {ts : List Addr} (h : KeptAt C K H x sA cs ks) (s : Same H H1) (e : H1 sA = some (.lst (ts.map V.ref))) (hS : Sts K H1 ts ks)
    (ht : SqT K H1 t [.ref pA, .int k.rd, .int k.ln]) (hp : Purse K H1 pA k.r k.ss) : KeptAt C K (upd H1 sA (.lst (ts.map V.ref ++ [.ref t]))) x sA cs (ks ++ [k]) := by
  obtain ⟨⟨dx, cA, h1, h2⟩, _⟩ := h
  have h1' := s _ _ h1
  refine ⟨⟨dx, cA, ?_, sqT_updL (Same.seqT s h2) e⟩, ts ++ [t], ?_, ?_⟩
  · rw [upd_ne (ne_of h1' e (fun z => nomatch z))]
    exact h1'
  · rw [upd_same, List.map_append]
    rfl
  · exact (hS.upd e).app (.cons (sqT_updL ht e) (hp.upd e) .nil)
/-! ### the end -/
def MethL (K : PySem.W.Frag) (C : Addr) : List (Str × Str × Stmt) → Prop
  | [] => True
  | (m, q, st) :: r => (∃ f fd, Fun K m q st f fd ∧ Meth K C m f) ∧ MethL K C r
theorem methL_cons {K : PySem.W.Frag} {C : Addr} {m q : Str} {st : Stmt} {r : List (Str × Str × Stmt)} {f : Addr} {od an : Option Addr} {sl : Array (Option Value)} {oc kV dc pm cd ct : Value}
    (a : PySem.W.findIn K (.ref C) m = some (some (.ref f))) (i : PySem.W.isFn K (.ref f) = true) (l1 : K.lookup f = some ⟨oc, od, .func (PySem.W.fnOf m q (defArgs st) (defBody st) (defScope st) .none kV dc pm an cd ct), sl⟩) (c1 : PySem.W.codeIn K cd q = true) (k1 : PySem.W.keepIn K (.ref f) = true) (h : MethL K C r) : MethL K C ((m, q, st) :: r) :=
  ⟨⟨f, _, fun_mk (st := st) l1 c1 k1, ⟨a, i, k1⟩⟩, h⟩
def KeptAll (K : PySem.W.Frag) (mg : Str → Option Value) (ms : List (Str × Str × Stmt)) : Prop := ∃ C, KeptT K mg C ∧ PySem.W.makesIn K C = true ∧ PySem.W.keepIn K (.ref C) = true ∧ MethL K C ms
def KeptAllX {K : PySem.W.Frag} {h : Heap} (_ : K.In h) (mg : Str → Option Value) (ms : List (Str × Str × Stmt)) : Prop := KeptAll K mg ms
theorem keptAll_mk {K : PySem.W.Frag} {h : Heap} {mg : Str → Option Value} {C : Addr} {ms : List (Str × Str × Stmt)} (X : K.In h) (G : h.Ns mainGlobals mg) (aC : PySem.W.nsIn K mainGlobals "Kept" = some (some (.ref C)))
    (pg : PySem.W.plainGet K C Str.empty = true) (hd : PySem.W.hasDictIn K C = true) (po : PySem.W.plainOver K C = true) (sa : PySem.W.findIn K (.ref C) "__setattr__" = some (some (.builtin "object.__setattr__"))) (mk : PySem.W.makesIn K C = true) (kc : PySem.W.keepIn K (.ref C) = true)
    (nC : PySem.W.findIn K (.ref C) "cards" = some none) (nS : PySem.W.findIn K (.ref C) "states" = some none) (ml : MethL K C ms) : KeptAllX X mg ms :=
  ⟨C, ⟨⟨pg, hd, po, sa⟩, nC, nS, PySem.W.mg_of X G aC⟩, mk, kc, ml⟩
theorem mdef_mk {P : Program} {w : World} {K : PySem.W.Frag} {mg : Str → Option Value} {base : Heap} {C : Addr} {m q : Str} {st : Stmt} {k : Nat} {ps : List Str} {sp : Sp} (F : ∃ f fd, Fun K m q st f fd ∧ Meth K C m f) (ok : ∀ f fd, Fun K m q st f fd → FnOk P w K mg base CX0 k f fd ps sp)
    (h : ∀ (kV doc pm : Value) (an : Option Addr) (cdv ct : Value) (us : List Value), us.length = ps.length → bindArgs (PySem.W.fnOf m q (defArgs st) (defBody st) (defScope st) .none kV doc pm an cdv ct) ⟨us, []⟩ = pure (ps.zip us)) : MDef P w K mg base C m k ps sp := by
  obtain ⟨f, fd, F, m⟩ := F
  exact ⟨f, fd, ok f fd F, m, F.binds h⟩
theorem kmk_mk {P : Program} {w : World} {K : PySem.W.Frag} {mg : Str → Option Value} {base : Heap} {C : Addr} {q : Str} {st : Stmt} {k : Nat} {ps : List Str} {sp : Sp} (mk : PySem.W.makesIn K C = true) (kc : PySem.W.keepIn K (.ref C) = true) (F : ∃ f fd, Fun K "__init__" q st f fd ∧ Meth K C "__init__" f) (ok : ∀ f fd, Fun K "__init__" q st f fd → FnOk P w K mg base CX0 k f fd ps sp)
    (h : ∀ (kV doc pm : Value) (an : Option Addr) (cdv ct : Value) (us : List Value), us.length = ps.length → bindArgs (PySem.W.fnOf "__init__" q (defArgs st) (defBody st) (defScope st) .none kV doc pm an cdv ct) ⟨us, []⟩ = pure (ps.zip us)) : KMk P w K mg base C k ps sp := by
  obtain ⟨f, fd, F, m⟩ := F
  exact ⟨f, fd, ⟨mk, m.at_, m.fn, kc⟩, ok f fd F, F.binds h⟩
end FR
namespace FR
open PySem PySem.Spec PyProof.Rows L2
theorem smallM {n : Nat} (h : n ≤ 1000000) : n < sizeLine := Nat.lt_of_le_of_lt h (by decide)
end FR
namespace FR
open PySem PySem.Spec PyProof.Rows L2
/-- a while whose measure the invariant tells -/
theorem while_m {c : TT} {tb : TS} {D : Ends} {σ : L2.St} {H : Hp} (Pv : Nat → L2.St → Hp → Prop) (m0 : Nat) (h0 : Pv m0 σ H)
    (hs : ∀ m σ H, Pv m σ H → c σ H fun b H1 => if b = true then tb { D with nx := fun σ' H' => ∃ m', m' < m ∧ Pv m' σ' H', ct := fun σ' H' => ∃ m', m' < m ∧ Pv m' σ' H', bk := D.nx } σ H1 else D.nx σ H1)
    (mono : ∀ σ H Q Q', (∀ b H1, Q b H1 → Q' b H1) → c σ H Q → c σ H Q') : tWhile c tb D σ H := by
  refine ⟨Pv, ⟨m0, h0⟩, ?_⟩
  intro m σ H p
  refine mono σ H _ _ (fun b H1 q => ?_) (hs m σ H p)
  cases b with
  | true => exact ⟨_, fun σ' H' h => h, q⟩
  | false => exact q
theorem But.sqT {K : PySem.W.Frag} {sA a : Addr} {H H' : Hp} {xs : List V} (b : But sA H H') (n : a ≠ sA) (h : SqT K H a xs) : SqT K H' a xs := by
  rcases h with (h | ⟨o, h⟩) | h
  · exact .inl (.inl (b _ _ h n))
  · exact .inl (.inr ⟨o, b _ _ h n⟩)
  · exact .inr h
end FR
namespace FR
open PySem PySem.Spec PyProof.Rows L2
theorem viaP (R : Hp → Prop) {G : Hp → Prop} {P : Prop} (main : (∀ H', R H' → G H') → P) (rest : ∀ H', R H' → G H') : P := main rest
theorem same_made {H : Hp} {x dx C : Addr} (nx : H x = none) (nd : H dx = none) : Same H (upd (upd H dx (.own x)) x (.ins C dx [])) := fun b o e => by
  rw [upd_ne (ne_of_none e nx), upd_ne (ne_of_none e nd)]
  exact e
theorem KeptAt.but {C : Addr} {K : PySem.W.Frag} {H H' : Hp} {x sA sB : Addr} {cs : List Int} {ks : List KS} {ys : List V} (h : KeptAt C K H x sA cs ks) (b : But sB H H') (n : sA ≠ sB) (e : H sB = some (.lst ys)) : KeptAt C K H' x sA cs ks := by
  have tp : ∀ {a : Addr} {xs : List V}, SqT K H a xs → SqT K H' a xs := fun {a xs} h => by
    rcases h with (h | ⟨ob, h⟩) | h
    · exact .inl (.inl (b _ _ h (ne_of h e (fun z => nomatch z))))
    · exact .inl (.inr ⟨ob, b _ _ h (ne_of h e (fun z => nomatch z))⟩)
    · exact .inr h
  obtain ⟨⟨dx, cA, h1, h2⟩, ts, h3, h4⟩ := h
  refine ⟨⟨dx, cA, b _ _ h1 (ne_of h1 e (fun z => nomatch z)), tp h2⟩, ts, b _ _ h3 n, ?_⟩
  clear h3
  induction h4 with
  | nil => exact .nil
  | cons g1 g2 _ ih =>
    obtain ⟨z, g3, g4⟩ := g2
    exact .cons (tp g1) ⟨z, tp g3, tp g4⟩ ih
theorem KeptAt.lst {C : Addr} {K : PySem.W.Frag} {H : Hp} {x sA : Addr} {cs : List Int} {ks : List KS} (h : KeptAt C K H x sA cs ks) : ∃ ys, H sA = some (.lst ys) := by
  obtain ⟨_, ts, h3, _⟩ := h
  exact ⟨_, h3⟩
end FR
namespace FR
open PySem PySem.Spec PyProof.Rows L2
def topS (i : Nat) : Stmt := PySem.Challenge.pw_freerides_k13_whole_loans_in_a_purse_kep.main.body.getD i (.Pass ⟨0, 0, 0, 0⟩)
/-! ### _law_draws -/
abbrev s_l_draws : Stmt := topS 44
theorem sc_l_draws : FnScope ["cell", "many", "size", "found", "rest", "stirred", "k"] ["cell", "many", "size"] (defScope s_l_draws) := ⟨rfl, rfl, rfl, by decide +kernel, rfl, by decide +kernel, by decide +kernel⟩
def sp_l_draws (K : PySem.W.Frag) : Sp := fun vs H Q E => ∃ (cell : Int), vs = [.int cell, .int 400, .int 1000] ∧ ∀ (p : Addr) (ds : List Int) (H' : Hp), Kp H H' → H p = none → H' p = some (.lst (ds.map V.int)) → ds.length = 400 → (∀ x ∈ ds, (0 : Int) ≤ x ∧ x < 1000) → Q (.ref p) H'
/-! ### _law_cell_at -/
abbrev s_l_cell_at : Stmt := topS 43
theorem sc_l_cell_at : FnScope ["script", "k"] ["script", "k"] (defScope s_l_cell_at) := ⟨rfl, rfl, rfl, by decide +kernel, rfl, by decide +kernel, by decide +kernel⟩
def sp_l_cell_at (K : PySem.W.Frag) : Sp := fun vs H Q E => ∃ (a : Addr) (ns : List Int) (k : Int), vs = [.ref a, .int k] ∧ SqL K H a (ns.map V.int) ∧ 0 ≤ k ∧ ∀ v, Q (.int v) H
/-! ### _law_bag -/
abbrev s_l_bag : Stmt := topS 45
theorem sc_l_bag : FnScope ["script", "k"] ["script", "k"] (defScope s_l_bag) := ⟨rfl, rfl, rfl, by decide +kernel, rfl, by decide +kernel, by decide +kernel⟩
def sp_l_bag (K : PySem.W.Frag) : Sp := fun vs H Q E => ∃ (a : Addr) (ns : List Int) (k : Int), vs = [.ref a, .int k] ∧ SqL K H a (ns.map V.int) ∧ 0 ≤ k ∧ ∀ (p : Addr) (H' : Hp), Kp H H' → Bag H' p → H p = none → Q (.ref p) H'
/-! ### _law_bags -/
abbrev s_l_bags : Stmt := topS 46
theorem sc_l_bags : FnScope ["script", "limit", "k"] ["script", "limit"] (defScope s_l_bags) := ⟨rfl, rfl, rfl, by decide +kernel, rfl, by decide +kernel, by decide +kernel⟩
def sp_l_bags (K : PySem.W.Frag) : Sp := fun vs H Q E => ∃ (a : Addr) (ns : List Int) (m : Int), vs = [.ref a, .int m] ∧ SqL K H a (ns.map V.int) ∧ ns.length ≤ 63 ∧ 0 < m ∧ m ≤ 1000 ∧ ∀ (p : Addr) (bs : List Addr) (H' : Hp), Kp H H' → H p = none → H' p = some (.lst (bs.map V.ref)) → bs.length ≤ 1000 → (∀ b ∈ bs, Bag H' b) → Q (.ref p) H'
/-! ### _law_take -/
abbrev s_l_take : Stmt := topS 47
theorem sc_l_take : FnScope ["bag", "many"] ["bag", "many"] (defScope s_l_take) := ⟨rfl, rfl, rfl, by decide +kernel, rfl, by decide +kernel, by decide +kernel⟩
def sp_l_take (K : PySem.W.Frag) : Sp := fun vs H Q E => ∃ (b : Addr) (m : Int), vs = [.ref b, .int m] ∧ Bag H b ∧ 0 < m ∧ ∀ (r : Int) (H' : Hp), 0 ≤ r → r < m → Kp H H' → Q (.int r) H'
/-! ### _law_kinds -/
abbrev s_l_kinds : Stmt := topS 49
theorem sc_l_kinds : FnScope ["bag", "far", "found", "turn"] ["bag", "far"] (defScope s_l_kinds) := ⟨rfl, rfl, rfl, by decide +kernel, rfl, by decide +kernel, by decide +kernel⟩
def sp_l_kinds (K : PySem.W.Frag) : Sp := fun vs H Q E => ∃ (b : Addr) (fr : Int), vs = [.ref b, .int fr] ∧ Bag H b ∧ 2 ≤ fr ∧ ∀ (p : Addr) (cs : List Int) (H' : Hp), Kp H H' → H' p = some (.tup (cs.map V.int)) → 1 ≤ cs.length → cs.length ≤ 3 → (∀ c ∈ cs, 2 ≤ c ∧ c ≤ fr) → Q (.ref p) H'
/-! ### _law_far_draw -/
abbrev s_l_far_draw : Stmt := topS 48
theorem sc_l_far_draw : FnScope ["bag", "many", "found", "much"] ["bag", "many"] (defScope s_l_far_draw) := ⟨rfl, rfl, rfl, by decide +kernel, rfl, by decide +kernel, by decide +kernel⟩
def sp_l_far_draw (K : PySem.W.Frag) : Sp := fun vs H Q E => ∃ (b : Addr) (m : Int), vs = [.ref b, .int m] ∧ Bag H b ∧ 0 < m ∧ ∀ (r : Int) (H' : Hp), 0 ≤ r → r < m → Kp H H' → Q (.int r) H'
/-! ### _law_stamps_for -/
abbrev s_l_stamps_for : Stmt := topS 50
theorem sc_l_stamps_for : FnScope ["bag", "kinds", "far", "one"] ["bag", "kinds", "far"] (defScope s_l_stamps_for) := ⟨rfl, rfl, rfl, by decide +kernel, rfl, by decide +kernel, by decide +kernel⟩
def sp_l_stamps_for (K : PySem.W.Frag) : Sp := fun vs H Q E => ∃ (b kA : Addr) (cs : List Int) (fr : Int), vs = [.ref b, .ref kA, .int fr] ∧ Bag H b ∧ SqT K H kA (cs.map V.int) ∧ cs.length ≤ 3 ∧ 0 ≤ fr ∧ ∀ (p : Addr) (ss : List Int) (H' : Hp), Kp H H' → H' p = some (.tup (ss.map V.int)) → ss.length = cs.length → (∀ x ∈ ss, 0 ≤ x ∧ x ≤ fr) → Q (.ref p) H'
/-! ### _law_had -/
abbrev s_l_had : Stmt := topS 51
theorem sc_l_had : FnScope ["bag", "kinds", "far"] ["bag", "kinds", "far"] (defScope s_l_had) := ⟨rfl, rfl, rfl, by decide +kernel, rfl, by decide +kernel, by decide +kernel⟩
def sp_l_had (K : PySem.W.Frag) : Sp := fun vs H Q E => ∃ (b kA : Addr) (cs : List Int) (fr : Int), vs = [.ref b, .ref kA, .int fr] ∧ Bag H b ∧ SqT K H kA (cs.map V.int) ∧ cs.length ≤ 3 ∧ 0 ≤ fr ∧ ∀ (p sA : Addr) (r : Int) (ss : List Int) (H' : Hp), Kp H H' → H' p = some (.tup [.int r, .ref sA]) → H' sA = some (.tup (ss.map V.int)) → 0 ≤ r → r ≤ fr → ss.length = cs.length → (∀ x ∈ ss, 0 ≤ x ∧ x ≤ fr) → Q (.ref p) H'
/-! ### is_within -/
abbrev s_p_is_within : Stmt := topS 16
theorem sc_p_is_within : FnScope ["thing", "least", "most"] ["thing", "least", "most"] (defScope s_p_is_within) := ⟨rfl, rfl, rfl, by decide +kernel, rfl, by decide +kernel, by decide +kernel⟩
def sp_p_is_within (K : PySem.W.Frag) : Sp := fun vs H Q E => ∃ (x : V) (d : PyData) (lo hi : Int), vs = [x, .int lo, .int hi] ∧ Dp K H x d ∧ Q (.bl (withinD lo hi d)) H
/-! ### are_cards -/
abbrev s_p_are_cards : Stmt := topS 17
theorem sc_p_are_cards : FnScope ["thing", "full"] ["thing"] (defScope s_p_are_cards) := ⟨rfl, rfl, rfl, by decide +kernel, rfl, by decide +kernel, by decide +kernel⟩
def sp_p_are_cards (K : PySem.W.Frag) : Sp := fun vs H Q E => ∃ (x : V) (d : PyData), vs = [x] ∧ Dp K H x d ∧ ∀ H', Same H H' → Q (.bl (cardsD d)) H'
/-! ### refuse_no_cards -/
abbrev s_p_refuse_no_cards : Stmt := topS 21
theorem sc_p_refuse_no_cards : FnScope ["thing"] ["thing"] (defScope s_p_refuse_no_cards) := ⟨rfl, rfl, rfl, by decide +kernel, rfl, by decide +kernel, by decide +kernel⟩
def sp_p_refuse_no_cards (K : PySem.W.Frag) : Sp := fun vs H Q E => ∃ (x : V) (d : PyData), vs = [x] ∧ Dp K H x d ∧ cardsD d = true ∧ ∀ H', Same H H' → Q .non H'
/-! ### are_stamps -/
abbrev s_p_are_stamps : Stmt := topS 18
theorem sc_p_are_stamps : FnScope ["cards", "thing", "many"] ["cards", "thing"] (defScope s_p_are_stamps) := ⟨rfl, rfl, rfl, by decide +kernel, rfl, by decide +kernel, by decide +kernel⟩
def sp_p_are_stamps (K : PySem.W.Frag) : Sp := fun vs H Q E => ∃ (cA : Addr) (cs : List V) (x : V) (d : PyData), vs = [.ref cA, x] ∧ SqT K H cA cs ∧ cs.length ≤ 3 ∧ Dp K H x d ∧ ∀ H', Same H H' → Q (.bl (stampsD cs.length d)) H'
/-! ### purse_fits -/
abbrev s_p_purse_fits : Stmt := topS 19
theorem sc_p_purse_fits : FnScope ["cards", "thing", "rides", "stamps"] ["cards", "thing"] (defScope s_p_purse_fits) := ⟨rfl, rfl, rfl, by decide +kernel, rfl, by decide +kernel, by decide +kernel⟩
def sp_p_purse_fits (K : PySem.W.Frag) : Sp := fun vs H Q E => ∃ (cA : Addr) (cs : List V) (x : V) (d : PyData), vs = [.ref cA, x] ∧ SqT K H cA cs ∧ cs.length ≤ 3 ∧ Dp K H x d ∧ ∀ H', Same H H' → Q (.bl (purseD cs.length d)) H'
/-! ### refuse_no_purse -/
abbrev s_p_refuse_no_purse : Stmt := topS 22
theorem sc_p_refuse_no_purse : FnScope ["cards", "thing"] ["cards", "thing"] (defScope s_p_refuse_no_purse) := ⟨rfl, rfl, rfl, by decide +kernel, rfl, by decide +kernel, by decide +kernel⟩
def sp_p_refuse_no_purse (K : PySem.W.Frag) : Sp := fun vs H Q E => ∃ (cA : Addr) (cs : List V) (x : V) (d : PyData), vs = [.ref cA, x] ∧ SqT K H cA cs ∧ cs.length ≤ 3 ∧ Dp K H x d ∧ purseD cs.length d = true ∧ ∀ H', Same H H' → Q .non H'
/-! ### refuse_no_number -/
abbrev s_p_refuse_no_number : Stmt := topS 24
theorem sc_p_refuse_no_number : FnScope ["thing", "least"] ["thing", "least"] (defScope s_p_refuse_no_number) := ⟨rfl, rfl, rfl, by decide +kernel, rfl, by decide +kernel, by decide +kernel⟩
def sp_p_refuse_no_number (K : PySem.W.Frag) : Sp := fun vs H Q E => ∃ (x : V) (d : PyData) (lo : Int), vs = [x, .int lo] ∧ Dp K H x d ∧ withinD lo 1000000000000000000 d = true ∧ Q .non H
/-! ### full_cards -/
abbrev s_p_full_cards : Stmt := topS 29
theorem sc_p_full_cards : FnScope ["cards", "stamps", "ridden", "full", "many"] ["cards", "stamps", "ridden"] (defScope s_p_full_cards) := ⟨rfl, rfl, rfl, by decide +kernel, rfl, by decide +kernel, by decide +kernel⟩
def sp_p_full_cards (K : PySem.W.Frag) : Sp := fun vs H Q E => ∃ (cA sA : Addr) (cs ss : List Int) (n : Int), vs = [.ref cA, .ref sA, .int n] ∧ SqT K H cA (cs.map V.int) ∧ SqT K H sA (ss.map V.int) ∧ cs.length = ss.length ∧ Cards cs ∧ ∀ H', Same H H' → Q (.int (fc cs ss n)) H'
/-! ### pays_back -/
abbrev s_p_pays_back : Stmt := topS 39
theorem sc_p_pays_back : FnScope ["cards", "purse", "number", "rides", "stamps"] ["cards", "purse", "number"] (defScope s_p_pays_back) := ⟨rfl, rfl, rfl, by decide +kernel, rfl, by decide +kernel, by decide +kernel⟩
def sp_p_pays_back (K : PySem.W.Frag) : Sp := fun vs H Q E => ∃ (cA pA : Addr) (cs : List Int) (r : Int) (ss : List Int) (n : Int), vs = [.ref cA, .ref pA, .int n] ∧ SqT K H cA (cs.map V.int) ∧ Purse K H pA r ss ∧ Cards cs ∧ cs.length = ss.length ∧ ∀ H', Same H H' → Q (.bl (decide (n ≤ r + fc cs ss n))) H'
/-! ### refuse_no_stamps -/
abbrev s_p_refuse_no_stamps : Stmt := topS 23
theorem sc_p_refuse_no_stamps : FnScope ["cards", "thing"] ["cards", "thing"] (defScope s_p_refuse_no_stamps) := ⟨rfl, rfl, rfl, by decide +kernel, rfl, by decide +kernel, by decide +kernel⟩
def sp_p_refuse_no_stamps (K : PySem.W.Frag) : Sp := fun vs H Q E => ∃ (cA : Addr) (cs : List V) (x : V) (d : PyData), vs = [.ref cA, x] ∧ SqT K H cA cs ∧ cs.length ≤ 3 ∧ Dp K H x d ∧ stampsD cs.length d = true ∧ ∀ H', Same H H' → Q .non H'
/-! ### period_of -/
abbrev s_p_period_of : Stmt := topS 28
theorem sc_p_period_of : FnScope ["cards", "period", "full", "step"] ["cards"] (defScope s_p_period_of) := ⟨rfl, rfl, rfl, by decide +kernel, rfl, by decide +kernel, by decide +kernel⟩
def sp_p_period_of (K : PySem.W.Frag) : Sp := fun vs H Q E => ∃ (cA : Addr) (cs : List Int), vs = [.ref cA] ∧ SqT K H cA (cs.map V.int) ∧ Cards cs ∧ Q (.int (perOf cs)) H
/-! ### period_pays -/
abbrev s_p_period_pays : Stmt := topS 30
theorem sc_p_period_pays : FnScope ["cards", "period", "full"] ["cards"] (defScope s_p_period_pays) := ⟨rfl, rfl, rfl, by decide +kernel, rfl, by decide +kernel, by decide +kernel⟩
def sp_p_period_pays (K : PySem.W.Frag) : Sp := fun vs H Q E => ∃ (cA : Addr) (cs : List Int), vs = [.ref cA] ∧ SqT K H cA (cs.map V.int) ∧ Cards cs ∧ ∀ b H', Same H H' → (b = true ↔ perOf cs ≤ pq (perOf cs) cs) → Q (.bl b) H'
/-! ### rides_wanted -/
abbrev s_p_rides_wanted : Stmt := topS 32
theorem sc_p_rides_wanted : FnScope ["cards", "stamps", "first", "end", "wanted", "ridden"] ["cards", "stamps", "first", "end"] (defScope s_p_rides_wanted) := ⟨rfl, rfl, rfl, by decide +kernel, rfl, by decide +kernel, by decide +kernel⟩
def sp_p_rides_wanted (K : PySem.W.Frag) : Sp := fun vs H Q E => ∃ (cA sA : Addr) (cs ss : List Int) (lo hi : Int), vs = [.ref cA, .ref sA, .int lo, .int hi] ∧ SqT K H cA (cs.map V.int) ∧ SqT K H sA (ss.map V.int) ∧ cs.length = ss.length ∧ Cards cs ∧ 0 ≤ lo ∧ lo ≤ hi ∧ hi ≤ 1000000000000000000 ∧ ∀ v H', Same H H' → Want cs ss lo hi v → Q (.int v) H'
/-! ### least_rides -/
abbrev s_p_least_rides : Stmt := topS 35
theorem sc_p_least_rides : FnScope ["cards", "stamps", "number", "period"] ["cards", "stamps", "number"] (defScope s_p_least_rides) := ⟨rfl, rfl, rfl, by decide +kernel, rfl, by decide +kernel, by decide +kernel⟩
def sp_p_least_rides (K : PySem.W.Frag) : Sp := fun vs H Q E => ∃ (cA sA : Addr) (cs ss : List Int) (n : Int), vs = [.ref cA, .ref sA, .int n] ∧ SqT K H cA (cs.map V.int) ∧ SqT K H sA (ss.map V.int) ∧ Cards cs ∧ Stamps cs.length ss ∧ 0 ≤ n ∧ n ≤ 1000000000000000000 ∧ ∀ v H', Same H H' → Want cs ss 0 n v → Q (.int v) H'
/-! ### least_loan -/
abbrev s_p_least_loan : Stmt := topS 41
theorem sc_p_least_loan : FnScope ["cards", "purse", "number", "rides", "stamps"] ["cards", "purse", "number"] (defScope s_p_least_loan) := ⟨rfl, rfl, rfl, by decide +kernel, rfl, by decide +kernel, by decide +kernel⟩
def LoanV (cs : List Int) (r : Int) (ss : List Int) (n : Int) (v : V) : Prop := (v = .non ∧ ¬ CanN cs r ss n) ∨ ∃ w, v = .int (loanOf w r) ∧ Want cs ss 0 n w ∧ CanN cs r ss n

def sp_p_least_loan (K : PySem.W.Frag) : Sp := fun vs H Q E => ∃ (cA pA : Addr) (cs : List Int) (r : Int) (ss : List Int) (n : Int), vs = [.ref cA, .ref pA, .int n] ∧ SqT K H cA (cs.map V.int) ∧ Purse K H pA r ss ∧ Cards cs ∧ Stamps cs.length ss ∧ 0 ≤ r ∧ r ≤ 1000000000000000000 ∧ 0 ≤ n ∧ n ≤ 1000000000000000000 ∧ ∀ v H', Same H H' → LoanV cs r ss n v → Q v H'
/-! ### can_have -/
abbrev s_p_can_have : Stmt := topS 40
theorem sc_p_can_have : FnScope ["cards", "purse", "number"] ["cards", "purse", "number"] (defScope s_p_can_have) := ⟨rfl, rfl, rfl, by decide +kernel, rfl, by decide +kernel, by decide +kernel⟩
def sp_p_can_have (K : PySem.W.Frag) : Sp := fun vs H Q E => ∃ (cA pA : Addr) (cs : List Int) (r : Int) (ss : List Int) (n : Int), vs = [.ref cA, .ref pA, .int n] ∧ SqT K H cA (cs.map V.int) ∧ Purse K H pA r ss ∧ Cards cs ∧ Stamps cs.length ss ∧ 0 ≤ r ∧ r ≤ 1000000000000000000 ∧ 0 ≤ n ∧ n ≤ 1000000000000000000 ∧ ∀ H', Same H H' → Q (.bl (decide (n ≤ r + fc cs ss n))) H'
/-! ### Kept.__init__ -/
abbrev s_m_init : Stmt := inClass (topS 37) 0
theorem sc_m_init : FnScope ["self", "cards", "purse"] ["self", "cards", "purse"] (defScope s_m_init) := ⟨rfl, rfl, rfl, by decide +kernel, rfl, by decide +kernel, by decide +kernel⟩
def sp_m_init (K : PySem.W.Frag) (C : Addr) : Sp := fun vs H Q E => ∃ (x dx cA pA : Addr) (cs : List Int) (r : Int) (ss : List Int), vs = [.ref x, .ref cA, .ref pA] ∧ H x = some (.ins C dx []) ∧ SqT K H cA (cs.map V.int) ∧ Purse K H pA r ss ∧ Cards cs ∧ Stamps cs.length ss ∧ 0 ≤ r ∧ r ≤ 1000000000000000000 ∧ ∀ sA H', H sA = none → KeptAt C K H' x sA cs [⟨r, ss, 0, 0⟩] → (∀ b o, H b = some o → b ≠ x → H' b = some o) → Q .non H'
/-! ### Kept.lend -/
abbrev s_m_lend : Stmt := inClass (topS 37) 5
theorem sc_m_lend : FnScope ["self", "number", "rides", "stamps", "ridden", "lent"] ["self", "number"] (defScope s_m_lend) := ⟨rfl, rfl, rfl, by decide +kernel, rfl, by decide +kernel, by decide +kernel⟩
def sp_m_lend (K : PySem.W.Frag) (C : Addr) : Sp := fun vs H Q E => ∃ (x sA : Addr) (cs : List Int) (ks : List KS) (k : KS) (n : Int), vs = [.ref x, .int n] ∧ KeptAt C K H x sA cs (ks ++ [k]) ∧ 1 ≤ n ∧ n ≤ 1000000000000000000 ∧ ks.length ≤ 100000 ∧ ∀ H', But sA H H' → KeptAt C K H' x sA cs (ks ++ [k] ++ [⟨k.r + n, k.ss, k.rd, k.ln + n⟩]) → Q .non H'
/-! ### Kept.ridden -/
abbrev s_m_ridden : Stmt := inClass (topS 37) 9
theorem sc_m_ridden : FnScope ["self"] ["self"] (defScope s_m_ridden) := ⟨rfl, rfl, rfl, by decide +kernel, rfl, by decide +kernel, by decide +kernel⟩
def sp_m_ridden (K : PySem.W.Frag) (C : Addr) : Sp := fun vs H Q E => ∃ (x sA : Addr) (cs : List Int) (ks : List KS) (k : KS), vs = [.ref x] ∧ KeptAt C K H x sA cs (ks ++ [k]) ∧ Q (.int k.rd) H
/-! ### Kept.purse -/
abbrev s_m_purse : Stmt := inClass (topS 37) 8
theorem sc_m_purse : FnScope ["self"] ["self"] (defScope s_m_purse) := ⟨rfl, rfl, rfl, by decide +kernel, rfl, by decide +kernel, by decide +kernel⟩
def sp_m_purse (K : PySem.W.Frag) (C : Addr) : Sp := fun vs H Q E => ∃ (x sA : Addr) (cs : List Int) (ks : List KS) (k : KS), vs = [.ref x] ∧ KeptAt C K H x sA cs (ks ++ [k]) ∧ ∀ pA, Purse K H pA k.r k.ss → Q (.ref pA) H
/-! ### is_kind -/
abbrev s_p_is_kind : Stmt := topS 20
theorem sc_p_is_kind : FnScope ["cards", "thing"] ["cards", "thing"] (defScope s_p_is_kind) := ⟨rfl, rfl, rfl, by decide +kernel, rfl, by decide +kernel, by decide +kernel⟩
def sp_p_is_kind (K : PySem.W.Frag) : Sp := fun vs H Q E => ∃ (cA : Addr) (cs : List V) (x : V) (d : PyData), vs = [.ref cA, x] ∧ SqT K H cA cs ∧ Dp K H x d ∧ Q (.bl (withinD 0 ((cs.length : Int) - 1) d)) H
/-! ### after_giving -/
abbrev s_p_after_giving : Stmt := topS 26
theorem sc_p_after_giving : FnScope ["cards", "purse", "kind", "rides", "stamps", "fewer"] ["cards", "purse", "kind"] (defScope s_p_after_giving) := ⟨rfl, rfl, rfl, by decide +kernel, rfl, by decide +kernel, by decide +kernel⟩
def sp_p_after_giving (K : PySem.W.Frag) : Sp := fun vs H Q E => ∃ (cA pA : Addr) (cs : List Int) (x : Int) (zs : List Int) (i c z : Int), vs = [.ref cA, .ref pA, .int i] ∧ SqT K H cA (cs.map V.int) ∧ Purse K H pA x zs ∧ zs.length = cs.length ∧ cs.length ≤ 3 ∧ 0 ≤ i ∧ i < (cs.length : Int) ∧ cs[i.toNat]? = some c ∧ zs[i.toNat]? = some z ∧ (z < c → Q .non H) ∧ (c ≤ z → ∀ p s' H', Same H H' → H' p = some (.tup [.int (x + 1), .ref s']) → H' s' = some (.tup ((zs.set i.toNat (z - c)).map V.int)) → Q (.ref p) H')
/-! ### Kept.give -/
abbrev s_m_give : Stmt := inClass (topS 37) 4
theorem sc_m_give : FnScope ["self", "kind", "held", "ridden", "lent", "after"] ["self", "kind"] (defScope s_m_give) := ⟨rfl, rfl, rfl, by decide +kernel, rfl, by decide +kernel, by decide +kernel⟩
def sp_m_give (K : PySem.W.Frag) (C : Addr) : Sp := fun vs H Q E => ∃ (x sA : Addr) (cs : List Int) (ks : List KS) (k : KS) (i c z : Int), vs = [.ref x, .int i] ∧ KeptAt C K H x sA cs (ks ++ [k]) ∧ k.ss.length = cs.length ∧ cs.length ≤ 3 ∧ 0 ≤ i ∧ i < (cs.length : Int) ∧ cs[i.toNat]? = some c ∧ k.ss[i.toNat]? = some z ∧ c ≤ z ∧ ks.length ≤ 100000 ∧ ∀ H', But sA H H' → KeptAt C K H' x sA cs (ks ++ [k] ++ [⟨k.r + 1, k.ss.set i.toNat (z - c), k.rd, k.ln⟩]) → Q .non H'
/-! ### _law_cash -/
abbrev s_l_cash : Stmt := topS 52
theorem sc_l_cash : FnScope ["kept", "kinds", "kind", "many"] ["kept", "kinds"] (defScope s_l_cash) := ⟨rfl, rfl, rfl, by decide +kernel, rfl, by decide +kernel, by decide +kernel⟩
def sp_l_cash (K : PySem.W.Frag) (C : Addr) : Sp := fun vs H Q E => ∃ (x sA kA : Addr) (cs : List Int) (ks : List KS) (k : KS) (ss : List Int) (m G : Int), vs = [.ref x, .ref kA] ∧ KeptAt C K H x sA cs (ks ++ [k]) ∧ SqT K H kA (cs.map V.int) ∧ kA ≠ sA ∧ Cards cs ∧ Gone cs ss k.ss m G ∧ (ks.length : Int) + fc cs ss m - G ≤ 10000 ∧ ∀ H' ks', But sA H H' → KeptAt C K H' x sA cs (ks' ++ [⟨k.r + (fc cs ss m - G), lf cs ss m, k.rd, k.ln⟩]) → (ks'.length : Int) = ks.length + (fc cs ss m - G) → Q .non H'
/-! ### after_ride -/
abbrev s_p_after_ride : Stmt := topS 25
theorem sc_p_after_ride : FnScope ["purse", "rides", "stamps", "many"] ["purse"] (defScope s_p_after_ride) := ⟨rfl, rfl, rfl, by decide +kernel, rfl, by decide +kernel, by decide +kernel⟩
def sp_p_after_ride (K : PySem.W.Frag) : Sp := fun vs H Q E => ∃ (pA : Addr) (x : Int) (zs : List Int), vs = [.ref pA] ∧ Purse K H pA x zs ∧ zs.length ≤ 3 ∧ (¬ 0 < x → Q .non H) ∧ (0 < x → ∀ p s' H', Same H H' → H' p = some (.tup [.int (x - 1), .ref s']) → H' s' = some (.tup ((zs.map (· + 1)).map V.int)) → Q (.ref p) H')
/-! ### Kept.ride -/
abbrev s_m_ride : Stmt := inClass (topS 37) 3
theorem sc_m_ride : FnScope ["self", "held", "ridden", "lent", "after"] ["self"] (defScope s_m_ride) := ⟨rfl, rfl, rfl, by decide +kernel, rfl, by decide +kernel, by decide +kernel⟩
def sp_m_ride (K : PySem.W.Frag) (C : Addr) : Sp := fun vs H Q E => ∃ (x sA : Addr) (cs : List Int) (ks : List KS) (k : KS), vs = [.ref x] ∧ KeptAt C K H x sA cs (ks ++ [k]) ∧ k.ss.length ≤ 3 ∧ 0 < k.r ∧ ks.length ≤ 100000 ∧ ∀ H', But sA H H' → KeptAt C K H' x sA cs (ks ++ [k] ++ [⟨k.r - 1, k.ss.map (· + 1), k.rd + 1, k.ln⟩]) → Q .non H'
/-! ### _law_rides -/
abbrev s_l_rides : Stmt := topS 53
theorem sc_l_rides : FnScope ["kept", "kinds", "rides", "turn"] ["kept", "kinds", "rides"] (defScope s_l_rides) := ⟨rfl, rfl, rfl, by decide +kernel, rfl, by decide +kernel, by decide +kernel⟩
def sp_l_rides (K : PySem.W.Frag) (C : Addr) : Sp := fun vs H Q E => ∃ (x sA kA : Addr) (cs : List Int) (ks : List KS) (k : KS) (n : Int), vs = [.ref x, .ref kA, .int n] ∧ KeptAt C K H x sA cs (ks ++ [k]) ∧ SqT K H kA (cs.map V.int) ∧ kA ≠ sA ∧ Cards cs ∧ k.ss.length = cs.length ∧ (∀ y ∈ k.ss, (0 : Int) ≤ y) ∧ 0 ≤ k.r ∧ 0 ≤ n ∧ n ≤ 1000 ∧ (ks.length : Int) + fc cs k.ss n + n ≤ 9000 ∧ ∀ b H', But sA H H' → (b = true ↔ ∀ m, 0 ≤ m → m < n → m < k.r + fc cs k.ss m) → (b = true → ∃ ks', (ks'.length : Int) ≤ ks.length + fc cs k.ss n + n ∧ KeptAt C K H' x sA cs (ks' ++ [⟨k.r + fc cs k.ss n - n, lf cs k.ss n, k.rd + n, k.ln⟩])) → Q (.bl b) H'
/-! ### Kept.pay -/
abbrev s_m_pay : Stmt := inClass (topS 37) 6
theorem sc_m_pay : FnScope ["self", "number", "rides", "stamps", "ridden", "lent"] ["self", "number"] (defScope s_m_pay) := ⟨rfl, rfl, rfl, by decide +kernel, rfl, by decide +kernel, by decide +kernel⟩
def sp_m_pay (K : PySem.W.Frag) (C : Addr) : Sp := fun vs H Q E => ∃ (x sA : Addr) (cs : List Int) (ks : List KS) (k : KS) (n : Int), vs = [.ref x, .int n] ∧ KeptAt C K H x sA cs (ks ++ [k]) ∧ 1 ≤ n ∧ n ≤ 1000000000000000000 ∧ n ≤ k.ln ∧ n ≤ k.r ∧ ks.length ≤ 100000 ∧ ∀ H', But sA H H' → KeptAt C K H' x sA cs (ks ++ [k] ++ [⟨k.r - n, k.ss, k.rd, k.ln - n⟩]) → Q .non H'
/-! ### Kept.lent -/
abbrev s_m_lent : Stmt := inClass (topS 37) 10
theorem sc_m_lent : FnScope ["self"] ["self"] (defScope s_m_lent) := ⟨rfl, rfl, rfl, by decide +kernel, rfl, by decide +kernel, by decide +kernel⟩
def sp_m_lent (K : PySem.W.Frag) (C : Addr) : Sp := fun vs H Q E => ∃ (x sA : Addr) (cs : List Int) (ks : List KS) (k : KS), vs = [.ref x] ∧ KeptAt C K H x sA cs (ks ++ [k]) ∧ Q (.int k.ln) H
/-! ### rides_in_all -/
abbrev s_p_rides_in_all : Stmt := topS 31
theorem sc_p_rides_in_all : FnScope ["cards", "purse", "rides", "stamps", "pays", "period", "had", "paid"] ["cards", "purse"] (defScope s_p_rides_in_all) := ⟨rfl, rfl, rfl, by decide +kernel, rfl, by decide +kernel, by decide +kernel⟩
def sp_p_rides_in_all (K : PySem.W.Frag) : Sp := fun vs H Q E => ∃ (cA pA : Addr) (cs : List Int) (r : Int) (ss : List Int), vs = [.ref cA, .ref pA] ∧ SqT K H cA (cs.map V.int) ∧ Purse K H pA r ss ∧ Cards cs ∧ (ss.length = cs.length ∧ ∀ x ∈ ss, (0 : Int) ≤ x) ∧ 0 ≤ r ∧ ∀ v H', Same H H' → ToldV cs r ss v → Q v H'
/-! ### all_rides -/
abbrev s_p_all_rides : Stmt := topS 33
theorem sc_p_all_rides : FnScope ["cards", "purse"] ["cards", "purse"] (defScope s_p_all_rides) := ⟨rfl, rfl, rfl, by decide +kernel, rfl, by decide +kernel, by decide +kernel⟩
def sp_p_all_rides (K : PySem.W.Frag) : Sp := fun vs H Q E => ∃ (cA pA : Addr) (cs : List Int) (r : Int) (ss : List Int), vs = [.ref cA, .ref pA] ∧ SqT K H cA (cs.map V.int) ∧ Purse K H pA r ss ∧ Cards cs ∧ Stamps cs.length ss ∧ 0 ≤ r ∧ r ≤ 1000000000000000000 ∧ ∀ v H', Same H H' → ToldV cs r ss v → Q v H'
/-! ### Kept.still -/
abbrev s_m_still : Stmt := inClass (topS 37) 11
theorem sc_m_still : FnScope ["self"] ["self"] (defScope s_m_still) := ⟨rfl, rfl, rfl, by decide +kernel, rfl, by decide +kernel, by decide +kernel⟩
def sp_m_still (K : PySem.W.Frag) (C : Addr) : Sp := fun vs H Q E => ∃ (x sA : Addr) (cs : List Int) (ks : List KS) (k : KS), vs = [.ref x] ∧ KeptAt C K H x sA cs (ks ++ [k]) ∧ Cards cs ∧ k.ss.length = cs.length ∧ (∀ y ∈ k.ss, (0 : Int) ≤ y) ∧ 0 ≤ k.r ∧ ∀ v H', Same H H' → ToldV cs k.r k.ss v → Q v H'
/-! ### left -/
abbrev s_p_left : Stmt := topS 34
theorem sc_p_left : FnScope ["cards", "purse", "had", "full", "many"] ["cards", "purse"] (defScope s_p_left) := ⟨rfl, rfl, rfl, by decide +kernel, rfl, by decide +kernel, by decide +kernel⟩
def sp_p_left (K : PySem.W.Frag) : Sp := fun vs H Q E => ∃ (cA pA : Addr) (cs : List Int) (r : Int) (ss : List Int), vs = [.ref cA, .ref pA] ∧ SqT K H cA (cs.map V.int) ∧ Purse K H pA r ss ∧ Cards cs ∧ Stamps cs.length ss ∧ 0 ≤ r ∧ r ≤ 1000000000000000000 ∧ ∀ v H', Same H H' → LeftV cs r ss v H' → Q v H'
/-! ### law -/
abbrev s_l_law : Stmt := topS 54
theorem sc_l_law : FnScope ["script", "bag", "kinds", "had", "turn", "number", "loan", "kept", "fewer", "told"] ["script"] (defScope s_l_law) := ⟨rfl, rfl, rfl, by decide +kernel, rfl, by decide +kernel, by decide +kernel⟩
def sp_l_law (K : PySem.W.Frag) : Sp := fun vs H Q E => ∃ (a : Addr) (ns : List Int), vs = [.ref a] ∧ SqL K H a (ns.map V.int) ∧ ns.length ≤ 63 ∧ ∀ H', Q (.bl true) H'
set_option maxHeartbeats 4000000 in
theorem ok_l_draws {P : Program} {w : World} {K : PySem.W.Frag} {mg : Str → Option Value} {base : Heap} {f : Addr} {fd : FuncData} (F : Fun K "_law_draws" "_law_draws" s_l_draws f fd) (b_int : mg "int" = none) (b_range : mg "range" = none) :
    FnOk P w K mg base CX0 1 f fd ["cell", "many", "size"] (sp_l_draws K) := by
  refine F.ok sc_l_draws (fun vs H Q E h => ?_) (fun cdv A outer s H vs Q E hr h => ?_)
  · obtain ⟨cell, rfl, q⟩ := h
    rfl
  obtain ⟨cell, rfl, q⟩ := h
  refine ⟨_, (pss_cons (ps_set (i := 3) sc_l_draws.nd rfl (Or.inl rfl) (pe_lst pa_nil))
        (pss_cons (ps_set (i := 4) sc_l_draws.nd rfl (Or.inl rfl) (pe_op op_mul (pv 0) (pe_callTy call_int1 (by rfl) b_int PyProof.Rows.boot_int (pa_cons (pe_cmpR op_ge (pv 0) (pe_op op_pow pe_int pe_int) (nomark _)) pa_nil))))
        (pss_cons (ps_set (i := 5) sc_l_draws.nd rfl (Or.inl rfl) (pe_op op_mod (pv 0) pe_int))
        (pss_cons (ps_for PassesOwn.never rfl (pi_range1 rfl b_range (pa_cons (pe_op op_add (pv 1) pe_int) pa_nil)) (pg_name (i := 6) sc_l_draws.nd rfl (Or.inl rfl)) (pss_cons (ps_set (i := 5) sc_l_draws.nd rfl (Or.inl rfl) (pe_op op_mod (pe_op op_add (pe_op op_add (pe_op op_add (pe_op op_mul (pv 5) (pv 5)) (pe_op op_mul pe_int (pv 5))) (pv 6)) pe_int) pe_int))
        (pss_one (ps_if (PW.pt (pw_and (pt_cmpR op_gt (pv 6) pe_int (nomark _)) (pw_and1 (pt_cmpR op_gt (pv 4) pe_int (nomark _))))) (pss_cons (ps_expr (pe_bm PySem.F.plainAttrs_list PySem.F.slot_list_append PySem.F.type_list_append mt_append (pv 3) (pa_cons (pe_op op_mod (pv 4) (pv 2)) pa_nil)))
        (pss_one (ps_set (i := 4) sc_l_draws.nd rfl (Or.inl rfl) (pe_op op_fdiv (pv 4) (pv 2))))) (pss_one (ps_if (pt_cmpR op_gt (pv 6) pe_int (nomark _)) (pss_one (ps_expr (pe_bm PySem.F.plainAttrs_list PySem.F.slot_list_append PySem.F.type_list_append mt_append (pv 3) (pa_cons (pe_op op_mod (pe_op op_fdiv (pv 5) pe_int) (pv 2)) pa_nil)))) pss_nil))))))
        (pss_one (ps_ret (pv 3))))))), ?_⟩
  refine ⟨Nat.zero_le _, fun p np => ?_⟩
  refine ⟨_, rfl, _, rfl, _, _, rfl, rfl, ⟨by decide, by decide, by decide⟩, _, _, rfl, rfl, .inr ⟨_, rfl, _, _, rfl, rfl, .inr ?_, ?_⟩⟩
  · split <;> decide
  refine ⟨_, rfl, _, _, rfl, rfl, p0, ?_⟩
  refine ⟨_, rfl, _, _, rfl, rfl, _, rfl, by decide, by decide, ?_⟩
  refine for_range (lo := 0) (n := 403) (fun i σ H' => ∃ (r st : Int) (ds : List Int) (y : Option V), σ = [some (.int cell), some (.int 400), some (.int 1000), some (.ref p), some (.int r), some (.int st), y] ∧ Kp H H' ∧ H' p = some (.lst (ds.map V.int)) ∧ ds.length = i - 3 ∧ (∀ x ∈ ds, (0 : Int) ≤ x ∧ x < 1000) ∧ 0 ≤ st ∧ st < 2305843009213693951) ?_ ?_ ?_
  · exact ⟨_, _, [], _, rfl, .new (.refl H) np, upd_same, rfl, (fun x hx => nomatch hx), Int.emod_nonneg _ (by decide), Int.emod_lt_of_pos _ (by decide)⟩
  · rintro i σ H' hi ⟨r, st, ds, y, rfl, sm, e, hl, hd, h0, h1⟩
    refine ⟨_, rfl, _, rfl, _, _, rfl, rfl, .inl ⟨by omega, by omega⟩, _, rfl, _, _, rfl, rfl, .inl ⟨by decide, by decide⟩, _, _, rfl, rfl, _, rfl, _, _, rfl, rfl, _, _, rfl, rfl, _, _, rfl, rfl, p0, ?_⟩
    have hz : ∀ z : Int, 0 ≤ z % 2305843009213693951 ∧ z % 2305843009213693951 < 2305843009213693951 := fun z => ⟨Int.emod_nonneg _ (by decide), Int.emod_lt_of_pos _ (by decide)⟩
    have hx : ∀ z : Int, ∀ x ∈ ds ++ [z % 1000], (0 : Int) ≤ x ∧ x < 1000 := fun z x hx => by
      rcases List.mem_append.mp hx with g | g
      · exact hd x g
      · rw [List.mem_singleton.mp g]
        exact ⟨Int.emod_nonneg _ (by decide), Int.emod_lt_of_pos _ (by decide)⟩
    have hb : (ds.map V.int).length < sizeLine := by
      rw [List.length_map]
      exact small1000 (by omega)
    refine ⟨_, rfl, _, _, rfl, rfl, _, rfl, ite2 (fun c => ?_) (fun c => ?_)⟩
    · have c' := of_decide_eq_true c
      refine ⟨_, rfl, _, _, rfl, rfl, _, rfl, ite2 (fun c2 => ?_) (fun c2 => ?_)⟩
      · refine ⟨_, rfl, .inl ⟨rfl, _, SqL.of e⟩, _, rfl, _, rfl, _, _, rfl, rfl, p0, p, _, _, rfl, rfl, e, hb, ?_⟩
        refine ⟨_, rfl, _, rfl, _, _, rfl, rfl, ⟨by decide, by decide⟩, ?_⟩
        refine ⟨_, _, ds ++ [r % 1000], _, rfl, sm.fresh np, ?_, ?_, hx _, (hz _).1, (hz _).2⟩
        · rw [upd_same, List.map_append]
          rfl
        · rw [List.length_append, List.length_singleton]
          omega
      · refine ⟨_, rfl, _, _, rfl, rfl, _, rfl, ite2 (fun c3 => ?_) (fun c3 => absurd c c3)⟩
        refine ⟨_, rfl, .inl ⟨rfl, _, SqL.of e⟩, _, rfl, _, _, rfl, rfl, ⟨by decide, by decide⟩, _, rfl, _, _, rfl, rfl, p0, p, _, _, rfl, rfl, e, hb, ?_⟩
        refine ⟨_, _, ds ++ [(st * st + 48271 * st + (0 + (i : Int)) + 1) % 2305843009213693951 / 4096 % 1000], _, rfl, sm.fresh np, ?_, ?_, hx _, (hz _).1, (hz _).2⟩
        · rw [upd_same, List.map_append]
          rfl
        · rw [List.length_append, List.length_singleton]
          omega
    · refine iteF ⟨_, rfl, _, _, rfl, rfl, _, rfl, ite2 (fun c3 => absurd c3 c) (fun c3 => ?_)⟩
      have c' : ¬ ((2 : Int) < 0 + (i : Int)) := fun z => c (decide_eq_true z)
      exact ⟨_, _, ds, _, rfl, sm, e, by omega, hd, (hz _).1, (hz _).2⟩
  · rintro σ H' ⟨r, st, ds, y, rfl, sm, e, hl, hd, h0, h1⟩
    exact ⟨_, rfl, q p ds H' sm np e hl hd⟩
set_option maxHeartbeats 4000000 in
theorem ok_l_cell_at {P : Program} {w : World} {K : PySem.W.Frag} {mg : Str → Option Value} {base : Heap} {f : Addr} {fd : FuncData} (F : Fun K "_law_cell_at" "_law_cell_at" s_l_cell_at f fd) (b_len : mg "len" = none) :
    FnOk P w K mg base CX0 1 f fd ["script", "k"] (sp_l_cell_at K) := by
  refine F.ok sc_l_cell_at (fun vs H Q E h => ?_) (fun cdv A outer s H vs Q E hr h => ?_)
  · obtain ⟨a, ns, k, rfl, hS, h0, q⟩ := h
    rfl
  obtain ⟨a, ns, k, rfl, hS, h0, q⟩ := h
  refine ⟨_, (pss_cons (ps_if (pt_cmpR op_lt (pv 1) (pe_callB call_len_seq (by rfl) b_len PySem.boot_len (pa_cons (pv 0) pa_nil)) (nomark _)) (pss_one (ps_ret (pe_ix ix_list (pv 0) (pv 1) (fun _ _ => rfl)))) pss_nil)
        (pss_one (ps_ret pe_int))), ?_⟩
  refine ⟨_, rfl, _, rfl, a, _, rfl, .inl hS, _, _, rfl, rfl, _, rfl, ite2 (fun c => ?_) (fun c => ?_)⟩
  · have c' := of_decide_eq_true c
    rw [List.length_map] at c'
    obtain ⟨v, _, _, hv⟩ := at_int h0 c'
    exact ⟨_, rfl, _, rfl, a, _, _, _, rfl, rfl, hS, hv, q v⟩
  · exact q 0
set_option maxHeartbeats 4000000 in
theorem ok_l_bag {P : Program} {w : World} {K : PySem.W.Frag} {mg : Str → Option Value} {base : Heap} {f : Addr} {fd : FuncData} (F : Fun K "_law_bag" "_law_bag" s_l_bag f fd) (D_l_draws : Def P w K mg base "_law_draws" 1 ["cell", "many", "size"] (sp_l_draws K)) (D_l_cell_at : Def P w K mg base "_law_cell_at" 1 ["script", "k"] (sp_l_cell_at K)) :
    FnOk P w K mg base CX0 2 f fd ["script", "k"] (sp_l_bag K) := by
  refine F.ok sc_l_bag (fun vs H Q E h => ?_) (fun cdv A outer s H vs Q E hr h => ?_)
  · obtain ⟨a, ns, k, rfl, hS, h0, q⟩ := h
    rfl
  obtain ⟨a, ns, k, rfl, hS, h0, q⟩ := h
  refine ⟨_, (pss_one (ps_ret (pe_lst (pa_cons (pe_def D_l_draws hr (pa_cons (pe_def D_l_cell_at hr (pa_cons (pv 0) (pa_cons (pv 1) pa_nil))) (pa_cons pe_int (pa_cons pe_int pa_nil)))) (pa_cons pe_int pa_nil))))), ?_⟩
  refine ⟨_, rfl, _, rfl, a, ns, k, rfl, hS, h0, fun v => ?_⟩
  refine ⟨v, rfl, fun d ds H1 k1 nd e hl hd => ?_⟩
  refine ⟨(by show 2 ≤ sizeLine; decide), fun p np => ?_⟩
  refine q p _ (k1.new np) ⟨d, 0, ds, upd_same, ?_, hl, hd⟩ (k1.none np)
  rw [upd_ne (ne_of_none e np)]
  exact e
set_option maxHeartbeats 4000000 in
theorem ok_l_bags {P : Program} {w : World} {K : PySem.W.Frag} {mg : Str → Option Value} {base : Heap} {f : Addr} {fd : FuncData} (F : Fun K "_law_bags" "_law_bags" s_l_bags f fd) (D_l_bag : Def P w K mg base "_law_bag" 2 ["script", "k"] (sp_l_bag K)) (b_range : mg "range" = none) (b_max : mg "max" = none) (b_min : mg "min" = none) (b_len : mg "len" = none) :
    FnOk P w K mg base CX0 3 f fd ["script", "limit"] (sp_l_bags K) := by
  refine F.ok sc_l_bags (fun vs H Q E h => ?_) (fun cdv A outer s H vs Q E hr h => ?_)
  · obtain ⟨a, ns, m, rfl, hS, h63, m0, m1, q⟩ := h
    rfl
  obtain ⟨a, ns, m, rfl, hS, h63, m0, m1, q⟩ := h
  refine ⟨_, (pss_one (ps_ret (pe_lc (own := [("k", 2)]) (g := gName 2) (tt := tYes) rfl sc_l_bags.nd (pi_range1 rfl b_range (pa_cons (pe_callB (call_max2 rfl) (by rfl) b_max PyProof.Rows.boot_max (pa_cons pe_int (pa_cons (pe_callB (call_min2 rfl) (by rfl) b_min PyProof.Rows.boot_min (pa_cons (pv 1) (pa_cons (pe_callB call_len_seq (by rfl) b_len PySem.boot_len (pa_cons (pv 0) pa_nil)) pa_nil))) pa_nil))) pa_nil)) (blkOk_by (own := [("k", 2)]) (N := ["script", "limit", "k"]) (sc := defScope s_l_bags) (by decide +kernel)) (fun _ _ _ _ _ => (pg_name (i := 2) sc_l_bags.nd rfl (Or.inl rfl))) (fun _ _ _ _ _ => pts_nil) (fun _ _ _ _ _ => (pe_def D_l_bag hr (pa_cons (pv 0) (pa_cons (pv 2) pa_nil))))))), ?_⟩
  refine ⟨_, rfl, _, rfl, a, _, rfl, .inl hS, _, _, rfl, _, _, rfl, _, rfl, ?_⟩
  generalize hn : (if (if (((ns.map V.int).length : Nat) : Int) < m then (((ns.map V.int).length : Nat) : Int) else m) > 1 then (if (((ns.map V.int).length : Nat) : Int) < m then (((ns.map V.int).length : Nat) : Int) else m) else 1) = n
  have h1 : 1 ≤ n ∧ n ≤ 1000 := by
    rw [List.length_map] at hn
    split at hn <;> split at hn <;> omega
  refine ⟨by omega, by omega, fun D nD => ?_⟩
  refine lc_range (lo := 0) (n := n.toNat) (fun i H' => ∃ bs : List Addr, bs.length = i ∧ Kp H H' ∧ H' D = some (.lst (bs.map V.ref)) ∧ ∀ b ∈ bs, Bag H' b) ?_ ?_ ?_
  · exact ⟨[], rfl, .new (.refl H) nD, upd_same, fun b hb => nomatch hb⟩
  · rintro i H1 hi ⟨bs, hl, k1, e, hb⟩
    refine ⟨rfl, _, rfl, _, rfl, a, ns, _, rfl, k1.ints hS, by omega, fun p H2 k2 hp np => ?_⟩
    have e2 : H2 D = some (.lst (bs.map V.ref)) := k2.keep _ _ e nrefs
    refine ⟨_, e2, ?_, bs ++ [p], ?_, (k1.trans k2).fresh nD, ?_, fun b hm => ?_⟩
    · rw [List.length_map]
      exact small1000 (by omega)
    · rw [List.length_append, List.length_singleton, hl]
    · rw [upd_same, List.map_append]
      rfl
    · have hg : Bag H2 b := by
        rcases List.mem_append.mp hm with g | g
        · exact k2.bags (hb b g)
        · rw [List.mem_singleton.mp g]
          exact hp
      exact bag_upd hg e2
  · rintro H1 ⟨bs, hl, k1, e, hb⟩
    exact q D bs H1 k1 nD e (by omega) hb
set_option maxHeartbeats 4000000 in
theorem ok_l_take {P : Program} {w : World} {K : PySem.W.Frag} {mg : Str → Option Value} {base : Heap} {f : Addr} {fd : FuncData} (F : Fun K "_law_take" "_law_take" s_l_take f fd) (b_len : mg "len" = none) :
    FnOk P w K mg base CX0 1 f fd ["bag", "many"] (sp_l_take K) := by
  refine F.ok sc_l_take (fun vs H Q E h => ?_) (fun cdv A outer s H vs Q E hr h => ?_)
  · obtain ⟨b, m, rfl, hB, hm, q⟩ := h
    rfl
  obtain ⟨b, m, rfl, hB, hm, q⟩ := h
  refine ⟨_, (pss_cons (ps_asg (pe_op op_add (pe_ix ix_list (pv 0) pe_int (fun _ _ => rfl)) pe_int) (pg_sub (pv 0) pe_int set_list))
        (pss_one (ps_ret (pe_op op_mod (pe_ix ix_list (pe_ix ix_list (pv 0) pe_int (fun _ _ => rfl)) (pe_op op_mod (pe_ix ix_list (pv 0) pe_int (fun _ _ => rfl)) (pe_callB call_len_seq (by rfl) b_len PySem.boot_len (pa_cons (pe_ix ix_list (pv 0) pe_int (fun _ _ => rfl)) pa_nil))) (fun _ _ => rfl)) (pv 1))))), ?_⟩
  obtain ⟨d, c, ds, h1, h2, h3, h4⟩ := hB
  refine ⟨_, rfl, b, _, _, _, rfl, rfl, SqL.of h1, atI_nat (j := 1) rfl, _, _, rfl, rfl, _, rfl, b, _, _, 1, rfl, rfl, h1, rfl, ?_⟩
  have e1 : (upd H b (.lst [.ref d, .int (c + 1)])) b = some (.lst [.ref d, .int (c + 1)]) := upd_same
  have nd : d ≠ b := ne_of h2 h1 (by
    intro z
    exact nint (ns := ds) ⟨d, c, z⟩)
  have e2 : (upd H b (.lst [.ref d, .int (c + 1)])) d = some (.lst (ds.map V.int)) := by
    rw [upd_ne nd]
    exact h2
  have hl : (((ds.map V.int).length : Nat) : Int) = 400 := by
    rw [List.length_map, h3]
    rfl
  obtain ⟨v, _, _, hv⟩ := at_int (ns := ds) (k := (c + 1) % (((ds.map V.int).length : Nat) : Int)) (by rw [hl]; exact Int.emod_nonneg _ (by decide)) (by rw [hl, h3]; exact Int.emod_lt_of_pos _ (by decide))
  refine ⟨_, rfl, b, _, _, _, rfl, rfl, SqL.of e1, atI_nat (j := 0) rfl, _, rfl, b, _, _, _, rfl, rfl, SqL.of e1, atI_nat (j := 1) rfl, _, rfl, b, _, _, _, rfl, rfl, SqL.of e1, atI_nat (j := 0) rfl, d, _, rfl, .inl (SqL.of e2), _, _, rfl, rfl, (by rw [hl]; exact p0), d, _, _, _, rfl, rfl, SqL.of e2, hv, _, rfl, _, _, rfl, rfl, hm, ?_⟩
  exact q _ _ (Int.emod_nonneg _ (by omega)) (Int.emod_lt_of_pos _ hm) (.bump h1)
set_option maxHeartbeats 4000000 in
theorem ok_l_kinds {P : Program} {w : World} {K : PySem.W.Frag} {mg : Str → Option Value} {base : Heap} {f : Addr} {fd : FuncData} (F : Fun K "_law_kinds" "_law_kinds" s_l_kinds f fd) (D_l_take : Def P w K mg base "_law_take" 1 ["bag", "many"] (sp_l_take K)) (b_range : mg "range" = none) (b_min : mg "min" = none) (b_tuple : mg "tuple" = none) :
    FnOk P w K mg base CX0 2 f fd ["bag", "far"] (sp_l_kinds K) := by
  refine F.ok sc_l_kinds (fun vs H Q E h => ?_) (fun cdv A outer s H vs Q E hr h => ?_)
  · obtain ⟨b, fr, rfl, hB, hf, q⟩ := h
    rfl
  obtain ⟨b, fr, rfl, hB, hf, q⟩ := h
  refine ⟨_, (pss_cons (ps_set (i := 2) sc_l_kinds.nd rfl (Or.inl rfl) (pe_lst pa_nil))
        (pss_cons (ps_for PassesOwn.never rfl (pi_range1 rfl b_range (pa_cons (pe_op op_add pe_int (pe_def D_l_take hr (pa_cons (pv 0) (pa_cons pe_int pa_nil)))) pa_nil)) (pg_name (i := 3) sc_l_kinds.nd rfl (Or.inl rfl)) (pss_one (ps_expr (pe_bm PySem.F.plainAttrs_list PySem.F.slot_list_append PySem.F.type_list_append mt_append (pv 2) (pa_cons (pe_op op_add pe_int (pe_ix ix_list (pe_lst (pa_cons (pe_def D_l_take hr (pa_cons (pv 0) (pa_cons (pe_callB (call_min2 rfl) (by rfl) b_min PyProof.Rows.boot_min (pa_cons pe_int (pa_cons (pe_op op_sub (pv 1) pe_int) pa_nil))) pa_nil))) (pa_cons (pe_def D_l_take hr (pa_cons (pv 0) (pa_cons (pe_op op_sub (pv 1) pe_int) pa_nil))) pa_nil))) (pe_def D_l_take hr (pa_cons (pv 0) (pa_cons pe_int pa_nil))) (fun _ _ => rfl))) pa_nil)))))
        (pss_one (ps_ret (pe_callTy call_tuple_of (by rfl) b_tuple PyProof.Rows.boot_tuple (pa_cons (pv 2) pa_nil)))))), ?_⟩
  refine ⟨Nat.zero_le _, fun p np => ?_⟩
  have kp := (Kp.refl H).new (o := .lst []) np
  refine ⟨_, rfl, b, _, rfl, kp.bags hB, p0, fun r H1 r0 r1 k0 => ?_⟩
  refine ⟨_, _, rfl, rfl, _, rfl, by omega, by omega, ?_⟩
  refine for_range (lo := 0) (n := (1 + r).toNat) (fun i σ H' => ∃ (cs : List Int) (y : Option V), σ = [some (.ref b), some (.int fr), some (.ref p), y] ∧ Kp H H' ∧ H' p = some (.lst (cs.map V.int)) ∧ cs.length = i ∧ ∀ c ∈ cs, 2 ≤ c ∧ c ≤ fr) ?_ ?_ ?_
  · exact ⟨[], _, rfl, kp.trans k0, k0.keep _ _ upd_same (nint (ns := [])), rfl, fun c hc => nomatch hc⟩
  · rintro i σ H' hi ⟨cs, y, rfl, k1, e, hl, hc⟩
    refine ⟨_, rfl, .inl ⟨rfl, _, SqL.of e⟩, _, rfl, _, rfl, _, _, rfl, rfl, _, _, rfl, b, _, rfl, k1.bags hB, ?_, fun r1' H2 a0 a1 k2 => ?_⟩
    · split <;> omega
    refine ⟨_, rfl, _, rfl, _, _, rfl, rfl, b, _, rfl, (k1.trans k2).bags hB, by omega, fun r2 H3 b0 b1 k3 => ?_⟩
    refine ⟨(by show 2 ≤ sizeLine; decide), fun l nl => ?_⟩
    have k4 := ((k1.trans k2).trans k3).new (o := .lst (([r1', r2] : List Int).map V.int)) nl
    refine ⟨_, rfl, b, _, rfl, k4.bags hB, p0, fun r3 H4 c0 c1 k5 => ?_⟩
    have el : H4 l = some (.lst (([r1', r2] : List Int).map V.int)) := k5.keep _ _ upd_same nint
    obtain ⟨v, hv, _, ha⟩ := at_int (ns := [r1', r2]) (k := r3) c0 c1
    have e3 : H3 p = some (.lst (cs.map V.int)) := k3.keep _ _ (k2.keep _ _ e nint) nint
    have e4 : H4 p = some (.lst (cs.map V.int)) := k5.keep _ _ (by rw [upd_ne (ne_of_none e3 nl)]; exact e3) nint
    refine ⟨l, _, _, _, rfl, rfl, SqL.of el, ha, _, _, rfl, rfl, p, _, _, rfl, rfl, e4, ?_, cs ++ [2 + v], _, rfl, (k4.trans k5).fresh np, ?_, ?_, fun c hm => ?_⟩
    · rw [List.length_map]
      exact small1000 (by omega)
    · rw [upd_same, List.map_append]
      rfl
    · rw [List.length_append, List.length_singleton, hl]
    · rcases List.mem_append.mp hm with g | g
      · exact hc c g
      · rw [List.mem_singleton.mp g]
        simp only [List.mem_cons, List.not_mem_nil, or_false] at hv
        have a2 : r1' ≤ fr - 2 := by
          split at a1 <;> omega
        omega
  · rintro σ H' ⟨cs, y, rfl, k1, e, hl, hc⟩
    refine ⟨_, rfl, p, _, rfl, .inl ⟨SqL.of e, fun t nt => ?_⟩⟩
    exact q t cs _ (k1.new nt) upd_same (by omega) (by omega) hc
set_option maxHeartbeats 4000000 in
theorem ok_l_far_draw {P : Program} {w : World} {K : PySem.W.Frag} {mg : Str → Option Value} {base : Heap} {f : Addr} {fd : FuncData} (F : Fun K "_law_far_draw" "_law_far_draw" s_l_far_draw f fd) (D_l_take : Def P w K mg base "_law_take" 1 ["bag", "many"] (sp_l_take K)) :
    FnOk P w K mg base CX0 2 f fd ["bag", "many"] (sp_l_far_draw K) := by
  refine F.ok sc_l_far_draw (fun vs H Q E h => ?_) (fun cdv A outer s H vs Q E hr h => ?_)
  · obtain ⟨b, m, rfl, hB, hm, q⟩ := h
    rfl
  obtain ⟨b, m, rfl, hB, hm, q⟩ := h
  refine ⟨_, (pss_cons (ps_par (i := 2) (j := 3) rfl sc_l_far_draw.nd rfl rfl (by decide) rfl rfl (pa_cons pe_int (pa_cons (pv 1) pa_nil)) (by rfl))
        (pss_cons (ps_while PassesOwn.never (pt_cmpR op_gt (pv 3) pe_int (nomark _)) (pss_one (ps_par (i := 2) (j := 3) rfl sc_l_far_draw.nd rfl rfl (by decide) rfl rfl (pa_cons (pe_op op_add (pe_op op_mul pe_int (pv 2)) (pe_def D_l_take hr (pa_cons (pv 0) (pa_cons pe_int pa_nil)))) (pa_cons (pe_op op_fdiv (pv 3) pe_int) pa_nil)) (by rfl))))
        (pss_one (ps_ret (pe_ix ix_list (pe_lst (pa_cons (pe_op op_mod (pv 2) (pv 1)) (pa_cons pe_int (pa_cons (pe_op op_sub (pv 1) pe_int) (pa_cons (pe_op op_mod (pv 2) (pv 1)) pa_nil))))) (pe_def D_l_take hr (pa_cons (pv 0) (pa_cons pe_int pa_nil))) (fun _ _ => rfl)))))), ?_⟩
  refine ⟨_, rfl, _, _, rfl, ?_⟩
  refine while_by (fun σ H' => ∃ (fo mu : Int), σ = [some (.ref b), some (.int m), some (.int fo), some (.int mu)] ∧ 0 ≤ mu ∧ Kp H H') (fun (σ : L2.St) (_ : Hp) => match σ[3]? with | some (some (V.int k)) => k.toNat | _ => 0) ?_ ?_ ?_
  · exact ⟨_, _, rfl, by omega, .refl H⟩
  · rintro σ H' ⟨fo, mu, rfl, hm0, k1⟩
    refine ⟨_, rfl, _, _, rfl, rfl, _, rfl, ite2 (fun c => ?_) (fun c => ?_)⟩
    · have c' := of_decide_eq_true c
      refine ⟨_, rfl, _, _, rfl, rfl, .inl ⟨by decide, by decide⟩, _, rfl, b, _, rfl, k1.bags hB, p0, fun r H2 h0 h1 k2 => ?_⟩
      refine ⟨_, _, rfl, rfl, _, rfl, _, _, rfl, rfl, ⟨by decide, by decide⟩, _, _, rfl, ⟨_, _, rfl, by omega, k1.trans k2⟩, ?_⟩
      show (mu / 1000).toNat < mu.toNat
      omega
    · refine ⟨_, rfl, _, rfl, _, _, rfl, rfl, hm, _, rfl, _, _, rfl, rfl, _, rfl, _, rfl, _, _, rfl, rfl, hm, (by show 4 ≤ sizeLine; decide), fun p np => ?_⟩
      have k2 := k1.new (o := .lst (([fo % m, 0, m - 1, fo % m] : List Int).map V.int)) np
      refine ⟨_, rfl, b, _, rfl, k2.bags hB, p0, fun r H2 h0 h1 k3 => ?_⟩
      have e : H2 p = some (.lst (([fo % m, 0, m - 1, fo % m] : List Int).map V.int)) := k3.keep _ _ upd_same nint
      obtain ⟨v, hv, _, ha⟩ := at_int (ns := [fo % m, 0, m - 1, fo % m]) (k := r) h0 h1
      refine ⟨p, _, _, _, rfl, rfl, SqL.of e, ha, ?_⟩
      have z1 := Int.emod_nonneg fo (show m ≠ 0 by omega)
      have z2 := Int.emod_lt_of_pos fo hm
      have hb : 0 ≤ v ∧ v < m := by
        simp only [List.mem_cons, List.not_mem_nil, or_false] at hv
        omega
      exact q v H2 hb.1 hb.2 (k2.trans k3)
  · rintro σ H' Q1 Q2 hq ⟨v, e, i, j, e1, e2, k, e3, h⟩
    exact ⟨v, e, i, j, e1, e2, k, e3, hq _ _ h⟩
set_option maxHeartbeats 4000000 in
theorem ok_l_stamps_for {P : Program} {w : World} {K : PySem.W.Frag} {mg : Str → Option Value} {base : Heap} {f : Addr} {fd : FuncData} (F : Fun K "_law_stamps_for" "_law_stamps_for" s_l_stamps_for f fd) (D_l_far_draw : Def P w K mg base "_law_far_draw" 2 ["bag", "many"] (sp_l_far_draw K)) (D_l_take : Def P w K mg base "_law_take" 1 ["bag", "many"] (sp_l_take K)) (b_tuple : mg "tuple" = none) :
    FnOk P w K mg base CX0 3 f fd ["bag", "kinds", "far"] (sp_l_stamps_for K) := by
  refine F.ok sc_l_stamps_for (fun vs H Q E h => ?_) (fun cdv A outer s H vs Q E hr h => ?_)
  · obtain ⟨b, kA, cs, fr, rfl, hB, hK, h3, hf, q⟩ := h
    rfl
  obtain ⟨b, kA, cs, fr, rfl, hB, hK, h3, hf, q⟩ := h
  refine ⟨_, (pss_one (ps_ret (pe_callTy call_tuple_of (by rfl) b_tuple PyProof.Rows.boot_tuple (pa_cons (pe_lc (own := [("one", 3)]) (g := gName 3) (tt := tYes) rfl sc_l_stamps_for.nd (pi_tup (pv 1)) (blkOk_by (own := [("one", 3)]) (N := ["bag", "kinds", "far", "one"]) (sc := defScope s_l_stamps_for) (by decide +kernel)) (fun _ _ _ _ _ => (pg_name (i := 3) sc_l_stamps_for.nd rfl (Or.inl rfl))) (fun _ _ _ _ _ => pts_nil) (fun _ _ _ _ _ => (pe_ix (ix_listK K) (pe_lst (pa_cons pe_int (pa_cons (pe_def D_l_far_draw hr (pa_cons (pv 0) (pa_cons (pe_op op_add (pv 2) pe_int) pa_nil))) pa_nil))) (pe_def D_l_take hr (pa_cons (pv 0) (pa_cons pe_int pa_nil))) (fun _ _ => rfl)))) pa_nil)))), ?_⟩
  refine ⟨_, rfl, kA, rfl, ⟨_, hK⟩, fun D nD => ?_⟩
  refine lc_tup (K := K) (a := kA) (xs := cs.map V.int) (fun i H' => ∃ ss : List Int, ss.length = i ∧ Kp H H' ∧ H' D = some (.lst (ss.map V.int)) ∧ ∀ x ∈ ss, 0 ≤ x ∧ x ≤ fr) ?_ ?_ ?_ ?_
  · exact ⟨[], rfl, .new (.refl H) nD, upd_same, fun c hc => nomatch hc⟩
  · rintro i H' hi ⟨ss, hl, k1, e, hs⟩
    exact k1.tup hK
  · rintro i x H1 hi ⟨ss, hl, k1, e, hs⟩
    have hi' : i < 3 := by
      have := (List.getElem?_eq_some_iff.mp hi).1
      rw [List.length_map] at this
      omega
    refine ⟨rfl, _, rfl, _, rfl, _, _, rfl, rfl, b, _, rfl, k1.bags hB, by omega, fun r1 H2 a0 a1 k2 => ?_⟩
    refine ⟨(by show 2 ≤ sizeLine; decide), fun l nl => ?_⟩
    have k4 := (k1.trans k2).new (o := .lst (([0, r1] : List Int).map V.int)) nl
    refine ⟨_, rfl, b, _, rfl, k4.bags hB, p0, fun r3 H4 c0 c1 k5 => ?_⟩
    have el : H4 l = some (.lst (([0, r1] : List Int).map V.int)) := k5.keep _ _ upd_same nint
    obtain ⟨v, hv, _, ha⟩ := at_int (ns := [0, r1]) (k := r3) c0 c1
    have e3 : H2 D = some (.lst (ss.map V.int)) := k2.keep _ _ e nint
    have e4 : H4 D = some (.lst (ss.map V.int)) := k5.keep _ _ (by rw [upd_ne (ne_of_none e3 nl)]; exact e3) nint
    refine ⟨l, _, _, _, rfl, rfl, SqL.of el, ha, _, e4, ?_, ss ++ [v], ?_, (k4.trans k5).fresh nD, ?_, fun c hm => ?_⟩
    · rw [List.length_map]
      exact small1000 (by omega)
    · rw [List.length_append, List.length_singleton, hl]
    · rw [upd_same, List.map_append]
      rfl
    · rcases List.mem_append.mp hm with g | g
      · exact hs c g
      · rw [List.mem_singleton.mp g]
        simp only [List.mem_cons, List.not_mem_nil, or_false] at hv
        omega
  · rintro H1 ⟨ss, hl, k1, e, hs⟩
    refine ⟨D, _, rfl, .inl ⟨SqL.of e, fun t nt => ?_⟩⟩
    exact q t ss _ (k1.new nt) upd_same (by rw [hl, List.length_map]) hs
set_option maxHeartbeats 4000000 in
theorem ok_l_had {P : Program} {w : World} {K : PySem.W.Frag} {mg : Str → Option Value} {base : Heap} {f : Addr} {fd : FuncData} (F : Fun K "_law_had" "_law_had" s_l_had f fd) (D_l_stamps_for : Def P w K mg base "_law_stamps_for" 3 ["bag", "kinds", "far"] (sp_l_stamps_for K)) (D_l_far_draw : Def P w K mg base "_law_far_draw" 2 ["bag", "many"] (sp_l_far_draw K)) :
    FnOk P w K mg base CX0 4 f fd ["bag", "kinds", "far"] (sp_l_had K) := by
  refine F.ok sc_l_had (fun vs H Q E h => ?_) (fun cdv A outer s H vs Q E hr h => ?_)
  · obtain ⟨b, kA, cs, fr, rfl, hB, hK, h3, hf, q⟩ := h
    rfl
  obtain ⟨b, kA, cs, fr, rfl, hB, hK, h3, hf, q⟩ := h
  refine ⟨_, (pss_one (ps_ret (pe_tup (pa_cons (pe_def D_l_far_draw hr (pa_cons (pv 0) (pa_cons (pe_op op_add (pv 2) pe_int) pa_nil))) (pa_cons (pe_def D_l_stamps_for hr (pa_cons (pv 0) (pa_cons (pv 1) (pa_cons (pv 2) pa_nil)))) pa_nil))))), ?_⟩
  refine ⟨_, rfl, _, rfl, _, _, rfl, rfl, b, _, rfl, hB, by omega, fun r H1 a0 a1 k1 => ?_⟩
  refine ⟨_, rfl, _, rfl, _, rfl, b, kA, cs, fr, rfl, k1.bags hB, k1.tup hK, h3, hf, fun sA ss H2 k2 e hl hs => ?_⟩
  refine ⟨(by show 2 ≤ sizeLine; decide), fun p np => ?_⟩
  exact q p sA r ss _ ((k1.trans k2).new np) upd_same (by rw [upd_ne (ne_of_none e np)]; exact e) a0 (by omega) hl hs
set_option maxHeartbeats 4000000 in
theorem ok_p_is_within {P : Program} {w : World} {K : PySem.W.Frag} {mg : Str → Option Value} {base : Heap} {f : Addr} {fd : FuncData} (F : Fun K "is_within" "is_within" s_p_is_within f fd) (b_isinstance : mg "isinstance" = none) (b_int : mg "int" = none) (b_bool : mg "bool" = none) :
    FnOk P w K mg base CX0 1 f fd ["thing", "least", "most"] (sp_p_is_within K) := by
  refine F.ok sc_p_is_within (fun vs H Q E h => ?_) (fun cdv A outer s H vs Q E hr h => ?_)
  · obtain ⟨x, d, lo, hi, rfl, hd, q⟩ := h
    rfl
  obtain ⟨x, d, lo, hi, rfl, hd, q⟩ := h
  refine ⟨_, (pss_cons (ps_if (PW.pt (pw_or (pt_val (pe_callB call_isi (by rfl) b_isinstance PyProof.Rows.boot_isinstance (pa_cons (pv 0) (pa_cons (pe_bltn (v := .ty "bool") rfl b_bool PyProof.Rows.boot_bool rfl) pa_nil)))) (pw_or1 (pt_not (pt_val (pe_callB call_isi (by rfl) b_isinstance PyProof.Rows.boot_isinstance (pa_cons (pv 0) (pa_cons (pe_bltn (v := .ty "int") rfl b_int PyProof.Rows.boot_int rfl) pa_nil)))))))) (pss_one (ps_ret pe_bl)) pss_nil)
        (pss_one (ps_ret (pe_chain op_le op_le (pv 1) (pv 0) (pv 2))))), ?_⟩
  cases hd with
  | non => exact ⟨_, rfl, _, _, _, _, false, rfl, .ty "bool", .base .non, kit_ty (by decide +kernel), _, rfl, _, rfl, _, _, _, _, false, rfl, .ty "int", .base .non, kit_ty (by decide +kernel), _, rfl, q⟩
  | bl b => exact ⟨_, rfl, _, _, _, _, true, rfl, .ty "bool", .base (.bl b), kit_ty (by decide +kernel), _, rfl, q⟩
  | str b => exact ⟨_, rfl, _, _, _, _, false, rfl, .ty "bool", .base (.str b), kit_ty (by decide +kernel), _, rfl, _, rfl, _, _, _, _, false, rfl, .ty "int", .base (.str b), kit_ty (by decide +kernel), _, rfl, q⟩
  | lst h _ => exact ⟨_, rfl, _, _, _, _, false, rfl, .ty "bool", tyL h, kit_ty (by decide +kernel), _, rfl, _, rfl, _, _, _, _, false, rfl, .ty "int", tyL h, kit_ty (by decide +kernel), _, rfl, q⟩
  | tup h _ => exact ⟨_, rfl, _, _, _, _, false, rfl, .ty "bool", tyT h, kit_ty (by decide +kernel), _, rfl, _, rfl, _, _, _, _, false, rfl, .ty "int", tyT h, kit_ty (by decide +kernel), _, rfl, q⟩
  | int i =>
    refine ⟨_, rfl, _, _, _, _, false, rfl, .ty "bool", .base (.int i), kit_ty (by decide +kernel), _, rfl, _, rfl, _, _, _, _, true, rfl, .ty "int", .base (.int i), kit_ty (by decide +kernel), _, rfl, ?_⟩
    refine ⟨_, rfl, _, rfl, _, _, rfl, rfl, _, rfl, ite2 (fun c => ?_) (fun c => ?_)⟩
    · refine ⟨_, rfl, _, _, rfl, rfl, ?_⟩
      have q' : Q (.bl (decide (lo ≤ i) && decide (i ≤ hi))) H := q
      rw [c] at q'
      exact q'
    · have c' : decide (lo ≤ i) = false := by
        cases h : decide (lo ≤ i) with
        | true => exact absurd h c
        | false => rfl
      have q' : Q (.bl (decide (lo ≤ i) && decide (i ≤ hi))) H := q
      rw [c'] at q'
      exact q'
set_option maxHeartbeats 4000000 in
theorem ok_p_are_cards {P : Program} {w : World} {K : PySem.W.Frag} {mg : Str → Option Value} {base : Heap} {f : Addr} {fd : FuncData} (F : Fun K "are_cards" "are_cards" s_p_are_cards f fd) (D_p_is_within : Def P w K mg base "is_within" 1 ["thing", "least", "most"] (sp_p_is_within K)) (b_len : mg "len" = none) (b_isinstance : mg "isinstance" = none) (b_tuple : mg "tuple" = none) (b_all : mg "all" = none) {t_MOST_KINDS : Tok} (g_MOST_KINDS : mg "MOST_KINDS" = some (.int 3 t_MOST_KINDS)) {t_MOST_FULL : Tok} (g_MOST_FULL : mg "MOST_FULL" = some (.int 20 t_MOST_FULL)) {t_LEAST_FULL : Tok} (g_LEAST_FULL : mg "LEAST_FULL" = some (.int 2 t_LEAST_FULL)) :
    FnOk P w K mg base CX0 2 f fd ["thing"] (sp_p_are_cards K) := by
  refine F.ok sc_p_are_cards (fun vs H Q E h => ?_) (fun cdv A outer s H vs Q E hr h => ?_)
  · obtain ⟨x, d, rfl, hd, q⟩ := h
    rfl
  obtain ⟨x, d, rfl, hd, q⟩ := h
  refine ⟨_, (pss_cons (ps_if (PW.pt (pw_or (pt_not (pt_val (pe_callB call_isi (by rfl) b_isinstance PyProof.Rows.boot_isinstance (pa_cons (pv 0) (pa_cons (pe_bltn (v := .ty "tuple") rfl b_tuple PyProof.Rows.boot_tuple rfl) pa_nil))))) (pw_or1 (pt_not (pt_chain op_le op_le pe_int (pe_callB call_len_seq (by rfl) b_len PySem.boot_len (pa_cons (pv 0) pa_nil)) (pe_glob (v := .int 3) rfl g_MOST_KINDS ⟨_, rfl⟩)))))) (pss_one (ps_ret pe_bl)) pss_nil)
        (pss_one (ps_ret (pe_callB (cr_all rfl) (by rfl) b_all PyProof.Rows.boot_all (pa_cons (pe_lc (own := [("full", 1)]) (g := gName 1) (tt := tYes) rfl sc_p_are_cards.nd (pi_tup (pv 0)) (blkOk_by (own := [("full", 1)]) (N := ["thing", "full"]) (sc := defScope s_p_are_cards) (by decide +kernel)) (fun _ _ _ _ _ => (pg_name (i := 1) sc_p_are_cards.nd rfl (Or.inl rfl))) (fun _ _ _ _ _ => pts_nil) (fun _ _ _ _ _ => (pe_def D_p_is_within hr (pa_cons (pv 1) (pa_cons (pe_glob (v := .int 2) rfl g_LEAST_FULL ⟨_, rfl⟩) (pa_cons (pe_glob (v := .int 20) rfl g_MOST_FULL ⟨_, rfl⟩) pa_nil)))))) pa_nil))))), ?_⟩
  cases hd with
  | non => exact ⟨_, rfl, _, _, _, _, false, rfl, .ty "tuple", .base .non, kit_ty (by decide +kernel), _, rfl, q _ (.refl H)⟩
  | bl b => exact ⟨_, rfl, _, _, _, _, false, rfl, .ty "tuple", .base (.bl b), kit_ty (by decide +kernel), _, rfl, q _ (.refl H)⟩
  | str b => exact ⟨_, rfl, _, _, _, _, false, rfl, .ty "tuple", .base (.str b), kit_ty (by decide +kernel), _, rfl, q _ (.refl H)⟩
  | int b => exact ⟨_, rfl, _, _, _, _, false, rfl, .ty "tuple", .base (.int b), kit_ty (by decide +kernel), _, rfl, q _ (.refl H)⟩
  | lst h _ => exact ⟨_, rfl, _, _, _, _, false, rfl, .ty "tuple", tyL h, kit_ty (by decide +kernel), _, rfl, q _ (.refl H)⟩
  | @tup a xs ds h hx =>
    have hl := dp_len hx
    refine ⟨_, rfl, _, _, _, _, true, rfl, .ty "tuple", tyT h, kit_ty (by decide +kernel), _, rfl, ?_⟩
    refine ⟨_, rfl, a, _, rfl, .inr h, _, _, rfl, rfl, _, rfl, ite2 (fun c => ?_) (fun c => ?_)⟩
    · have c' : 1 ≤ ds.length := by
        have := of_decide_eq_true c
        omega
      refine ⟨_, _, rfl, rfl, _, rfl, ?_⟩
      by_cases c2 : ds.length ≤ 3
      · have e2 : decide ((xs.length : Int) ≤ 3) = true := decide_eq_true (by omega)
        rw [e2]
        refine ⟨_, rfl, a, rfl, ⟨_, h⟩, fun D nD => ?_⟩
        refine lc_tup (K := K) (a := a) (xs := xs) (fun i H' => Same H H' ∧ H' D = some (.lst (((ds.take i).map (withinD 2 20)).map V.bl))) ?_ ?_ ?_ ?_
        · exact ⟨same_new (.refl H) nD, upd_same⟩
        · rintro i H' hi ⟨sm, e⟩
          exact Same.seqT sm h
        · rintro i y H' hi ⟨sm, e⟩
          obtain ⟨d, hd1, hd2⟩ := dp_get hx hi
          have hi' : i < xs.length := (List.getElem?_eq_some_iff.mp hi).1
          refine ⟨rfl, _, rfl, y, d, _, _, rfl, Same.dp sm hd2, _, e, ?_, same_fresh sm nD, ?_⟩
          · rw [List.length_map, List.length_map, List.length_take]
            exact small1000 (by omega)
          · rw [upd_same, take_map _ hd1, List.map_append]
            rfl
        · rintro H' ⟨sm, e⟩
          rw [hl, List.take_length] at e
          refine ⟨D, _, rfl, SqL.of e, ?_⟩
          have q' := q H' sm
          have ec : cardsD (.tuple ds) = (ds.map (withinD 2 20)).all id := by
            show (decide (1 ≤ ds.length) && decide (ds.length ≤ 3) && ds.all (withinD 2 20)) = _
            rw [decide_eq_true c', decide_eq_true c2, List.all_map]
            rfl
          rw [ec] at q'
          exact q'
      · have e2 : decide ((xs.length : Int) ≤ 3) = false := decide_eq_false (by omega)
        rw [e2]
        have q' := q H (.refl H)
        have ec : cardsD (.tuple ds) = false := by
          show (decide (1 ≤ ds.length) && decide (ds.length ≤ 3) && ds.all (withinD 2 20)) = _
          rw [decide_eq_false c2, Bool.and_false, Bool.false_and]
        rw [ec] at q'
        exact q'
    · have c' : ¬ 1 ≤ ds.length := fun z => c (decide_eq_true (by omega))
      refine ⟨_, rfl, ?_⟩
      have q' := q H (.refl H)
      have ec : cardsD (.tuple ds) = false := by
        show (decide (1 ≤ ds.length) && decide (ds.length ≤ 3) && ds.all (withinD 2 20)) = _
        rw [decide_eq_false c', Bool.false_and, Bool.false_and]
      rw [ec] at q'
      exact q'
set_option maxHeartbeats 4000000 in
theorem ok_p_refuse_no_cards {P : Program} {w : World} {K : PySem.W.Frag} {mg : Str → Option Value} {base : Heap} {f : Addr} {fd : FuncData} (F : Fun K "refuse_no_cards" "refuse_no_cards" s_p_refuse_no_cards f fd) (D_p_are_cards : Def P w K mg base "are_cards" 2 ["thing"] (sp_p_are_cards K)) :
    FnOk P w K mg base CX0 3 f fd ["thing"] (sp_p_refuse_no_cards K) := by
  refine F.ok sc_p_refuse_no_cards (fun vs H Q E h => ?_) (fun cdv A outer s H vs Q E hr h => ?_)
  · obtain ⟨x, d, rfl, hd, hc, q⟩ := h
    rfl
  obtain ⟨x, d, rfl, hd, hc, q⟩ := h
  refine ⟨_, (pss_one (ps_if (pt_not (pt_val (pe_def D_p_are_cards hr (pa_cons (pv 0) pa_nil)))) (pss_one (ps_never)) pss_nil)), ?_⟩
  refine ⟨_, rfl, x, d, rfl, hd, fun H' sm => ⟨_, rfl, ?_⟩⟩
  rw [hc]
  exact q H' sm
set_option maxHeartbeats 4000000 in
theorem ok_p_are_stamps {P : Program} {w : World} {K : PySem.W.Frag} {mg : Str → Option Value} {base : Heap} {f : Addr} {fd : FuncData} (F : Fun K "are_stamps" "are_stamps" s_p_are_stamps f fd) (D_p_is_within : Def P w K mg base "is_within" 1 ["thing", "least", "most"] (sp_p_is_within K)) (b_len : mg "len" = none) (b_isinstance : mg "isinstance" = none) (b_tuple : mg "tuple" = none) (b_all : mg "all" = none) {t_MOST : Tok} (g_MOST : mg "MOST" = some (.int 1000000000000000000 t_MOST)) :
    FnOk P w K mg base CX0 2 f fd ["cards", "thing"] (sp_p_are_stamps K) := by
  refine F.ok sc_p_are_stamps (fun vs H Q E h => ?_) (fun cdv A outer s H vs Q E hr h => ?_)
  · obtain ⟨cA, cs, x, d, rfl, hC, h3, hd, q⟩ := h
    rfl
  obtain ⟨cA, cs, x, d, rfl, hC, h3, hd, q⟩ := h
  refine ⟨_, (pss_cons (ps_if (PW.pt (pw_or (pt_not (pt_val (pe_callB call_isi (by rfl) b_isinstance PyProof.Rows.boot_isinstance (pa_cons (pv 1) (pa_cons (pe_bltn (v := .ty "tuple") rfl b_tuple PyProof.Rows.boot_tuple rfl) pa_nil))))) (pw_or1 (pt_cmpR op_ne (pe_callB call_len_seq (by rfl) b_len PySem.boot_len (pa_cons (pv 1) pa_nil)) (pe_callB call_len_seq (by rfl) b_len PySem.boot_len (pa_cons (pv 0) pa_nil)) (nomark _))))) (pss_one (ps_ret pe_bl)) pss_nil)
        (pss_one (ps_ret (pe_callB (cr_all rfl) (by rfl) b_all PyProof.Rows.boot_all (pa_cons (pe_lc (own := [("many", 2)]) (g := gName 2) (tt := tYes) rfl sc_p_are_stamps.nd (pi_tup (pv 1)) (blkOk_by (own := [("many", 2)]) (N := ["cards", "thing", "many"]) (sc := defScope s_p_are_stamps) (by decide +kernel)) (fun _ _ _ _ _ => (pg_name (i := 2) sc_p_are_stamps.nd rfl (Or.inl rfl))) (fun _ _ _ _ _ => pts_nil) (fun _ _ _ _ _ => (pe_def D_p_is_within hr (pa_cons (pv 2) (pa_cons pe_int (pa_cons (pe_glob (v := .int 1000000000000000000) rfl g_MOST ⟨_, rfl⟩) pa_nil)))))) pa_nil))))), ?_⟩
  cases hd with
  | non => exact ⟨_, rfl, _, _, _, _, false, rfl, .ty "tuple", .base .non, kit_ty (by decide +kernel), _, rfl, q _ (.refl H)⟩
  | bl b => exact ⟨_, rfl, _, _, _, _, false, rfl, .ty "tuple", .base (.bl b), kit_ty (by decide +kernel), _, rfl, q _ (.refl H)⟩
  | str b => exact ⟨_, rfl, _, _, _, _, false, rfl, .ty "tuple", .base (.str b), kit_ty (by decide +kernel), _, rfl, q _ (.refl H)⟩
  | int b => exact ⟨_, rfl, _, _, _, _, false, rfl, .ty "tuple", .base (.int b), kit_ty (by decide +kernel), _, rfl, q _ (.refl H)⟩
  | lst h _ => exact ⟨_, rfl, _, _, _, _, false, rfl, .ty "tuple", tyL h, kit_ty (by decide +kernel), _, rfl, q _ (.refl H)⟩
  | @tup a xs ds h hx =>
    have hl := dp_len hx
    refine ⟨_, rfl, _, _, _, _, true, rfl, .ty "tuple", tyT h, kit_ty (by decide +kernel), _, rfl, ?_⟩
    refine ⟨_, rfl, a, _, rfl, .inr h, _, rfl, cA, _, rfl, .inr hC, rfl, _, rfl, ?_⟩
    by_cases c2 : ds.length = cs.length
    · have e2 : decide (V.int (xs.length : Int) = V.int (cs.length : Int)) = true := decide_eq_true (by rw [hl, c2])
      rw [e2]
      refine ⟨_, rfl, a, rfl, ⟨_, h⟩, fun D nD => ?_⟩
      refine lc_tup (K := K) (a := a) (xs := xs) (fun i H' => Same H H' ∧ H' D = some (.lst (((ds.take i).map (withinD 0 1000000000000000000)).map V.bl))) ?_ ?_ ?_ ?_
      · exact ⟨same_new (.refl H) nD, upd_same⟩
      · rintro i H' hi ⟨sm, e⟩
        exact Same.seqT sm h
      · rintro i y H' hi ⟨sm, e⟩
        obtain ⟨d, hd1, hd2⟩ := dp_get hx hi
        have hi' : i < xs.length := (List.getElem?_eq_some_iff.mp hi).1
        refine ⟨rfl, _, rfl, y, d, _, _, rfl, Same.dp sm hd2, _, e, ?_, same_fresh sm nD, ?_⟩
        · rw [List.length_map, List.length_map, List.length_take]
          exact small1000 (by omega)
        · rw [upd_same, take_map _ hd1, List.map_append]
          rfl
      · rintro H' ⟨sm, e⟩
        rw [hl, List.take_length] at e
        refine ⟨D, _, rfl, SqL.of e, ?_⟩
        have q' := q H' sm
        have ec : stampsD cs.length (.tuple ds) = (ds.map (withinD 0 1000000000000000000)).all id := by
          show (decide (ds.length = cs.length) && ds.all (withinD 0 1000000000000000000)) = _
          rw [decide_eq_true c2, List.all_map]
          rfl
        rw [ec] at q'
        exact q'
    · have e2 : decide (V.int (xs.length : Int) = V.int (cs.length : Int)) = false := decide_eq_false (fun z => c2 (by have := V.int.inj z; omega))
      rw [e2]
      have q' := q H (.refl H)
      have ec : stampsD cs.length (.tuple ds) = false := by
        show (decide (ds.length = cs.length) && ds.all (withinD 0 1000000000000000000)) = _
        rw [decide_eq_false c2, Bool.false_and]
      rw [ec] at q'
      exact q'
set_option maxHeartbeats 4000000 in
theorem ok_p_purse_fits {P : Program} {w : World} {K : PySem.W.Frag} {mg : Str → Option Value} {base : Heap} {f : Addr} {fd : FuncData} (F : Fun K "purse_fits" "purse_fits" s_p_purse_fits f fd) (D_p_are_stamps : Def P w K mg base "are_stamps" 2 ["cards", "thing"] (sp_p_are_stamps K)) (D_p_is_within : Def P w K mg base "is_within" 1 ["thing", "least", "most"] (sp_p_is_within K)) (b_len : mg "len" = none) (b_isinstance : mg "isinstance" = none) (b_tuple : mg "tuple" = none) {t_MOST : Tok} (g_MOST : mg "MOST" = some (.int 1000000000000000000 t_MOST)) :
    FnOk P w K mg base CX0 3 f fd ["cards", "thing"] (sp_p_purse_fits K) := by
  refine F.ok sc_p_purse_fits (fun vs H Q E h => ?_) (fun cdv A outer s H vs Q E hr h => ?_)
  · obtain ⟨cA, cs, x, d, rfl, hC, h3, hd, q⟩ := h
    rfl
  obtain ⟨cA, cs, x, d, rfl, hC, h3, hd, q⟩ := h
  refine ⟨_, (pss_cons (ps_if (PW.pt (pw_or (pt_not (pt_val (pe_callB call_isi (by rfl) b_isinstance PyProof.Rows.boot_isinstance (pa_cons (pv 1) (pa_cons (pe_bltn (v := .ty "tuple") rfl b_tuple PyProof.Rows.boot_tuple rfl) pa_nil))))) (pw_or1 (pt_cmpR op_ne (pe_callB call_len_seq (by rfl) b_len PySem.boot_len (pa_cons (pv 1) pa_nil)) pe_int (nomark _))))) (pss_one (ps_ret pe_bl)) pss_nil)
        (pss_cons (ps_asg (pv 1) (pg_tup rfl (pgs_cons (pg_name (i := 2) sc_p_purse_fits.nd rfl (Or.inl rfl)) (pgs_cons (pg_name (i := 3) sc_p_purse_fits.nd rfl (Or.inl rfl)) pgs_nil))))
        (pss_one (ps_ret (pe_and (pe_def D_p_is_within hr (pa_cons (pv 2) (pa_cons pe_int (pa_cons (pe_glob (v := .int 1000000000000000000) rfl g_MOST ⟨_, rfl⟩) pa_nil)))) (pe_one (pe_def D_p_are_stamps hr (pa_cons (pv 0) (pa_cons (pv 3) pa_nil))))))))), ?_⟩
  cases hd with
  | non => exact ⟨_, rfl, _, _, _, _, false, rfl, .ty "tuple", .base .non, kit_ty (by decide +kernel), _, rfl, q _ (.refl H)⟩
  | bl b => exact ⟨_, rfl, _, _, _, _, false, rfl, .ty "tuple", .base (.bl b), kit_ty (by decide +kernel), _, rfl, q _ (.refl H)⟩
  | str b => exact ⟨_, rfl, _, _, _, _, false, rfl, .ty "tuple", .base (.str b), kit_ty (by decide +kernel), _, rfl, q _ (.refl H)⟩
  | int b => exact ⟨_, rfl, _, _, _, _, false, rfl, .ty "tuple", .base (.int b), kit_ty (by decide +kernel), _, rfl, q _ (.refl H)⟩
  | lst h _ => exact ⟨_, rfl, _, _, _, _, false, rfl, .ty "tuple", tyL h, kit_ty (by decide +kernel), _, rfl, q _ (.refl H)⟩
  | @tup a xs ds h hx =>
    have hl := dp_len hx
    refine ⟨_, rfl, _, _, _, _, true, rfl, .ty "tuple", tyT h, kit_ty (by decide +kernel), _, rfl, ?_⟩
    refine ⟨_, rfl, a, _, rfl, .inr h, rfl, _, rfl, ?_⟩
    by_cases c2 : xs.length = 2
    · have e2 : decide (V.int (xs.length : Int) = V.int 2) = true := decide_eq_true (by rw [c2]; rfl)
      rw [e2]
      obtain ⟨x1, x2, rfl⟩ := len2 c2
      obtain ⟨d1, d2, rfl, y1, y2⟩ := dp_two hx
      refine ⟨_, rfl, a, [x1, x2], rfl, h, rfl, x1, [x2], rfl, x2, [], rfl, rfl, ?_⟩
      refine ⟨_, rfl, x1, d1, 0, 1000000000000000000, rfl, y1, _, rfl, ite2 (fun c => ?_) (fun c => ?_)⟩
      · refine ⟨_, rfl, _, rfl, cA, cs, x2, d2, rfl, hC, h3, y2, fun H' sm => ?_⟩
        have q' : Q (.bl (withinD 0 1000000000000000000 d1 && stampsD cs.length d2)) H' := q H' sm
        rw [c] at q'
        exact q'
      · have q' : Q (.bl (withinD 0 1000000000000000000 d1 && stampsD cs.length d2)) H := q H (.refl H)
        rw [Bool.eq_false_iff.mpr c] at q'
        exact q'
    · have e2 : decide (V.int (xs.length : Int) = V.int 2) = false := decide_eq_false (fun z => c2 (by have := V.int.inj z; omega))
      rw [e2]
      have q' := q H (.refl H)
      have ec : purseD cs.length (.tuple ds) = false := by
        exact purse_not2 (by omega)
      rw [ec] at q'
      exact q'
set_option maxHeartbeats 4000000 in
theorem ok_p_refuse_no_purse {P : Program} {w : World} {K : PySem.W.Frag} {mg : Str → Option Value} {base : Heap} {f : Addr} {fd : FuncData} (F : Fun K "refuse_no_purse" "refuse_no_purse" s_p_refuse_no_purse f fd) (D_p_purse_fits : Def P w K mg base "purse_fits" 3 ["cards", "thing"] (sp_p_purse_fits K)) :
    FnOk P w K mg base CX0 4 f fd ["cards", "thing"] (sp_p_refuse_no_purse K) := by
  refine F.ok sc_p_refuse_no_purse (fun vs H Q E h => ?_) (fun cdv A outer s H vs Q E hr h => ?_)
  · obtain ⟨cA, cs, x, d, rfl, hC, h3, hd, hp, q⟩ := h
    rfl
  obtain ⟨cA, cs, x, d, rfl, hC, h3, hd, hp, q⟩ := h
  refine ⟨_, (pss_one (ps_if (pt_not (pt_val (pe_def D_p_purse_fits hr (pa_cons (pv 0) (pa_cons (pv 1) pa_nil))))) (pss_one (ps_never)) pss_nil)), ?_⟩
  refine ⟨_, rfl, _, rfl, cA, cs, x, d, rfl, hC, h3, hd, fun H' sm => ⟨_, rfl, ?_⟩⟩
  rw [hp]
  exact q H' sm
set_option maxHeartbeats 4000000 in
theorem ok_p_refuse_no_number {P : Program} {w : World} {K : PySem.W.Frag} {mg : Str → Option Value} {base : Heap} {f : Addr} {fd : FuncData} (F : Fun K "refuse_no_number" "refuse_no_number" s_p_refuse_no_number f fd) (D_p_is_within : Def P w K mg base "is_within" 1 ["thing", "least", "most"] (sp_p_is_within K)) {t_MOST : Tok} (g_MOST : mg "MOST" = some (.int 1000000000000000000 t_MOST)) :
    FnOk P w K mg base CX0 2 f fd ["thing", "least"] (sp_p_refuse_no_number K) := by
  refine F.ok sc_p_refuse_no_number (fun vs H Q E h => ?_) (fun cdv A outer s H vs Q E hr h => ?_)
  · obtain ⟨x, d, lo, rfl, hd, hw, q⟩ := h
    rfl
  obtain ⟨x, d, lo, rfl, hd, hw, q⟩ := h
  refine ⟨_, (pss_one (ps_if (pt_not (pt_val (pe_def D_p_is_within hr (pa_cons (pv 0) (pa_cons (pv 1) (pa_cons (pe_glob (v := .int 1000000000000000000) rfl g_MOST ⟨_, rfl⟩) pa_nil)))))) (pss_one (ps_never)) pss_nil)), ?_⟩
  refine ⟨_, rfl, _, rfl, x, d, lo, 1000000000000000000, rfl, hd, _, rfl, ?_⟩
  rw [hw]
  exact q
set_option maxHeartbeats 4000000 in
theorem ok_p_full_cards {P : Program} {w : World} {K : PySem.W.Frag} {mg : Str → Option Value} {base : Heap} {f : Addr} {fd : FuncData} (F : Fun K "full_cards" "full_cards" s_p_full_cards f fd) (b_sum : mg "sum" = none) (b_zip : mg "zip" = none) :
    FnOk P w K mg base CX0 1 f fd ["cards", "stamps", "ridden"] (sp_p_full_cards K) := by
  refine F.ok sc_p_full_cards (fun vs H Q E h => ?_) (fun cdv A outer s H vs Q E hr h => ?_)
  · obtain ⟨cA, sA, cs, ss, n, rfl, hC, hS, hl, hK, q⟩ := h
    rfl
  obtain ⟨cA, sA, cs, ss, n, rfl, hC, hS, hl, hK, q⟩ := h
  refine ⟨_, (pss_one (ps_ret (pe_callB (cr_sum rfl) (by rfl) b_sum PyProof.Rows.boot_sum (pa_cons (pe_lc (own := [("full", 3), ("many", 4)]) (g := gTup K 2 (gCons (gName 3) (gCons (gName 4) gNil))) (tt := tYes) rfl sc_p_full_cards.nd (RZ.pi_zipA rfl b_zip (pa_cons (pv 0) (pa_cons (pv 1) pa_nil))) (blkOk_by (own := [("full", 3), ("many", 4)]) (N := ["cards", "stamps", "ridden", "full", "many"]) (sc := defScope s_p_full_cards) (by decide +kernel)) (fun _ _ _ _ _ => (pg_tup rfl (pgs_cons (pg_name (i := 3) sc_p_full_cards.nd rfl (Or.inl rfl)) (pgs_cons (pg_name (i := 4) sc_p_full_cards.nd rfl (Or.inl rfl)) pgs_nil)))) (fun _ _ _ _ _ => pts_nil) (fun _ _ _ _ _ => (pe_op op_fdiv (pe_op op_add (pv 4) (pv 2)) (pv 3)))) pa_nil)))), ?_⟩
  refine ⟨_, rfl, _, rfl, cA, sA, _, _, rfl, .inr ⟨hC, hS, fun D nD => ?_⟩⟩
  refine lc_zipT (K := K) (a := cA) (b := sA) (xs := cs.map V.int) (ys := ss.map V.int) (by rw [List.length_map, List.length_map, hl]) (fun i H' => Same H H' ∧ H' D = some (.lst (((fcl cs ss n).take i).map V.int))) ?_ ?_ ?_ ?_
  · exact ⟨same_new (.refl H) nD, upd_same⟩
  · rintro i H' ⟨sm, e⟩
    exact ⟨Same.seqT sm hC, Same.seqT sm hS⟩
  · rintro i x y T H' hx hy ⟨sm, e⟩ nT
    obtain ⟨c, hc, rfl⟩ := get_map hx
    obtain ⟨s', hs, rfl⟩ := get_map hy
    obtain ⟨c2, c20⟩ := hK.2.2 c (List.mem_of_getElem? hc)
    have hi : i < cs.length := (List.getElem?_eq_some_iff.mp hc).1
    have h3 := hK.2.1
    have e' : (upd H' T (.tup [.int c, .int s'])) D = some (.lst (((fcl cs ss n).take i).map V.int)) := by
      rw [upd_ne (ne_of_none e nT)]
      exact e
    refine ⟨T, _, rfl, SqT.of upd_same, rfl, _, _, rfl, _, _, rfl, rfl, rfl, _, rfl, _, rfl, _, _, rfl, rfl, _, rfl, _, _, rfl, rfl, ⟨by omega, by omega⟩, _, e', ?_, same_fresh (same_new sm nT) nD, ?_⟩
    · rw [List.length_map, List.length_take]
      exact small1000 (by omega)
    · rw [upd_same, List.take_add_one, fcl_get hc hs, List.map_append]
      rfl
  · rintro H' ⟨sm, e⟩
    rw [List.length_map, List.take_of_length_le (by rw [fcl_len hl]; exact Nat.le_refl _)] at e
    refine ⟨D, _, rfl, SqL.of e, ?_⟩
    rw [fcl_sum]
    exact q H' sm
set_option maxHeartbeats 4000000 in
theorem ok_p_pays_back {P : Program} {w : World} {K : PySem.W.Frag} {mg : Str → Option Value} {base : Heap} {f : Addr} {fd : FuncData} (F : Fun K "pays_back" "pays_back" s_p_pays_back f fd) (D_p_full_cards : Def P w K mg base "full_cards" 1 ["cards", "stamps", "ridden"] (sp_p_full_cards K)) :
    FnOk P w K mg base CX0 2 f fd ["cards", "purse", "number"] (sp_p_pays_back K) := by
  refine F.ok sc_p_pays_back (fun vs H Q E h => ?_) (fun cdv A outer s H vs Q E hr h => ?_)
  · obtain ⟨cA, pA, cs, r, ss, n, rfl, hC, hP, hK, hl, q⟩ := h
    rfl
  obtain ⟨cA, pA, cs, r, ss, n, rfl, hC, hP, hK, hl, q⟩ := h
  refine ⟨_, (pss_cons (ps_asg (pv 1) (pg_tup rfl (pgs_cons (pg_name (i := 3) sc_p_pays_back.nd rfl (Or.inl rfl)) (pgs_cons (pg_name (i := 4) sc_p_pays_back.nd rfl (Or.inl rfl)) pgs_nil))))
        (pss_one (ps_ret (pe_cmpR op_le (pv 2) (pe_op op_add (pv 3) (pe_def D_p_full_cards hr (pa_cons (pv 0) (pa_cons (pv 4) (pa_cons (pv 2) pa_nil))))) (nomark _))))), ?_⟩
  obtain ⟨sA, hP1, hP2⟩ := hP
  refine ⟨_, rfl, pA, _, rfl, hP1, rfl, _, _, rfl, _, _, rfl, rfl, ?_⟩
  refine ⟨_, rfl, _, rfl, _, rfl, _, rfl, _, rfl, cA, sA, cs, ss, n, rfl, hC, hP2, hl, hK, fun H' s' => ?_⟩
  exact ⟨_, _, rfl, rfl, _, _, rfl, rfl, q H' s'⟩
set_option maxHeartbeats 4000000 in
theorem ok_p_refuse_no_stamps {P : Program} {w : World} {K : PySem.W.Frag} {mg : Str → Option Value} {base : Heap} {f : Addr} {fd : FuncData} (F : Fun K "refuse_no_stamps" "refuse_no_stamps" s_p_refuse_no_stamps f fd) (D_p_are_stamps : Def P w K mg base "are_stamps" 2 ["cards", "thing"] (sp_p_are_stamps K)) :
    FnOk P w K mg base CX0 3 f fd ["cards", "thing"] (sp_p_refuse_no_stamps K) := by
  refine F.ok sc_p_refuse_no_stamps (fun vs H Q E h => ?_) (fun cdv A outer s H vs Q E hr h => ?_)
  · obtain ⟨cA, cs, x, d, rfl, hC, h3, hd, hp, q⟩ := h
    rfl
  obtain ⟨cA, cs, x, d, rfl, hC, h3, hd, hp, q⟩ := h
  refine ⟨_, (pss_one (ps_if (pt_not (pt_val (pe_def D_p_are_stamps hr (pa_cons (pv 0) (pa_cons (pv 1) pa_nil))))) (pss_one (ps_never)) pss_nil)), ?_⟩
  refine ⟨_, rfl, _, rfl, cA, cs, x, d, rfl, hC, h3, hd, fun H' sm => ⟨_, rfl, ?_⟩⟩
  rw [hp]
  exact q H' sm
set_option maxHeartbeats 4000000 in
theorem ok_p_period_of {P : Program} {w : World} {K : PySem.W.Frag} {mg : Str → Option Value} {base : Heap} {f : Addr} {fd : FuncData} (F : Fun K "period_of" "period_of" s_p_period_of f fd) :
    FnOk P w K mg base CX0 1 f fd ["cards"] (sp_p_period_of K) := by
  refine F.ok sc_p_period_of (fun vs H Q E h => ?_) (fun cdv A outer s H vs Q E hr h => ?_)
  · obtain ⟨cA, cs, rfl, hC, hK, q⟩ := h
    rfl
  obtain ⟨cA, cs, rfl, hC, hK, q⟩ := h
  refine ⟨_, (pss_cons (ps_set (i := 1) sc_p_period_of.nd rfl (Or.inl rfl) pe_int)
        (pss_cons (ps_for PassesOwn.never rfl (pi_tup (pv 0)) (pg_name (i := 2) sc_p_period_of.nd rfl (Or.inl rfl)) (pss_cons (ps_set (i := 3) sc_p_period_of.nd rfl (Or.inl rfl) (pv 1))
        (pss_one (ps_while PassesOwn.never (pt_cmpR op_ne (pe_op op_mod (pv 1) (pv 2)) pe_int (nomark _)) (pss_one (ps_aug (i := 1) sc_p_period_of.nd rfl (Or.inl rfl) (pv 3) ip_add))))))
        (pss_one (ps_ret (pv 1))))), ?_⟩
  refine ⟨_, rfl, cA, rfl, ⟨_, hC⟩, ?_⟩
  refine for_tup (K := K) (a := cA) (xs := cs.map V.int) (fun i σ H' => ∃ y2 y3, σ = [some (.ref cA), some (.int (perFrom 1 (cs.take i))), y2, y3] ∧ H' = H) ?_ ?_ ?_ ?_
  · exact ⟨_, _, rfl, rfl⟩
  · rintro i σ H' hi ⟨y2, y3, rfl, rfl⟩
    exact hC
  · rintro i x σ H' hi ⟨y2, y3, rfl, rfl⟩
    obtain ⟨c, hc, rfl⟩ := get_map hi
    have hm : c ∈ cs := List.mem_of_getElem? hc
    obtain ⟨c2, c20⟩ := hK.2.2 c hm
    have et : perFrom 1 (cs.take (i + 1)) = perGo 20 (perFrom 1 (cs.take i)) (perFrom 1 (cs.take i)) c := by
      unfold perFrom
      rw [List.take_add_one, hc, List.foldl_append]
      rfl
    have h1 := (perFrom_ok (cs.take i) 1 (fun z hz => hK.2.2 z (List.mem_of_mem_take hz)) (by omega)).1
    generalize perFrom 1 (cs.take i) = st at et h1 ⊢
    refine ⟨_, rfl, ?_⟩
    refine while_by (fun σ H'' => ∃ (n : Nat) (k p : Int), σ = [some (.ref cA), some (.int p), some (.int c), some (.int st)] ∧ H'' = H' ∧ p = st * k ∧ 1 ≤ k ∧ k ≤ c ∧ (n : Int) + k = 21 ∧ perGo n st p c = perGo 20 st st c) (fun (σ : L2.St) (_ : Hp) => match σ with | [_, some (V.int p), some (V.int c), some (V.int st)] => (st * c - p).toNat | _ => 0) ?_ ?_ ?_
    · exact ⟨20, 1, st, rfl, rfl, by omega, by omega, by omega, by omega, rfl⟩
    · rintro σ H'' ⟨n, k, p, rfl, rfl, hp, k1, kc, hn, hg⟩
      refine ⟨_, rfl, _, rfl, _, _, rfl, rfl, (by omega), rfl, _, rfl, ?_⟩
      obtain ⟨n', rfl⟩ : ∃ n', n = n' + 1 := ⟨n - 1, by omega⟩
      rw [perGo_succ] at hg
      by_cases z : p % c = 0
      · rw [if_pos z] at hg
        refine iteNS (c := V.int (p % c) = V.int 0) (by rw [z]) ?_
        refine ⟨some (.int c), some (.int st), ?_, rfl⟩
        rw [et, ← hg]
      · rw [if_neg z] at hg
        have hd : decide (V.int (p % c) = V.int 0) = false := decide_eq_false (fun e => z (V.int.inj e))
        refine ite2 (fun _ => ?_) (fun e => absurd (show (!decide (V.int (p % c) = V.int 0)) = true by rw [hd]; rfl) e)
        have kc' : k ≠ c := fun e => z (by rw [hp, e]; exact Int.mul_emod_left _ _)
        have e1 : st * (k + 1) = p + st := by rw [Int.mul_add, Int.mul_one, hp]
        have e2 : st * (k + 1) ≤ st * c := Int.mul_le_mul_of_nonneg_left (by omega) (by omega)
        refine ⟨_, rfl, _, rfl, _, _, rfl, rfl, ⟨n', k + 1, _, rfl, rfl, e1.symm, by omega, by omega, by omega, hg⟩, ?_⟩
        show (st * c - (p + st)).toNat < (st * c - p).toNat
        omega
    · rintro σ H'' Q1 Q2 hq ⟨v, e, v2, e', i, j, e1, e2, hj, hs, k, e3, h⟩
      exact ⟨v, e, v2, e', i, j, e1, e2, hj, hs, k, e3, hq _ _ h⟩
  · rintro σ H' ⟨y2, y3, rfl, rfl⟩
    rw [List.length_map, List.take_length]
    exact ⟨_, rfl, q⟩
set_option maxHeartbeats 4000000 in
theorem ok_p_period_pays {P : Program} {w : World} {K : PySem.W.Frag} {mg : Str → Option Value} {base : Heap} {f : Addr} {fd : FuncData} (F : Fun K "period_pays" "period_pays" s_p_period_pays f fd) (D_p_period_of : Def P w K mg base "period_of" 1 ["cards"] (sp_p_period_of K)) (b_sum : mg "sum" = none) :
    FnOk P w K mg base CX0 2 f fd ["cards"] (sp_p_period_pays K) := by
  refine F.ok sc_p_period_pays (fun vs H Q E h => ?_) (fun cdv A outer s H vs Q E hr h => ?_)
  · obtain ⟨cA, cs, rfl, hC, hK, q⟩ := h
    rfl
  obtain ⟨cA, cs, rfl, hC, hK, q⟩ := h
  refine ⟨_, (pss_cons (ps_set (i := 1) sc_p_period_pays.nd rfl (Or.inr rfl) (pe_def D_p_period_of hr (pa_cons (pv 0) pa_nil)))
        (pss_one (ps_ret (pe_cmpR op_ge (pe_callB (cr_sum rfl) (by rfl) b_sum PyProof.Rows.boot_sum (pa_cons (pe_lc (own := [("full", 2)]) (g := gName 2) (tt := tYes) rfl sc_p_period_pays.nd (pi_tup (pv 0)) (blkOk_by (own := [("full", 2)]) (N := ["cards", "period", "full"]) (sc := defScope s_p_period_pays) (by decide +kernel)) (fun _ _ _ _ _ => (pg_name (i := 2) sc_p_period_pays.nd rfl (Or.inl rfl))) (fun _ _ _ _ _ => pts_nil) (fun _ _ _ _ _ => (pe_op op_fdiv (pv 1) (pv 2)))) pa_nil)) (pv 1) (nomark _))))), ?_⟩
  refine ⟨_, rfl, cA, cs, rfl, hC, hK, ?_⟩
  refine ⟨_, rfl, cA, rfl, ⟨_, hC⟩, fun D nD => ?_⟩
  refine lc_tup (K := K) (a := cA) (xs := cs.map V.int) (fun i H' => Same H H' ∧ H' D = some (.lst (((cs.take i).map (fun c => perOf cs / c)).map V.int))) ?_ ?_ ?_ ?_
  · exact ⟨same_new (.refl H) nD, upd_same⟩
  · rintro i H' hi ⟨sm, e⟩
    exact Same.seqT sm hC
  · rintro i y H' hi ⟨sm, e⟩
    obtain ⟨c, hc, rfl⟩ := get_map hi
    obtain ⟨c2, c20⟩ := hK.2.2 c (List.mem_of_getElem? hc)
    have hi' : i < cs.length := (List.getElem?_eq_some_iff.mp hc).1
    have h3 := hK.2.1
    refine ⟨rfl, _, rfl, _, rfl, _, _, rfl, rfl, ⟨by omega, by omega⟩, _, e, ?_, same_fresh sm nD, ?_⟩
    · rw [List.length_map, List.length_map, List.length_take]
      exact small1000 (by omega)
    · rw [upd_same, take_map _ hc, List.map_append]
      rfl
  · rintro H' ⟨sm, e⟩
    rw [List.length_map, List.take_length] at e
    refine ⟨D, _, rfl, SqL.of e, _, rfl, _, _, rfl, rfl, ?_⟩
    refine q _ H' sm ?_
    rw [pq_sum, decide_eq_true_eq]
set_option maxHeartbeats 4000000 in
theorem ok_p_rides_wanted {P : Program} {w : World} {K : PySem.W.Frag} {mg : Str → Option Value} {base : Heap} {f : Addr} {fd : FuncData} (F : Fun K "rides_wanted" "rides_wanted" s_p_rides_wanted f fd) (D_p_full_cards : Def P w K mg base "full_cards" 1 ["cards", "stamps", "ridden"] (sp_p_full_cards K)) (b_range : mg "range" = none) (b_max : mg "max" = none) :
    FnOk P w K mg base CX0 2 f fd ["cards", "stamps", "first", "end"] (sp_p_rides_wanted K) := by
  refine F.ok sc_p_rides_wanted (fun vs H Q E h => ?_) (fun cdv A outer s H vs Q E hr h => ?_)
  · obtain ⟨cA, sA, cs, ss, lo, hi, rfl, hC, hS, hl, hK, h0, h1, h2, q⟩ := h
    rfl
  obtain ⟨cA, sA, cs, ss, lo, hi, rfl, hC, hS, hl, hK, h0, h1, h2, q⟩ := h
  refine ⟨_, (pss_cons (ps_set (i := 4) sc_p_rides_wanted.nd rfl (Or.inl rfl) pe_int)
        (pss_cons (ps_for PassesOwn.never rfl (pi_range2 rfl b_range (pa_cons (pv 2) (pa_cons (pv 3) pa_nil))) (pg_name (i := 5) sc_p_rides_wanted.nd rfl (Or.inl rfl)) (pss_one (ps_set (i := 4) sc_p_rides_wanted.nd rfl (Or.inl rfl) (pe_callB (call_max2 rfl) (by rfl) b_max PyProof.Rows.boot_max (pa_cons (pv 4) (pa_cons (pe_op op_sub (pe_op op_add (pv 5) pe_int) (pe_def D_p_full_cards hr (pa_cons (pv 0) (pa_cons (pv 1) (pa_cons (pv 5) pa_nil))))) pa_nil))))))
        (pss_one (ps_ret (pv 4))))), ?_⟩
  refine ⟨_, rfl, _, rfl, lo, hi, rfl, ⟨by omega, by omega, by omega, by omega⟩, ?_⟩
  refine for_range (lo := lo) (n := (hi - lo).toNat) (fun i σ H' => ∃ (v : Int) (y : Option V), σ = [some (.ref cA), some (.ref sA), some (.int lo), some (.int hi), some (.int v), y] ∧ Same H H' ∧ Want cs ss lo (lo + i) v) ?_ ?_ ?_
  · exact ⟨0, _, rfl, .refl H, by omega, fun m m0 m1 => by omega, .inl rfl⟩
  · rintro i σ H' hi' ⟨v, y, rfl, sm, hw⟩
    refine ⟨_, rfl, _, rfl, _, _, rfl, rfl, _, rfl, _, rfl, _, rfl, cA, sA, cs, ss, _, rfl, Same.seqT sm hC, Same.seqT sm hS, hl, hK, fun H2 s2 => ?_⟩
    refine ⟨_, _, rfl, rfl, _, _, rfl, _, _, rfl, sm.trans s2, ?_⟩
    have := want_step hw (by omega)
    rw [show lo + ((i + 1 : Nat) : Int) = lo + (i : Int) + 1 by omega]
    exact this
  · rintro σ H' ⟨v, y, rfl, sm, hw⟩
    rw [show lo + (((hi - lo).toNat : Nat) : Int) = hi by omega] at hw
    exact ⟨_, rfl, q v H' sm hw⟩
set_option maxHeartbeats 4000000 in
theorem ok_p_least_rides {P : Program} {w : World} {K : PySem.W.Frag} {mg : Str → Option Value} {base : Heap} {f : Addr} {fd : FuncData} (F : Fun K "least_rides" "least_rides" s_p_least_rides f fd) (D_p_refuse_no_cards : Def P w K mg base "refuse_no_cards" 3 ["thing"] (sp_p_refuse_no_cards K)) (D_p_refuse_no_stamps : Def P w K mg base "refuse_no_stamps" 3 ["cards", "thing"] (sp_p_refuse_no_stamps K)) (D_p_refuse_no_number : Def P w K mg base "refuse_no_number" 2 ["thing", "least"] (sp_p_refuse_no_number K)) (D_p_period_of : Def P w K mg base "period_of" 1 ["cards"] (sp_p_period_of K)) (D_p_period_pays : Def P w K mg base "period_pays" 2 ["cards"] (sp_p_period_pays K)) (D_p_rides_wanted : Def P w K mg base "rides_wanted" 2 ["cards", "stamps", "first", "end"] (sp_p_rides_wanted K)) (b_min : mg "min" = none) (b_max : mg "max" = none) :
    FnOk P w K mg base CX0 4 f fd ["cards", "stamps", "number"] (sp_p_least_rides K) := by
  refine F.ok sc_p_least_rides (fun vs H Q E h => ?_) (fun cdv A outer s H vs Q E hr h => ?_)
  · obtain ⟨cA, sA, cs, ss, n, rfl, hC, hS, hK, hSt, n0, n1, q⟩ := h
    rfl
  obtain ⟨cA, sA, cs, ss, n, rfl, hC, hS, hK, hSt, n0, n1, q⟩ := h
  refine ⟨_, (pss_cons (ps_expr (pe_def D_p_refuse_no_cards hr (pa_cons (pv 0) pa_nil)))
        (pss_cons (ps_expr (pe_def D_p_refuse_no_stamps hr (pa_cons (pv 0) (pa_cons (pv 1) pa_nil))))
        (pss_cons (ps_expr (pe_def D_p_refuse_no_number hr (pa_cons (pv 2) (pa_cons pe_int pa_nil))))
        (pss_cons (ps_set (i := 3) sc_p_least_rides.nd rfl (Or.inl rfl) (pe_def D_p_period_of hr (pa_cons (pv 0) pa_nil)))
        (pss_cons (ps_if (pt_val (pe_def D_p_period_pays hr (pa_cons (pv 0) pa_nil))) (pss_one (ps_ret (pe_def D_p_rides_wanted hr (pa_cons (pv 0) (pa_cons (pv 1) (pa_cons pe_int (pa_cons (pe_callB (call_min2 rfl) (by rfl) b_min PyProof.Rows.boot_min (pa_cons (pv 2) (pa_cons (pv 3) pa_nil))) pa_nil))))))) pss_nil)
        (pss_one (ps_ret (pe_def D_p_rides_wanted hr (pa_cons (pv 0) (pa_cons (pv 1) (pa_cons (pe_callB (call_max2 rfl) (by rfl) b_max PyProof.Rows.boot_max (pa_cons pe_int (pa_cons (pe_op op_sub (pv 2) (pv 3)) pa_nil))) (pa_cons (pv 2) pa_nil)))))))))))), ?_⟩
  have hl : cs.length = ss.length := hSt.1.symm
  obtain ⟨p1, p2, p3⟩ := perOf_ok hK
  refine ⟨_, rfl, _, _, rfl, .tup hC (dp_ints cs), cardsD_ok hK, fun H1 s1 => ?_⟩
  refine ⟨_, rfl, _, rfl, cA, _, _, _, rfl, Same.seqT s1 hC, ?_, .tup (Same.seqT s1 hS) (dp_ints ss), ?_, fun H2 s2 => ?_⟩
  · rw [List.length_map]
    exact hK.2.1
  · rw [List.length_map]
    exact stampsD_ok hSt
  refine ⟨_, rfl, _, .int n, 0, rfl, .int n, ?_, ?_⟩
  · show (decide (0 ≤ n) && decide (n ≤ 1000000000000000000)) = true
    rw [decide_eq_true n0, decide_eq_true n1]
    rfl
  have s := s1.trans s2
  refine ⟨_, rfl, cA, cs, rfl, Same.seqT s hC, hK, ?_⟩
  refine ⟨_, rfl, cA, cs, rfl, Same.seqT s hC, hK, fun b H3 s3 hb => ⟨_, rfl, ite2 (fun c => ?_) (fun c => ?_)⟩⟩
  · have hp := hb.mp c
    have s' := s.trans s3
    refine ⟨_, rfl, _, rfl, _, rfl, _, rfl, _, _, rfl, cA, sA, cs, ss, 0, _, rfl, Same.seqT s' hC, Same.seqT s' hS, hl, hK, by omega, ?_, ?_, fun v H4 s4 hw => q v H4 (s'.trans s4) ?_⟩
    · split <;> omega
    · split <;> omega
    · split at hw
      · exact want_pays hK hl hp (by omega) hw
      · exact hw
  · have hp : pq (perOf cs) cs < perOf cs := by
      by_cases z : perOf cs ≤ pq (perOf cs) cs
      · exact absurd (hb.mpr z) c
      · omega
    have s' := s.trans s3
    refine ⟨_, rfl, _, rfl, _, rfl, _, rfl, _, _, rfl, rfl, _, _, rfl, _, rfl, cA, sA, cs, ss, _, n, rfl, Same.seqT s' hC, Same.seqT s' hS, hl, hK, ?_, ?_, by omega, fun v H4 s4 hw => q v H4 (s'.trans s4) ?_⟩
    · split <;> omega
    · split <;> omega
    · split at hw
      · exact want_wears hK hl hp (by omega) hw
      · exact hw
set_option maxHeartbeats 4000000 in
theorem ok_p_least_loan {P : Program} {w : World} {K : PySem.W.Frag} {mg : Str → Option Value} {base : Heap} {f : Addr} {fd : FuncData} (F : Fun K "least_loan" "least_loan" s_p_least_loan f fd) (D_p_refuse_no_cards : Def P w K mg base "refuse_no_cards" 3 ["thing"] (sp_p_refuse_no_cards K)) (D_p_refuse_no_purse : Def P w K mg base "refuse_no_purse" 4 ["cards", "thing"] (sp_p_refuse_no_purse K)) (D_p_refuse_no_number : Def P w K mg base "refuse_no_number" 2 ["thing", "least"] (sp_p_refuse_no_number K)) (D_p_pays_back : Def P w K mg base "pays_back" 2 ["cards", "purse", "number"] (sp_p_pays_back K)) (D_p_least_rides : Def P w K mg base "least_rides" 4 ["cards", "stamps", "number"] (sp_p_least_rides K)) (b_max : mg "max" = none) :
    FnOk P w K mg base CX0 5 f fd ["cards", "purse", "number"] (sp_p_least_loan K) := by
  refine F.ok sc_p_least_loan (fun vs H Q E h => ?_) (fun cdv A outer s H vs Q E hr h => ?_)
  · obtain ⟨cA, pA, cs, r, ss, n, rfl, hC, hP, hK, hS, hr0, hr1, n0, n1, q⟩ := h
    rfl
  obtain ⟨cA, pA, cs, r, ss, n, rfl, hC, hP, hK, hS, hr0, hr1, n0, n1, q⟩ := h
  refine ⟨_, (pss_cons (ps_expr (pe_def D_p_refuse_no_cards hr (pa_cons (pv 0) pa_nil)))
        (pss_cons (ps_expr (pe_def D_p_refuse_no_purse hr (pa_cons (pv 0) (pa_cons (pv 1) pa_nil))))
        (pss_cons (ps_expr (pe_def D_p_refuse_no_number hr (pa_cons (pv 2) (pa_cons pe_int pa_nil))))
        (pss_cons (ps_if (pt_not (pt_val (pe_def D_p_pays_back hr (pa_cons (pv 0) (pa_cons (pv 1) (pa_cons (pv 2) pa_nil)))))) (pss_one (ps_ret pe_non)) pss_nil)
        (pss_cons (ps_asg (pv 1) (pg_tup rfl (pgs_cons (pg_name (i := 3) sc_p_least_loan.nd rfl (Or.inl rfl)) (pgs_cons (pg_name (i := 4) sc_p_least_loan.nd rfl (Or.inl rfl)) pgs_nil))))
        (pss_one (ps_ret (pe_callB (call_max2 rfl) (by rfl) b_max PyProof.Rows.boot_max (pa_cons pe_int (pa_cons (pe_op op_sub (pe_def D_p_least_rides hr (pa_cons (pv 0) (pa_cons (pv 4) (pa_cons (pv 2) pa_nil)))) (pv 3)) pa_nil)))))))))), ?_⟩
  refine ⟨_, rfl, _, _, rfl, .tup hC (dp_ints cs), cardsD_ok hK, fun H1 s1 => ?_⟩
  refine ⟨_, rfl, _, rfl, cA, _, _, _, rfl, Same.seqT s1 hC, ?_, (hP.same s1).dp, ?_, fun H2 s2 => ?_⟩
  · rw [List.length_map]
    exact hK.2.1
  · rw [List.length_map]
    exact purseD_ok hr0 hr1 hS
  have s := s1.trans s2
  refine ⟨_, rfl, _, .int n, 0, rfl, .int n, ?_, ?_⟩
  · show (decide (0 ≤ n) && decide (n ≤ 1000000000000000000)) = true
    rw [decide_eq_true n0, decide_eq_true n1]
    rfl
  refine ⟨_, rfl, _, rfl, _, rfl, cA, pA, cs, r, ss, n, rfl, Same.seqT s hC, hP.same s, hK, hS.1.symm, fun H3 s3 => ⟨_, rfl, ?_⟩⟩
  have s' := s.trans s3
  by_cases z : n ≤ r + fc cs ss n
  · rw [decide_eq_true z]
    obtain ⟨sA, hP1, hP2⟩ := hP.same s'
    refine ⟨_, rfl, pA, _, rfl, hP1, rfl, _, _, rfl, _, _, rfl, rfl, ?_⟩
    refine ⟨_, rfl, _, rfl, _, rfl, cA, sA, cs, ss, n, rfl, Same.seqT s' hC, hP2, hK, hS, n0, n1, fun w H4 s4 hw => ?_⟩
    refine ⟨_, rfl, _, _, rfl, rfl, _, _, rfl, ?_⟩
    exact q _ H4 (s'.trans s4) (.inr ⟨w, rfl, hw, z⟩)
  · rw [decide_eq_false z]
    exact q .non H3 s' (.inl ⟨rfl, z⟩)
set_option maxHeartbeats 4000000 in
theorem ok_p_can_have {P : Program} {w : World} {K : PySem.W.Frag} {mg : Str → Option Value} {base : Heap} {f : Addr} {fd : FuncData} (F : Fun K "can_have" "can_have" s_p_can_have f fd) (D_p_refuse_no_cards : Def P w K mg base "refuse_no_cards" 3 ["thing"] (sp_p_refuse_no_cards K)) (D_p_refuse_no_purse : Def P w K mg base "refuse_no_purse" 4 ["cards", "thing"] (sp_p_refuse_no_purse K)) (D_p_refuse_no_number : Def P w K mg base "refuse_no_number" 2 ["thing", "least"] (sp_p_refuse_no_number K)) (D_p_pays_back : Def P w K mg base "pays_back" 2 ["cards", "purse", "number"] (sp_p_pays_back K)) :
    FnOk P w K mg base CX0 5 f fd ["cards", "purse", "number"] (sp_p_can_have K) := by
  refine F.ok sc_p_can_have (fun vs H Q E h => ?_) (fun cdv A outer s H vs Q E hr h => ?_)
  · obtain ⟨cA, pA, cs, r, ss, n, rfl, hC, hP, hK, hS, hr0, hr1, n0, n1, q⟩ := h
    rfl
  obtain ⟨cA, pA, cs, r, ss, n, rfl, hC, hP, hK, hS, hr0, hr1, n0, n1, q⟩ := h
  refine ⟨_, (pss_cons (ps_expr (pe_def D_p_refuse_no_cards hr (pa_cons (pv 0) pa_nil)))
        (pss_cons (ps_expr (pe_def D_p_refuse_no_purse hr (pa_cons (pv 0) (pa_cons (pv 1) pa_nil))))
        (pss_cons (ps_expr (pe_def D_p_refuse_no_number hr (pa_cons (pv 2) (pa_cons pe_int pa_nil))))
        (pss_one (ps_ret (pe_def D_p_pays_back hr (pa_cons (pv 0) (pa_cons (pv 1) (pa_cons (pv 2) pa_nil))))))))), ?_⟩
  refine ⟨_, rfl, _, _, rfl, .tup hC (dp_ints cs), cardsD_ok hK, fun H1 s1 => ?_⟩
  refine ⟨_, rfl, _, rfl, cA, _, _, _, rfl, Same.seqT s1 hC, ?_, (hP.same s1).dp, ?_, fun H2 s2 => ?_⟩
  · rw [List.length_map]
    exact hK.2.1
  · rw [List.length_map]
    exact purseD_ok hr0 hr1 hS
  have s := s1.trans s2
  refine ⟨_, rfl, _, .int n, 0, rfl, .int n, ?_, ?_⟩
  · show (decide (0 ≤ n) && decide (n ≤ 1000000000000000000)) = true
    rw [decide_eq_true n0, decide_eq_true n1]
    rfl
  exact ⟨_, rfl, _, rfl, _, rfl, cA, pA, cs, r, ss, n, rfl, Same.seqT s hC, hP.same s, hK, hS.1.symm, fun H3 s3 => q H3 (s.trans s3)⟩
set_option maxHeartbeats 4000000 in
theorem ok_m_init {P : Program} {w : World} {K : PySem.W.Frag} {mg : Str → Option Value} {base : Heap} {f : Addr} {fd : FuncData} (F : Fun K "__init__" "Kept.__init__" s_m_init f fd) {C : Addr} (T : KeptT K mg C) (D_p_refuse_no_cards : Def P w K mg base "refuse_no_cards" 3 ["thing"] (sp_p_refuse_no_cards K)) (D_p_refuse_no_purse : Def P w K mg base "refuse_no_purse" 4 ["cards", "thing"] (sp_p_refuse_no_purse K)) :
    FnOk P w K mg base CX0 5 f fd ["self", "cards", "purse"] (sp_m_init K C) := by
  refine F.ok sc_m_init (fun vs H Q E h => ?_) (fun cdv A outer s H vs Q E hr h => ?_)
  · obtain ⟨x, dx, cA, pA, cs, r, ss, rfl, hx, hC, hP, hK, hS, hr0, hr1, q⟩ := h
    rfl
  obtain ⟨x, dx, cA, pA, cs, r, ss, rfl, hx, hC, hP, hK, hS, hr0, hr1, q⟩ := h
  refine ⟨_, (pss_cons (ps_expr (pe_def D_p_refuse_no_cards hr (pa_cons (pv 1) pa_nil)))
        (pss_cons (ps_expr (pe_def D_p_refuse_no_purse hr (pa_cons (pv 1) (pa_cons (pv 2) pa_nil))))
        (pss_cons (ps_fld (pv 0) (pv 1) rfl)
        (pss_one (ps_fld (pv 0) (pe_lst (pa_cons (pe_tup (pa_cons (pv 2) (pa_cons pe_int (pa_cons pe_int pa_nil)))) pa_nil)) rfl))))), ?_⟩
  refine ⟨_, rfl, _, _, rfl, .tup hC (dp_ints cs), cardsD_ok hK, fun H1 s1 => ?_⟩
  refine ⟨_, rfl, _, rfl, cA, _, _, _, rfl, Same.seqT s1 hC, ?_, (hP.same s1).dp, ?_, fun H2 s2 => ?_⟩
  · rw [List.length_map]
    exact hK.2.1
  · rw [List.length_map]
    exact purseD_ok hr0 hr1 hS
  have s := s1.trans s2
  refine ⟨_, rfl, _, rfl, x, C, dx, [], rfl, s _ _ hx, T.cl, T.nC, (by show 0 < 1000; decide), ?_⟩
  have e3 : (upd H2 x (.ins C dx (putF "cards" (.ref cA) []))) x = some (.ins C dx (putF "cards" (.ref cA) [])) := upd_same
  have b3 : ∀ b o, H b = some o → b ≠ x → (upd H2 x (.ins C dx (putF "cards" (.ref cA) []))) b = some o := fun b o e hb => by
    rw [upd_ne hb]
    exact s _ _ e
  have nxt : ∀ {a : Addr} {xs : List V}, SqT K H2 a xs → SqT K (upd H2 x (.ins C dx (putF "cards" (.ref cA) []))) a xs := fun {a xs} h => by
    have hx2 := s _ _ hx
    rcases h with (h | ⟨ob, h⟩) | h
    · exact .inl (.inl (by rw [upd_ne (ne_of h hx2 (fun z => nomatch z))]; exact h))
    · exact .inl (.inr ⟨ob, by rw [upd_ne (ne_of h hx2 (fun z => nomatch z))]; exact h⟩)
    · exact .inr h
  have hC3 := nxt (Same.seqT s hC)
  obtain ⟨zA, hp1, hp2⟩ := hP.same s
  have hP3 : Purse K (upd H2 x (.ins C dx (putF "cards" (.ref cA) []))) pA r ss := ⟨zA, nxt hp1, nxt hp2⟩
  have n3 : ∀ a, (upd H2 x (.ins C dx (putF "cards" (.ref cA) []))) a = none → H a = none := fun a h => by
    cases z : H a with
    | none => rfl
    | some o =>
      by_cases y : a = x
      · rw [y, e3] at h
        cases h
      · rw [b3 a o z y] at h
        cases h
  generalize (upd H2 x (.ins C dx (putF "cards" (.ref cA) []))) = H3 at *
  refine ⟨_, rfl, (by show 3 ≤ sizeLine; decide), fun t nt => ⟨(by show 1 ≤ sizeLine; decide), fun sA nsA => ?_⟩⟩
  have s4 := same_upd (o := .tup [.ref pA, .int 0, .int 0]) nt
  have s5 := same_upd (o := .lst [.ref t]) nsA
  refine ⟨_, rfl, x, C, dx, _, rfl, (s4.trans s5) _ _ e3, T.cl, T.nS, (by show 1 < 1000; decide), ?_⟩
  have e5 : (upd (upd H3 t (.tup [.ref pA, .int 0, .int 0])) sA (.lst [.ref t])) x = some (.ins C dx (putF "cards" (.ref cA) [])) := (s4.trans s5) _ _ e3
  have nxt2 : ∀ {a : Addr} {xs : List V}, SqT K (upd (upd H3 t (.tup [.ref pA, .int 0, .int 0])) sA (.lst [.ref t])) a xs → SqT K (upd (upd (upd H3 t (.tup [.ref pA, .int 0, .int 0])) sA (.lst [.ref t])) x (.ins C dx (putF "states" (.ref sA) (putF "cards" (.ref cA) [])))) a xs := fun {a xs} h => by
    rcases h with (h | ⟨ob, h⟩) | h
    · exact .inl (.inl (by rw [upd_ne (ne_of h e5 (fun z => nomatch z))]; exact h))
    · exact .inl (.inr ⟨ob, by rw [upd_ne (ne_of h e5 (fun z => nomatch z))]; exact h⟩)
    · exact .inr h
  refine q sA _ (n3 sA (s4.free nsA)) ⟨⟨dx, cA, upd_same, nxt2 (Same.seqT (s4.trans s5) hC3)⟩, [t], ?_, ?_⟩ fun b o e hb => ?_
  · rw [upd_ne (ne_of (show (upd (upd H3 t (.tup [.ref pA, .int 0, .int 0])) sA (.lst [.ref t])) sA = some (.lst [.ref t]) from upd_same) e5 (fun z => nomatch z)), upd_same]
    rfl
  · obtain ⟨zA', hq1, hq2⟩ := hP3.same (s4.trans s5)
    exact .cons (k := ⟨r, ss, 0, 0⟩) (nxt2 (Same.seqT s5 (SqT.of upd_same))) ⟨zA', nxt2 hq1, nxt2 hq2⟩ .nil
  · rw [upd_ne hb]
    exact (s4.trans s5) _ _ (b3 b o e hb)
set_option maxHeartbeats 4000000 in
theorem ok_m_lend {P : Program} {w : World} {K : PySem.W.Frag} {mg : Str → Option Value} {base : Heap} {f : Addr} {fd : FuncData} (F : Fun K "lend" "Kept.lend" s_m_lend f fd) {C : Addr} (T : KeptT K mg C) (D_p_refuse_no_number : Def P w K mg base "refuse_no_number" 2 ["thing", "least"] (sp_p_refuse_no_number K)) :
    FnOk P w K mg base CX0 3 f fd ["self", "number"] (sp_m_lend K C) := by
  refine F.ok sc_m_lend (fun vs H Q E h => ?_) (fun cdv A outer s H vs Q E hr h => ?_)
  · obtain ⟨x, sA, cs, ks, k, n, rfl, hX, n0, n1, hlen, q⟩ := h
    rfl
  obtain ⟨x, sA, cs, ks, k, n, rfl, hX, n0, n1, hlen, q⟩ := h
  refine ⟨_, (pss_cons (ps_expr (pe_def D_p_refuse_no_number hr (pa_cons (pv 1) (pa_cons pe_int pa_nil))))
        (pss_cons (ps_asg (pe_ix ix_list (pe_fld (pv 0) rfl) (pe_un un_neg pe_int) (fun _ _ => rfl)) (pg_tup rfl (pgs_cons (pg_tup rfl (pgs_cons (pg_name (i := 2) sc_m_lend.nd rfl (Or.inl rfl)) (pgs_cons (pg_name (i := 3) sc_m_lend.nd rfl (Or.inl rfl)) pgs_nil))) (pgs_cons (pg_name (i := 4) sc_m_lend.nd rfl (Or.inl rfl)) (pgs_cons (pg_name (i := 5) sc_m_lend.nd rfl (Or.inl rfl)) pgs_nil)))))
        (pss_one (ps_expr (pe_bm PySem.F.plainAttrs_list PySem.F.slot_list_append PySem.F.type_list_append mt_append (pe_fld (pv 0) rfl) (pa_cons (pe_tup (pa_cons (pe_tup (pa_cons (pe_op op_add (pv 2) (pv 1)) (pa_cons (pv 3) pa_nil))) (pa_cons (pv 4) (pa_cons (pe_op op_add (pv 5) (pv 1)) pa_nil)))) pa_nil)))))), ?_⟩
  obtain ⟨dx, cA, us, t, pA, h1, h2, hs, h4, h5, zA, h6, h7⟩ := hX.top
  have hul := h4.len
  refine ⟨_, rfl, _, .int n, 1, rfl, .int n, ?_, ?_⟩
  · show (decide (1 ≤ n) && decide (n ≤ 1000000000000000000)) = true
    rw [decide_eq_true n0, decide_eq_true n1]
    rfl
  refine ⟨_, rfl, x, C, dx, _, _, rfl, h1, T.cl, T.nS, kf_states _ _, _, rfl, sA, _, _, _, rfl, rfl, SqL.of hs, atI_last _ _, ?_⟩
  refine ⟨t, _, rfl, h5, rfl, _, _, rfl, pA, _, rfl, h6, rfl, _, _, rfl, _, _, rfl, rfl, _, _, rfl, _, _, rfl, rfl, ?_⟩
  refine ⟨_, rfl, x, C, dx, _, _, rfl, h1, T.cl, T.nS, kf_states _ _, .inl ⟨rfl, _, SqL.of hs⟩, ?_⟩
  refine ⟨_, rfl, _, rfl, _, _, rfl, rfl, _, rfl, (by show 2 ≤ sizeLine; decide), fun p np => ?_⟩
  have s1 := same_upd (o := .tup [.int (k.r + n), .ref zA]) np
  refine ⟨_, rfl, _, rfl, _, rfl, _, _, rfl, rfl, (by show 3 ≤ sizeLine; decide), fun t2 nt2 => ?_⟩
  have s2 := same_upd (o := .tup [.ref p, .int k.rd, .int (k.ln + n)]) nt2
  have hs2 := (s1.trans s2) _ _ hs
  refine ⟨sA, _, _, rfl, rfl, hs2, ?_, ?_⟩
  · rw [List.length_append, List.length_map, List.length_singleton]
    exact smallM (by omega)
  have e : us.map V.ref ++ [V.ref t] = (us ++ [t]).map V.ref := by
    rw [List.map_append]
    rfl
  rw [e] at hs2 ⊢
  refine q _ (fun b o eb nb => ?_) (hX.push (s1.trans s2) hs2 ((h4.same (s1.trans s2)).app (.cons (Same.seqT (s1.trans s2) h5) (Purse.same (s1.trans s2) ⟨zA, h6, h7⟩) .nil)) (SqT.of upd_same) ⟨zA, Same.seqT s2 (SqT.of upd_same), Same.seqT (s1.trans s2) h7⟩)
  rw [upd_ne nb]
  exact (s1.trans s2) _ _ eb
set_option maxHeartbeats 4000000 in
theorem ok_m_ridden {P : Program} {w : World} {K : PySem.W.Frag} {mg : Str → Option Value} {base : Heap} {f : Addr} {fd : FuncData} (F : Fun K "ridden" "Kept.ridden" s_m_ridden f fd) {C : Addr} (T : KeptT K mg C) :
    FnOk P w K mg base CX0 1 f fd ["self"] (sp_m_ridden K C) := by
  refine F.ok sc_m_ridden (fun vs H Q E h => ?_) (fun cdv A outer s H vs Q E hr h => ?_)
  · obtain ⟨x, sA, cs, ks, k, rfl, hX, q⟩ := h
    rfl
  obtain ⟨x, sA, cs, ks, k, rfl, hX, q⟩ := h
  refine ⟨_, (pss_one (ps_ret (pe_ix ix_tup (pe_ix ix_list (pe_fld (pv 0) rfl) (pe_un un_neg pe_int) (fun _ _ => rfl)) pe_int (fun _ _ => rfl)))), ?_⟩
  obtain ⟨dx, cA, us, t, pA, h1, h2, hs, h4, h5, h6⟩ := hX.top
  exact ⟨_, rfl, x, C, dx, _, _, rfl, h1, T.cl, T.nS, kf_states _ _, _, rfl, sA, _, _, _, rfl, rfl, SqL.of hs, atI_last _ _, t, _, _, _, rfl, rfl, h5, atI_nat (j := 1) rfl, q⟩
set_option maxHeartbeats 4000000 in
theorem ok_m_purse {P : Program} {w : World} {K : PySem.W.Frag} {mg : Str → Option Value} {base : Heap} {f : Addr} {fd : FuncData} (F : Fun K "purse" "Kept.purse" s_m_purse f fd) {C : Addr} (T : KeptT K mg C) :
    FnOk P w K mg base CX0 1 f fd ["self"] (sp_m_purse K C) := by
  refine F.ok sc_m_purse (fun vs H Q E h => ?_) (fun cdv A outer s H vs Q E hr h => ?_)
  · obtain ⟨x, sA, cs, ks, k, rfl, hX, q⟩ := h
    rfl
  obtain ⟨x, sA, cs, ks, k, rfl, hX, q⟩ := h
  refine ⟨_, (pss_one (ps_ret (pe_ix ix_tup (pe_ix ix_list (pe_fld (pv 0) rfl) (pe_un un_neg pe_int) (fun _ _ => rfl)) pe_int (fun _ _ => rfl)))), ?_⟩
  obtain ⟨dx, cA, us, t, pA, h1, h2, hs, h4, h5, h6⟩ := hX.top
  refine ⟨_, rfl, x, C, dx, _, _, rfl, h1, T.cl, T.nS, kf_states _ _, _, rfl, sA, _, _, _, rfl, rfl, SqL.of hs, atI_last _ _, t, _, _, _, rfl, rfl, h5, atI_nat (j := 0) rfl, q pA h6⟩
set_option maxHeartbeats 4000000 in
theorem ok_p_is_kind {P : Program} {w : World} {K : PySem.W.Frag} {mg : Str → Option Value} {base : Heap} {f : Addr} {fd : FuncData} (F : Fun K "is_kind" "is_kind" s_p_is_kind f fd) (D_p_is_within : Def P w K mg base "is_within" 1 ["thing", "least", "most"] (sp_p_is_within K)) (b_len : mg "len" = none) :
    FnOk P w K mg base CX0 2 f fd ["cards", "thing"] (sp_p_is_kind K) := by
  refine F.ok sc_p_is_kind (fun vs H Q E h => ?_) (fun cdv A outer s H vs Q E hr h => ?_)
  · obtain ⟨cA, cs, x, d, rfl, hC, hd, q⟩ := h
    rfl
  obtain ⟨cA, cs, x, d, rfl, hC, hd, q⟩ := h
  refine ⟨_, (pss_one (ps_ret (pe_def D_p_is_within hr (pa_cons (pv 1) (pa_cons pe_int (pa_cons (pe_op op_sub (pe_callB call_len_seq (by rfl) b_len PySem.boot_len (pa_cons (pv 0) pa_nil)) pe_int) pa_nil)))))), ?_⟩
  exact ⟨_, rfl, _, rfl, cA, _, rfl, .inr hC, _, _, rfl, rfl, x, d, _, _, rfl, hd, q⟩
set_option maxHeartbeats 4000000 in
theorem ok_p_after_giving {P : Program} {w : World} {K : PySem.W.Frag} {mg : Str → Option Value} {base : Heap} {f : Addr} {fd : FuncData} (F : Fun K "after_giving" "after_giving" s_p_after_giving f fd) (b_list : mg "list" = none) (b_tuple : mg "tuple" = none) :
    FnOk P w K mg base CX0 1 f fd ["cards", "purse", "kind"] (sp_p_after_giving K) := by
  refine F.ok sc_p_after_giving (fun vs H Q E h => ?_) (fun cdv A outer s H vs Q E hr h => ?_)
  · obtain ⟨cA, pA, cs, x, zs, i, c, z, rfl, hC, ⟨sA, hP1, hP2⟩, hl, h3, i0, i1, hcg, hzg, q1, q2⟩ := h
    rfl
  obtain ⟨cA, pA, cs, x, zs, i, c, z, rfl, hC, ⟨sA, hP1, hP2⟩, hl, h3, i0, i1, hcg, hzg, q1, q2⟩ := h
  refine ⟨_, (pss_cons (ps_asg (pv 1) (pg_tup rfl (pgs_cons (pg_name (i := 3) sc_p_after_giving.nd rfl (Or.inl rfl)) (pgs_cons (pg_name (i := 4) sc_p_after_giving.nd rfl (Or.inl rfl)) pgs_nil))))
        (pss_cons (ps_if (pt_cmpR op_lt (pe_ix ix_tup (pv 4) (pv 2) (fun _ _ => rfl)) (pe_ix ix_tup (pv 0) (pv 2) (fun _ _ => rfl)) (nomark _)) (pss_one (ps_ret pe_non)) pss_nil)
        (pss_cons (ps_set (i := 5) sc_p_after_giving.nd rfl (Or.inl rfl) (pe_callTy call_list_of (by rfl) b_list PyProof.Rows.boot_list (pa_cons (pv 4) pa_nil)))
        (pss_cons (ps_augS (pv 5) (pv 2) get_lst (pe_ix ix_tup (pv 0) (pv 2) (fun _ _ => rfl)) ip_sub set_list)
        (pss_one (ps_ret (pe_tup (pa_cons (pe_op op_add (pv 3) pe_int) (pa_cons (pe_callTy call_tuple_of (by rfl) b_tuple PyProof.Rows.boot_tuple (pa_cons (pv 5) pa_nil)) pa_nil))))))))), ?_⟩
  have hza : atI (zs.map V.int) i = some (.int z) := at_of (j := i.toNat) (by omega) (by rw [List.getElem?_map, hzg]; rfl)
  have hca : atI (cs.map V.int) i = some (.int c) := at_of (j := i.toNat) (by omega) (by rw [List.getElem?_map, hcg]; rfl)
  refine ⟨_, rfl, pA, _, rfl, hP1, rfl, _, _, rfl, _, _, rfl, rfl, ?_⟩
  refine ⟨_, rfl, _, rfl, sA, _, _, _, rfl, rfl, hP2, hza, _, rfl, _, rfl, cA, _, _, _, rfl, rfl, hC, hca, _, _, rfl, rfl, _, rfl, ite2 (fun e => ?_) (fun e => ?_)⟩
  · exact q1 (of_decide_eq_true e)
  · have e' : ¬ z < c := fun g => e (decide_eq_true g)
    refine ⟨_, rfl, sA, _, rfl, .inr hP2, fun l nl => ?_⟩
    have s1 := same_upd (o := .lst (zs.map V.int)) nl
    have hix : ixN (zs.map V.int).length i = some i.toNat := by
      unfold ixN
      rw [if_pos i0, if_pos (by rw [List.length_map]; omega)]
    refine ⟨_, rfl, _, rfl, l, _, i, _, rfl, rfl, SqL.of upd_same, i0, by omega, (by rw [List.getElem?_map, hzg]; rfl), _, rfl, _, rfl, cA, _, _, _, rfl, rfl, Same.seqT s1 hC, hca, _, _, rfl, rfl, l, _, i, _, rfl, rfl, upd_same, hix, ?_⟩
    have el : (upd (upd H l (.lst (zs.map V.int))) l (.lst ((zs.map V.int).set i.toNat (.int (z - c))))) l = some (.lst ((zs.map V.int).set i.toNat (.int (z - c)))) := upd_same
    have sl : Same H (upd (upd H l (.lst (zs.map V.int))) l (.lst ((zs.map V.int).set i.toNat (.int (z - c))))) := same_fresh s1 nl
    refine ⟨_, rfl, _, _, rfl, rfl, _, rfl, l, _, rfl, .inl ⟨SqL.of el, fun t nt => ?_⟩⟩
    refine ⟨(by show 2 ≤ sizeLine; decide), fun p np => ?_⟩
    refine q2 (by omega) p t _ (same_new (same_new sl nt) np) upd_same ?_
    rw [upd_ne (ne_of_none upd_same np), upd_same, ← List.map_set]
set_option maxHeartbeats 4000000 in
theorem ok_m_give {P : Program} {w : World} {K : PySem.W.Frag} {mg : Str → Option Value} {base : Heap} {f : Addr} {fd : FuncData} (F : Fun K "give" "Kept.give" s_m_give f fd) {C : Addr} (T : KeptT K mg C) (D_p_is_kind : Def P w K mg base "is_kind" 2 ["cards", "thing"] (sp_p_is_kind K)) (D_p_after_giving : Def P w K mg base "after_giving" 1 ["cards", "purse", "kind"] (sp_p_after_giving K)) :
    FnOk P w K mg base CX0 3 f fd ["self", "kind"] (sp_m_give K C) := by
  refine F.ok sc_m_give (fun vs H Q E h => ?_) (fun cdv A outer s H vs Q E hr h => ?_)
  · obtain ⟨x, sA, cs, ks, k, i, c, z, rfl, hX, hl, h3, i0, i1, hcg, hzg, hcz, hlen, q⟩ := h
    rfl
  obtain ⟨x, sA, cs, ks, k, i, c, z, rfl, hX, hl, h3, i0, i1, hcg, hzg, hcz, hlen, q⟩ := h
  refine ⟨_, (pss_cons (ps_if (pt_not (pt_val (pe_def D_p_is_kind hr (pa_cons (pe_fld (pv 0) rfl) (pa_cons (pv 1) pa_nil))))) (pss_one (ps_never)) pss_nil)
        (pss_cons (ps_asg (pe_ix ix_list (pe_fld (pv 0) rfl) (pe_un un_neg pe_int) (fun _ _ => rfl)) (pg_tup rfl (pgs_cons (pg_name (i := 2) sc_m_give.nd rfl (Or.inl rfl)) (pgs_cons (pg_name (i := 3) sc_m_give.nd rfl (Or.inl rfl)) (pgs_cons (pg_name (i := 4) sc_m_give.nd rfl (Or.inl rfl)) pgs_nil)))))
        (pss_cons (ps_set (i := 5) sc_m_give.nd rfl (Or.inl rfl) (pe_def D_p_after_giving hr (pa_cons (pe_fld (pv 0) rfl) (pa_cons (pv 2) (pa_cons (pv 1) pa_nil)))))
        (pss_cons (ps_if (pt_cmpR op_isN (pv 5) pe_non (nomark _)) (pss_one (ps_never)) pss_nil)
        (pss_one (ps_expr (pe_bm PySem.F.plainAttrs_list PySem.F.slot_list_append PySem.F.type_list_append mt_append (pe_fld (pv 0) rfl) (pa_cons (pe_tup (pa_cons (pv 5) (pa_cons (pv 3) (pa_cons (pv 4) pa_nil)))) pa_nil)))))))), ?_⟩
  obtain ⟨dx, cA, us, t, pA, h1, h2, hs, h4, h5, h6⟩ := hX.top
  have hul := h4.len
  refine ⟨_, rfl, x, C, dx, _, _, rfl, h1, T.cl, T.nC, kf_cards _ _, _, rfl, cA, _, _, _, rfl, h2, .int i, _, rfl, ?_⟩
  have hw : withinD 0 (((cs.map V.int).length : Int) - 1) (.int i) = true := by
    show (decide (0 ≤ i) && decide (i ≤ ((cs.map V.int).length : Int) - 1)) = true
    rw [List.length_map, decide_eq_true i0, decide_eq_true (by omega)]
    rfl
  rw [hw]
  refine ⟨_, rfl, x, C, dx, _, _, rfl, h1, T.cl, T.nS, kf_states _ _, _, rfl, sA, _, _, _, rfl, rfl, SqL.of hs, atI_last _ _, ?_⟩
  refine ⟨t, _, rfl, h5, rfl, _, _, rfl, _, _, rfl, _, _, rfl, rfl, ?_⟩
  refine ⟨_, rfl, x, C, dx, _, _, rfl, h1, T.cl, T.nC, kf_cards _ _, _, rfl, _, rfl, cA, pA, cs, k.r, k.ss, i, c, z, rfl, h2, h6, hl, h3, i0, i1, hcg, hzg, fun y => by omega, fun _ p s' H1 s1 e1 e1' => ?_⟩
  refine ⟨_, rfl, rfl, _, rfl, iteN (fun e => nomatch of_decide_eq_true e) ?_⟩
  have h1' := s1 _ _ h1
  have hs' := s1 _ _ hs
  refine ⟨_, rfl, x, C, dx, _, _, rfl, h1', T.cl, T.nS, kf_states _ _, .inl ⟨rfl, _, SqL.of hs'⟩, ?_⟩
  refine ⟨_, rfl, _, rfl, _, rfl, (by show 3 ≤ sizeLine; decide), fun t2 nt2 => ?_⟩
  have s2 := same_upd (o := .tup [.ref p, .int k.rd, .int k.ln]) nt2
  have hs2 := s2 _ _ hs'
  refine ⟨sA, _, _, rfl, rfl, hs2, ?_, ?_⟩
  · rw [List.length_append, List.length_map, List.length_singleton]
    exact smallM (by omega)
  have e : us.map V.ref ++ [V.ref t] = (us ++ [t]).map V.ref := by
    rw [List.map_append]
    rfl
  rw [e] at hs2 ⊢
  refine q _ (fun b o eb nb => ?_) (hX.push (s1.trans s2) hs2 ((h4.same (s1.trans s2)).app (.cons (Same.seqT (s1.trans s2) h5) (h6.same (s1.trans s2)) .nil)) (SqT.of upd_same) ⟨s', Same.seqT s2 (SqT.of e1), Same.seqT s2 (SqT.of e1')⟩)
  rw [upd_ne nb]
  exact (s1.trans s2) _ _ eb
set_option maxHeartbeats 4000000 in
theorem ok_l_cash {P : Program} {w : World} {K : PySem.W.Frag} {mg : Str → Option Value} {base : Heap} {f : Addr} {fd : FuncData} (F : Fun K "_law_cash" "_law_cash" s_l_cash f fd) {C : Addr} (T : KeptT K mg C) (D_m_purse : MDef P w K mg base C "purse" 1 ["self"] (sp_m_purse K C)) (D_m_give : MDef P w K mg base C "give" 3 ["self", "kind"] (sp_m_give K C)) (b_enumerate : mg "enumerate" = none) :
    FnOk P w K mg base CX0 4 f fd ["kept", "kinds"] (sp_l_cash K C) := by
  refine F.ok sc_l_cash (fun vs H Q E h => ?_) (fun cdv A outer s H vs Q E hr h => ?_)
  · obtain ⟨x, sA, kA, cs, ks, k, ss, m, G, rfl, hX, hC, nk, hK, hG, hlen, q⟩ := h
    rfl
  obtain ⟨x, sA, kA, cs, ks, k, ss, m, G, rfl, hX, hC, nk, hK, hG, hlen, q⟩ := h
  refine ⟨_, (pss_one (ps_for PassesOwn.never rfl (pi_enumT rfl b_enumerate (pa_cons (pv 1) pa_nil)) (pg_tup rfl (pgs_cons (pg_name (i := 2) sc_l_cash.nd rfl (Or.inl rfl)) (pgs_cons (pg_name (i := 3) sc_l_cash.nd rfl (Or.inl rfl)) pgs_nil))) (pss_one (ps_while PassesOwn.never (pt_cmpR op_ge (pe_ix ix_tup (pe_ix ix_tup (pe_mdef0 T D_m_purse hr (pv 0)) pe_int (fun _ _ => rfl)) (pv 2) (fun _ _ => rfl)) (pv 3) (nomark _)) (pss_one (ps_expr (pe_mdef T D_m_give hr (pv 0) (pa_cons (pv 2) pa_nil)))))))), ?_⟩
  have c2 : ∀ c ∈ cs, (2 : Int) ≤ c := fun c h => (hK.2.2 c h).1
  have h3 := hK.2.1
  have hKA : ∀ {H1 : Hp}, But sA H H1 → SqT K H1 kA (cs.map V.int) := fun {H1} hb => by
    rcases hC with (h | ⟨o, h⟩) | h
    · exact .inl (.inl (hb _ _ h nk))
    · exact .inl (.inr ⟨o, hb _ _ h nk⟩)
    · exact .inr h
  refine ⟨_, rfl, kA, _, rfl, hC, ?_⟩
  refine for_enumT (K := K) (a := kA) (xs := cs.map V.int) (fun j σ H' => ∃ (ks' : List KS) (k' : KS) (G' : Int) (y2 y3 : Option V), σ = [some (.ref x), some (.ref kA), y2, y3] ∧ But sA H H' ∧ KeptAt C K H' x sA cs (ks' ++ [k']) ∧ Gone cs ss k'.ss m G' ∧ k'.r = k.r + (G' - G) ∧ k'.rd = k.rd ∧ k'.ln = k.ln ∧ (ks'.length : Int) = ks.length + (G' - G) ∧ ∀ (i : Nat) (c z : Int), i < j → cs[i]? = some c → k'.ss[i]? = some z → z < c) ?_ ?_ ?_ ?_
  · exact ⟨ks, k, G, _, _, rfl, .of (.refl H), hX, hG, by omega, rfl, rfl, by omega, fun i c z h => by omega⟩
  · rintro j σ H1 ⟨ks', k', G', y2, y3, rfl, hb, _⟩
    exact hKA hb
  · rintro j v T' σ H1 hj ⟨ks1, k1, G1, y2, y3, rfl, hb1, hX1, hG1, er1, ed1, el1, hl1, hz1⟩ nT
    obtain ⟨c, hc, rfl⟩ := get_map hj
    obtain ⟨cc2, cc20⟩ := hK.2.2 c (List.mem_of_getElem? hc)
    have hj' : j < cs.length := (List.getElem?_eq_some_iff.mp hc).1
    have sT := same_upd (o := .tup [.int (j : Nat), .int c]) nT
    refine ⟨T', _, rfl, SqT.of upd_same, rfl, _, _, rfl, _, _, rfl, rfl, ?_⟩
    have hgl := (gone_len cs ss k1.ss hG1).1
    have gz : k1.ss[j]? = some k1.ss[j] := List.getElem?_eq_getElem (by omega)
    refine while_m (fun n σ H' => σ = [some (.ref x), some (.ref kA), some (.int (j : Nat)), some (.int c)] ∧ ∃ (ks' : List KS) (k' : KS) (G' z : Int), But sA H H' ∧ KeptAt C K H' x sA cs (ks' ++ [k']) ∧ Gone cs ss k'.ss m G' ∧ k'.r = k.r + (G' - G) ∧ k'.rd = k.rd ∧ k'.ln = k.ln ∧ (ks'.length : Int) = ks.length + (G' - G) ∧ k'.ss[j]? = some z ∧ n = z.toNat ∧ ∀ (i : Nat) (c z : Int), i < j → cs[i]? = some c → k'.ss[i]? = some z → z < c) _ ⟨rfl, ks1, k1, G1, _, hb1.trans (.of sT), hX1.same sT, hG1, er1, ed1, el1, hl1, gz, rfl, hz1⟩ ?_ ?_
    · rintro n σ H2 ⟨rfl, ks2, k2, G2, z, hb2, hX2, hG2, er2, ed2, el2, hl2, gz2, rfl, hz2⟩
      have hz0 := gone_nonneg cs ss k2.ss hG2 z (List.mem_of_getElem? gz2)
      have hgl2 := (gone_len cs ss k2.ss hG2).1
      have hle := gone_le cs ss k2.ss c2 hG2
      obtain ⟨dx, cA, us, t, pA, h1, _⟩ := hX2.top
      have hat : atI (k2.ss.map V.int) ((j : Nat) : Int) = some (.int z) := at_of (j := j) (by omega) (by rw [List.getElem?_map, gz2]; rfl)
      refine ⟨_, rfl, x, dx, _, rfl, h1, kf_no _ _ (by decide +kernel) (by decide +kernel), x, sA, cs, ks2, k2, rfl, hX2, fun pA hP => ?_⟩
      obtain ⟨zA, hp1, hp2⟩ := hP
      refine ⟨pA, _, _, _, rfl, rfl, hp1, atI_nat (j := 1) rfl, _, rfl, zA, _, _, _, rfl, rfl, hp2, hat, _, rfl, _, _, rfl, rfl, _, rfl, ite2 (fun y => ?_) (fun y => ?_)⟩
      · have y' : c ≤ z := of_decide_eq_true y
        have hG3 := gone_give cs ss k2.ss j hG2 hc gz2 y'
        refine ⟨_, rfl, x, dx, _, rfl, h1, kf_no _ _ (by decide +kernel) (by decide +kernel), _, rfl, x, sA, cs, ks2, k2, _, c, z, rfl, hX2, hgl2, h3, by omega, by omega, hc, gz2, y', by omega, fun H3 hb3 hX3 => ?_⟩
        refine ⟨(z - c).toNat, by omega, rfl, ks2 ++ [k2], _, G2 + 1, z - c, hb2.trans hb3, hX3, hG3, by show k2.r + 1 = _; omega, ed2, el2, ?_, ?_, rfl, fun i c' z' hi hc' hz' => ?_⟩
        · rw [List.length_append, List.length_singleton]
          omega
        · show (k2.ss.set j (z - c))[j]? = _
          exact List.getElem?_set_self (by omega)
        · have hz'' : (k2.ss.set j (z - c))[i]? = some z' := hz'
          rw [List.getElem?_set_ne (by omega)] at hz''
          exact hz2 i c' z' hi hc' hz''
      · have y' : ¬ c ≤ z := fun w => y (decide_eq_true w)
        refine ⟨ks2, k2, G2, _, _, rfl, hb2, hX2, hG2, er2, ed2, el2, hl2, fun i c' z' hi hc' hz' => ?_⟩
        by_cases ei : i = j
        · subst ei
          rw [hc] at hc'
          rw [gz2] at hz'
          cases hc'
          cases hz'
          omega
        · exact hz2 i c' z' (by omega) hc' hz'
    · rintro σ H' Q1 Q2 hq ⟨v, e, x1, dx1, fs1, e1, e2, e3, x2, sA2, cs2, ks2, k2, e4, e5, h⟩
      refine ⟨v, e, x1, dx1, fs1, e1, e2, e3, x2, sA2, cs2, ks2, k2, e4, e5, fun pA hP => ?_⟩
      obtain ⟨p3, xs3, i3, v3, f1, f2, f3, f4, v4, g1, p4, xs4, i4, v5, f5, f6, f7, f8, v6, g2, a1, a2, f9, f10, kk, g3, h⟩ := h pA hP
      exact ⟨p3, xs3, i3, v3, f1, f2, f3, f4, v4, g1, p4, xs4, i4, v5, f5, f6, f7, f8, v6, g2, a1, a2, f9, f10, kk, g3, hq _ _ h⟩
  · rintro σ H1 ⟨ks1, k1, G1, y2, y3, rfl, hb1, hX1, hG1, er1, ed1, el1, hl1, hz1⟩
    rw [List.length_map] at hz1
    obtain ⟨eG, ez⟩ := gone_end cs ss k1.ss c2 hG1 (fun i c z hc hz => hz1 i c z (List.getElem?_eq_some_iff.mp hc).1 hc hz)
    have ek : k1 = ⟨k.r + (fc cs ss m - G), lf cs ss m, k.rd, k.ln⟩ := by
      cases k1
      simp only at er1 ed1 el1 ez
      rw [er1, ed1, el1, ez, eG]
    rw [ek] at hX1
    exact q H1 ks1 hb1 hX1 (by omega)
set_option maxHeartbeats 4000000 in
theorem ok_p_after_ride {P : Program} {w : World} {K : PySem.W.Frag} {mg : Str → Option Value} {base : Heap} {f : Addr} {fd : FuncData} (F : Fun K "after_ride" "after_ride" s_p_after_ride f fd) (b_tuple : mg "tuple" = none) :
    FnOk P w K mg base CX0 1 f fd ["purse"] (sp_p_after_ride K) := by
  refine F.ok sc_p_after_ride (fun vs H Q E h => ?_) (fun cdv A outer s H vs Q E hr h => ?_)
  · obtain ⟨pA, x, zs, rfl, ⟨sA, hP1, hP2⟩, h3, q1, q2⟩ := h
    rfl
  obtain ⟨pA, x, zs, rfl, ⟨sA, hP1, hP2⟩, h3, q1, q2⟩ := h
  refine ⟨_, (pss_cons (ps_asg (pv 0) (pg_tup rfl (pgs_cons (pg_name (i := 1) sc_p_after_ride.nd rfl (Or.inl rfl)) (pgs_cons (pg_name (i := 2) sc_p_after_ride.nd rfl (Or.inl rfl)) pgs_nil))))
        (pss_cons (ps_if (pt_cmpR op_lt (pv 1) pe_int (nomark _)) (pss_one (ps_ret pe_non)) pss_nil)
        (pss_one (ps_ret (pe_tup (pa_cons (pe_op op_sub (pv 1) pe_int) (pa_cons (pe_callTy call_tuple_of (by rfl) b_tuple PyProof.Rows.boot_tuple (pa_cons (pe_lc (own := [("many", 3)]) (g := gName 3) (tt := tYes) rfl sc_p_after_ride.nd (pi_tup (pv 2)) (blkOk_by (own := [("many", 3)]) (N := ["purse", "rides", "stamps", "many"]) (sc := defScope s_p_after_ride) (by decide +kernel)) (fun _ _ _ _ _ => (pg_name (i := 3) sc_p_after_ride.nd rfl (Or.inl rfl))) (fun _ _ _ _ _ => pts_nil) (fun _ _ _ _ _ => (pe_op op_add (pv 3) pe_int))) pa_nil)) pa_nil))))))), ?_⟩
  refine ⟨_, rfl, pA, _, rfl, hP1, rfl, _, _, rfl, _, _, rfl, rfl, ?_⟩
  refine ⟨_, rfl, _, _, rfl, rfl, _, rfl, ite2 (fun c => ?_) (fun c => ?_)⟩
  · have c' := of_decide_eq_true c
    exact q1 (by omega)
  · have c' : ¬ x < 1 := fun z => c (decide_eq_true z)
    refine ⟨_, rfl, _, _, rfl, rfl, _, rfl, sA, rfl, ⟨_, hP2⟩, fun D nD => ?_⟩
    refine lc_tup (K := K) (a := sA) (xs := zs.map V.int) (fun j H' => Same H H' ∧ H' D = some (.lst (((zs.take j).map (· + 1)).map V.int))) ?_ ?_ ?_ ?_
    · exact ⟨same_new (.refl _) nD, upd_same⟩
    · rintro j H' hj ⟨sm, e⟩
      exact Same.seqT sm hP2
    · rintro j y H' hj ⟨sm, e⟩
      obtain ⟨z, hz, rfl⟩ := get_map hj
      have hj' : j < zs.length := (List.getElem?_eq_some_iff.mp hz).1
      refine ⟨rfl, _, rfl, _, _, rfl, rfl, _, e, ?_, same_fresh sm nD, ?_⟩
      · rw [List.length_map, List.length_map, List.length_take]
        exact small1000 (by omega)
      · rw [upd_same, take_map _ hz, List.map_append]
        rfl
    · rintro H' ⟨sm, e⟩
      rw [List.length_map, List.take_length] at e
      refine ⟨D, _, rfl, .inl ⟨SqL.of e, fun t nt => ?_⟩⟩
      refine ⟨(by show 2 ≤ sizeLine; decide), fun p np => ?_⟩
      refine q2 (by omega) p t _ (same_new (same_new sm nt) np) upd_same ?_
      rw [upd_ne (ne_of_none (show (upd H' t (.tup ((zs.map (· + 1)).map V.int))) t = some _ from upd_same) np), upd_same]
set_option maxHeartbeats 4000000 in
theorem ok_m_ride {P : Program} {w : World} {K : PySem.W.Frag} {mg : Str → Option Value} {base : Heap} {f : Addr} {fd : FuncData} (F : Fun K "ride" "Kept.ride" s_m_ride f fd) {C : Addr} (T : KeptT K mg C) (D_p_after_ride : Def P w K mg base "after_ride" 1 ["purse"] (sp_p_after_ride K)) :
    FnOk P w K mg base CX0 2 f fd ["self"] (sp_m_ride K C) := by
  refine F.ok sc_m_ride (fun vs H Q E h => ?_) (fun cdv A outer s H vs Q E hr h => ?_)
  · obtain ⟨x, sA, cs, ks, k, rfl, hX, h3, hr0, hlen, q⟩ := h
    rfl
  obtain ⟨x, sA, cs, ks, k, rfl, hX, h3, hr0, hlen, q⟩ := h
  refine ⟨_, (pss_cons (ps_asg (pe_ix ix_list (pe_fld (pv 0) rfl) (pe_un un_neg pe_int) (fun _ _ => rfl)) (pg_tup rfl (pgs_cons (pg_name (i := 1) sc_m_ride.nd rfl (Or.inl rfl)) (pgs_cons (pg_name (i := 2) sc_m_ride.nd rfl (Or.inl rfl)) (pgs_cons (pg_name (i := 3) sc_m_ride.nd rfl (Or.inl rfl)) pgs_nil)))))
        (pss_cons (ps_set (i := 4) sc_m_ride.nd rfl (Or.inl rfl) (pe_def D_p_after_ride hr (pa_cons (pv 1) pa_nil)))
        (pss_cons (ps_if (pt_cmpR op_isN (pv 4) pe_non (nomark _)) (pss_one (ps_never)) pss_nil)
        (pss_one (ps_expr (pe_bm PySem.F.plainAttrs_list PySem.F.slot_list_append PySem.F.type_list_append mt_append (pe_fld (pv 0) rfl) (pa_cons (pe_tup (pa_cons (pv 4) (pa_cons (pe_op op_add (pv 2) pe_int) (pa_cons (pv 3) pa_nil)))) pa_nil))))))), ?_⟩
  obtain ⟨dx, cA, us, t, pA, h1, h2, hs, h4, h5, h6⟩ := hX.top
  have hul := h4.len
  refine ⟨_, rfl, x, C, dx, _, _, rfl, h1, T.cl, T.nS, kf_states _ _, _, rfl, sA, _, _, _, rfl, rfl, SqL.of hs, atI_last _ _, ?_⟩
  refine ⟨t, _, rfl, h5, rfl, _, _, rfl, _, _, rfl, _, _, rfl, rfl, ?_⟩
  refine ⟨_, rfl, pA, k.r, k.ss, rfl, h6, h3, fun z => absurd hr0 z, fun _ p s' H1 s1 e1 e1' => ?_⟩
  refine ⟨_, rfl, rfl, _, rfl, iteN (fun e => nomatch of_decide_eq_true e) ?_⟩
  have h1' := s1 _ _ h1
  have hs' := s1 _ _ hs
  refine ⟨_, rfl, x, C, dx, _, _, rfl, h1', T.cl, T.nS, kf_states _ _, .inl ⟨rfl, _, SqL.of hs'⟩, ?_⟩
  refine ⟨_, rfl, _, rfl, _, _, rfl, rfl, _, rfl, (by show 3 ≤ sizeLine; decide), fun t2 nt2 => ?_⟩
  have s2 := same_upd (o := .tup [.ref p, .int (k.rd + 1), .int k.ln]) nt2
  have hs2 := s2 _ _ hs'
  refine ⟨sA, _, _, rfl, rfl, hs2, ?_, ?_⟩
  · rw [List.length_append, List.length_map, List.length_singleton]
    exact smallM (by omega)
  have e : us.map V.ref ++ [V.ref t] = (us ++ [t]).map V.ref := by
    rw [List.map_append]
    rfl
  rw [e] at hs2 ⊢
  refine q _ (fun b o eb nb => ?_) (hX.push (s1.trans s2) hs2 ((h4.same (s1.trans s2)).app (.cons (Same.seqT (s1.trans s2) h5) (h6.same (s1.trans s2)) .nil)) (SqT.of upd_same) ⟨s', Same.seqT s2 (SqT.of e1), Same.seqT s2 (SqT.of e1')⟩)
  rw [upd_ne nb]
  exact (s1.trans s2) _ _ eb
set_option maxHeartbeats 4000000 in
theorem ok_l_rides {P : Program} {w : World} {K : PySem.W.Frag} {mg : Str → Option Value} {base : Heap} {f : Addr} {fd : FuncData} (F : Fun K "_law_rides" "_law_rides" s_l_rides f fd) {C : Addr} (T : KeptT K mg C) (D_l_cash : Def P w K mg base "_law_cash" 4 ["kept", "kinds"] (sp_l_cash K C)) (D_m_purse : MDef P w K mg base C "purse" 1 ["self"] (sp_m_purse K C)) (D_m_ride : MDef P w K mg base C "ride" 2 ["self"] (sp_m_ride K C)) (b_range : mg "range" = none) :
    FnOk P w K mg base CX0 5 f fd ["kept", "kinds", "rides"] (sp_l_rides K C) := by
  refine F.ok sc_l_rides (fun vs H Q E h => ?_) (fun cdv A outer s H vs Q E hr h => ?_)
  · obtain ⟨x, sA, kA, cs, ks, k, n, rfl, hX, hC, nk, hK, hl, hs0, hr0, n0, n1, hlen, q⟩ := h
    rfl
  obtain ⟨x, sA, kA, cs, ks, k, n, rfl, hX, hC, nk, hK, hl, hs0, hr0, n0, n1, hlen, q⟩ := h
  refine ⟨_, (pss_cons (ps_expr (pe_def D_l_cash hr (pa_cons (pv 0) (pa_cons (pv 1) pa_nil))))
        (pss_cons (ps_for PassesOwn.never rfl (pi_range1 rfl b_range (pa_cons (pv 2) pa_nil)) (pg_name (i := 3) sc_l_rides.nd rfl (Or.inl rfl)) (pss_cons (ps_if (pt_cmpR op_eq (pe_ix ix_tup (pe_mdef0 T D_m_purse hr (pv 0)) pe_int (fun _ _ => rfl)) pe_int (nomark _)) (pss_one (ps_ret pe_bl)) pss_nil)
        (pss_cons (ps_expr (pe_mdef0 T D_m_ride hr (pv 0)))
        (pss_one (ps_expr (pe_def D_l_cash hr (pa_cons (pv 0) (pa_cons (pv 1) pa_nil))))))))
        (pss_one (ps_ret pe_bl)))), ?_⟩
  have c2 : ∀ c ∈ cs, (2 : Int) ≤ c := fun c h => (hK.2.2 c h).1
  have h3 := hK.2.1
  have hf0 := fc_nonneg cs k.ss (n := 0) c2 hs0 (by omega)
  have hf0n := fc_mono cs k.ss c2 n0
  refine ⟨_, rfl, _, rfl, x, sA, kA, cs, ks, k, k.ss, 0, 0, rfl, hX, hC, nk, hK, gone_start cs k.ss hl.symm hs0, by omega, fun H1 ks1 hb1 hX1 hl1 => ?_⟩
  refine ⟨_, rfl, _, rfl, by omega, by omega, ?_⟩
  refine for_range (lo := 0) (n := n.toNat) (fun i σ H' => ∃ (ks' : List KS) (y3 : Option V), σ = [some (.ref x), some (.ref kA), some (.int n), y3] ∧ But sA H H' ∧ KeptAt C K H' x sA cs (ks' ++ [⟨k.r + fc cs k.ss i - i, lf cs k.ss i, k.rd + i, k.ln⟩]) ∧ (ks'.length : Int) = ks.length + fc cs k.ss i + i ∧ ∀ m, 0 ≤ m → m < (i : Int) → m < k.r + fc cs k.ss m) ?_ ?_ ?_
  · refine ⟨ks1, _, rfl, hb1, ?_, ?_, fun m m0 m1 => by omega⟩
    · have e : (⟨k.r + fc cs k.ss (0 : Nat) - (0 : Nat), lf cs k.ss (0 : Nat), k.rd + (0 : Nat), k.ln⟩ : KS) = ⟨k.r + (fc cs k.ss 0 - 0), lf cs k.ss 0, k.rd, k.ln⟩ := by
        simp
      rw [e]
      exact hX1
    · simp only [Int.ofNat_zero] at *
      omega
  · rintro i σ H2 hi ⟨ks2, y3, rfl, hb2, hX2, hl2, hm⟩
    have hfi := fc_mono cs k.ss c2 (show ((i : Nat) : Int) ≤ n by omega)
    obtain ⟨dx, cA, us, t, pA, h1, _⟩ := hX2.top
    refine ⟨_, rfl, x, dx, _, rfl, h1, kf_no _ _ (by decide +kernel) (by decide +kernel), x, sA, cs, ks2, _, rfl, hX2, fun pA' hP => ?_⟩
    obtain ⟨zA, hp1, hp2⟩ := hP
    refine ⟨pA', _, _, _, rfl, rfl, hp1, atI_nat (j := 0) rfl, rfl, _, rfl, ite2 (fun y => ?_) (fun y => ?_)⟩
    · have y' : k.r + fc cs k.ss i - i = 0 := V.int.inj (of_decide_eq_true y)
      refine q false H2 hb2 ⟨(fun h => by cases h), fun h => ?_⟩ (fun h => by cases h)
      have := h (i : Int) (by omega) (by omega)
      omega
    · have y' : k.r + fc cs k.ss i - i ≠ 0 := fun e => y (decide_eq_true (by show V.int _ = V.int 0; rw [e]))
      have hpos : (i : Int) ≤ k.r + fc cs k.ss i := by
        by_cases z : (i : Int) = 0
        · have := fc_nonneg cs k.ss (n := (i : Int)) c2 hs0 (by omega)
          omega
        · have a := hm ((i : Int) - 1) (by omega) (by omega)
          have b := fc_mono cs k.ss c2 (show (i : Int) - 1 ≤ i by omega)
          omega
      have hlfl : (lf cs k.ss (i : Int)).length = cs.length := lf_len hl.symm
      refine ⟨_, rfl, x, dx, _, rfl, h1, kf_no _ _ (by decide +kernel) (by decide +kernel), x, sA, cs, ks2, _, rfl, hX2, ?_, ?_, by omega, fun H3 hb3 hX3 => ?_⟩
      · show (lf cs k.ss (i : Int)).length ≤ 3
        omega
      · show 0 < k.r + fc cs k.ss i - i
        omega
      have hG : Gone cs k.ss ((lf cs k.ss (i : Int)).map (· + 1)) ((i : Int) + 1) (fc cs k.ss i) := gone_ride cs k.ss _ (gone_lf cs k.ss c2 hl.symm)
      have hf1 := fc_mono cs k.ss c2 (show ((i : Nat) : Int) + 1 ≤ n by omega)
      have hf2 := fc_mono cs k.ss c2 (show ((i : Nat) : Int) ≤ (i : Int) + 1 by omega)
      refine ⟨_, rfl, _, rfl, x, sA, kA, cs, ks2 ++ [_], _, k.ss, (i : Int) + 1, fc cs k.ss i, rfl, hX3, (hb2.trans hb3).sqT nk hC, nk, hK, hG, ?_, fun H4 ks4 hb4 hX4 hl4 => ?_⟩
      · rw [List.length_append, List.length_singleton]
        omega
      rw [List.length_append, List.length_singleton] at hl4
      refine ⟨ks4, _, rfl, (hb2.trans hb3).trans hb4, ?_, ?_, fun m m0 m1 => ?_⟩
      · have e : (⟨k.r + fc cs k.ss (i + 1 : Nat) - (i + 1 : Nat), lf cs k.ss (i + 1 : Nat), k.rd + (i + 1 : Nat), k.ln⟩ : KS) = ⟨k.r + fc cs k.ss i - i - 1 + (fc cs k.ss ((i : Int) + 1) - fc cs k.ss i), lf cs k.ss ((i : Int) + 1), k.rd + i + 1, k.ln⟩ := by
          have e1 : (((i + 1 : Nat) : Int)) = (i : Int) + 1 := by omega
          rw [e1]
          congr 1
          · omega
          · omega
        rw [e]
        exact hX4
      · have e1 : (((i + 1 : Nat) : Int)) = (i : Int) + 1 := by omega
        rw [e1]
        omega
      · by_cases z : m < (i : Int)
        · exact hm m m0 z
        · have em : m = (i : Int) := by omega
          rw [em]
          omega
  · rintro σ H2 ⟨ks2, y3, rfl, hb2, hX2, hl2, hm⟩
    rw [show ((n.toNat : Nat) : Int) = n by omega] at hX2 hl2 hm
    exact q true H2 hb2 ⟨fun _ => hm, fun _ => rfl⟩ fun _ => ⟨ks2, by omega, hX2⟩
set_option maxHeartbeats 4000000 in
theorem ok_m_pay {P : Program} {w : World} {K : PySem.W.Frag} {mg : Str → Option Value} {base : Heap} {f : Addr} {fd : FuncData} (F : Fun K "pay" "Kept.pay" s_m_pay f fd) {C : Addr} (T : KeptT K mg C) (D_p_refuse_no_number : Def P w K mg base "refuse_no_number" 2 ["thing", "least"] (sp_p_refuse_no_number K)) :
    FnOk P w K mg base CX0 3 f fd ["self", "number"] (sp_m_pay K C) := by
  refine F.ok sc_m_pay (fun vs H Q E h => ?_) (fun cdv A outer s H vs Q E hr h => ?_)
  · obtain ⟨x, sA, cs, ks, k, n, rfl, hX, n0, n1, nl, nr, hlen, q⟩ := h
    rfl
  obtain ⟨x, sA, cs, ks, k, n, rfl, hX, n0, n1, nl, nr, hlen, q⟩ := h
  refine ⟨_, (pss_cons (ps_expr (pe_def D_p_refuse_no_number hr (pa_cons (pv 1) (pa_cons pe_int pa_nil))))
        (pss_cons (ps_asg (pe_ix ix_list (pe_fld (pv 0) rfl) (pe_un un_neg pe_int) (fun _ _ => rfl)) (pg_tup rfl (pgs_cons (pg_tup rfl (pgs_cons (pg_name (i := 2) sc_m_pay.nd rfl (Or.inl rfl)) (pgs_cons (pg_name (i := 3) sc_m_pay.nd rfl (Or.inl rfl)) pgs_nil))) (pgs_cons (pg_name (i := 4) sc_m_pay.nd rfl (Or.inl rfl)) (pgs_cons (pg_name (i := 5) sc_m_pay.nd rfl (Or.inl rfl)) pgs_nil)))))
        (pss_cons (ps_if (pt_cmpR op_lt (pv 5) (pv 1) (nomark _)) (pss_one (ps_never)) pss_nil)
        (pss_cons (ps_if (pt_cmpR op_lt (pv 2) (pv 1) (nomark _)) (pss_one (ps_never)) pss_nil)
        (pss_one (ps_expr (pe_bm PySem.F.plainAttrs_list PySem.F.slot_list_append PySem.F.type_list_append mt_append (pe_fld (pv 0) rfl) (pa_cons (pe_tup (pa_cons (pe_tup (pa_cons (pe_op op_sub (pv 2) (pv 1)) (pa_cons (pv 3) pa_nil))) (pa_cons (pv 4) (pa_cons (pe_op op_sub (pv 5) (pv 1)) pa_nil)))) pa_nil)))))))), ?_⟩
  obtain ⟨dx, cA, us, t, pA, h1, h2, hs, h4, h5, zA, h6, h7⟩ := hX.top
  have hul := h4.len
  refine ⟨_, rfl, _, .int n, 1, rfl, .int n, ?_, ?_⟩
  · show (decide (1 ≤ n) && decide (n ≤ 1000000000000000000)) = true
    rw [decide_eq_true n0, decide_eq_true n1]
    rfl
  refine ⟨_, rfl, x, C, dx, _, _, rfl, h1, T.cl, T.nS, kf_states _ _, _, rfl, sA, _, _, _, rfl, rfl, SqL.of hs, atI_last _ _, ?_⟩
  refine ⟨t, _, rfl, h5, rfl, _, _, rfl, pA, _, rfl, h6, rfl, _, _, rfl, _, _, rfl, rfl, _, _, rfl, _, _, rfl, rfl, ?_⟩
  refine ⟨_, rfl, _, rfl, _, _, rfl, rfl, _, rfl, iteN (fun e => by have := of_decide_eq_true e; omega) ?_⟩
  refine ⟨_, rfl, _, rfl, _, _, rfl, rfl, _, rfl, iteN (fun e => by have := of_decide_eq_true e; omega) ?_⟩
  refine ⟨_, rfl, x, C, dx, _, _, rfl, h1, T.cl, T.nS, kf_states _ _, .inl ⟨rfl, _, SqL.of hs⟩, ?_⟩
  refine ⟨_, rfl, _, rfl, _, _, rfl, rfl, _, rfl, (by show 2 ≤ sizeLine; decide), fun p np => ?_⟩
  have s1 := same_upd (o := .tup [.int (k.r - n), .ref zA]) np
  refine ⟨_, rfl, _, rfl, _, rfl, _, _, rfl, rfl, (by show 3 ≤ sizeLine; decide), fun t2 nt2 => ?_⟩
  have s2 := same_upd (o := .tup [.ref p, .int k.rd, .int (k.ln - n)]) nt2
  have hs2 := (s1.trans s2) _ _ hs
  refine ⟨sA, _, _, rfl, rfl, hs2, ?_, ?_⟩
  · rw [List.length_append, List.length_map, List.length_singleton]
    exact smallM (by omega)
  have e : us.map V.ref ++ [V.ref t] = (us ++ [t]).map V.ref := by
    rw [List.map_append]
    rfl
  rw [e] at hs2 ⊢
  refine q _ (fun b o eb nb => ?_) (hX.push (s1.trans s2) hs2 ((h4.same (s1.trans s2)).app (.cons (Same.seqT (s1.trans s2) h5) (Purse.same (s1.trans s2) ⟨zA, h6, h7⟩) .nil)) (SqT.of upd_same) ⟨zA, Same.seqT s2 (SqT.of upd_same), Same.seqT (s1.trans s2) h7⟩)
  rw [upd_ne nb]
  exact (s1.trans s2) _ _ eb
set_option maxHeartbeats 4000000 in
theorem ok_m_lent {P : Program} {w : World} {K : PySem.W.Frag} {mg : Str → Option Value} {base : Heap} {f : Addr} {fd : FuncData} (F : Fun K "lent" "Kept.lent" s_m_lent f fd) {C : Addr} (T : KeptT K mg C) :
    FnOk P w K mg base CX0 1 f fd ["self"] (sp_m_lent K C) := by
  refine F.ok sc_m_lent (fun vs H Q E h => ?_) (fun cdv A outer s H vs Q E hr h => ?_)
  · obtain ⟨x, sA, cs, ks, k, rfl, hX, q⟩ := h
    rfl
  obtain ⟨x, sA, cs, ks, k, rfl, hX, q⟩ := h
  refine ⟨_, (pss_one (ps_ret (pe_ix ix_tup (pe_ix ix_list (pe_fld (pv 0) rfl) (pe_un un_neg pe_int) (fun _ _ => rfl)) pe_int (fun _ _ => rfl)))), ?_⟩
  obtain ⟨dx, cA, us, t, pA, h1, h2, hs, h4, h5, h6⟩ := hX.top
  exact ⟨_, rfl, x, C, dx, _, _, rfl, h1, T.cl, T.nS, kf_states _ _, _, rfl, sA, _, _, _, rfl, rfl, SqL.of hs, atI_last _ _, t, _, _, _, rfl, rfl, h5, atI_nat (j := 2) rfl, q⟩
set_option maxHeartbeats 4000000 in
theorem ok_p_rides_in_all {P : Program} {w : World} {K : PySem.W.Frag} {mg : Str → Option Value} {base : Heap} {f : Addr} {fd : FuncData} (F : Fun K "rides_in_all" "rides_in_all" s_p_rides_in_all f fd) (D_p_period_pays : Def P w K mg base "period_pays" 2 ["cards"] (sp_p_period_pays K)) (D_p_period_of : Def P w K mg base "period_of" 1 ["cards"] (sp_p_period_of K)) (D_p_full_cards : Def P w K mg base "full_cards" 1 ["cards", "stamps", "ridden"] (sp_p_full_cards K)) :
    FnOk P w K mg base CX0 3 f fd ["cards", "purse"] (sp_p_rides_in_all K) := by
  refine F.ok sc_p_rides_in_all (fun vs H Q E h => ?_) (fun cdv A outer s H vs Q E hr h => ?_)
  · obtain ⟨cA, pA, cs, r, ss, rfl, hC, hP, hK, hS, hr0, q⟩ := h
    rfl
  obtain ⟨cA, pA, cs, r, ss, rfl, hC, hP, hK, hS, hr0, q⟩ := h
  refine ⟨_, (pss_cons (ps_asg (pv 1) (pg_tup rfl (pgs_cons (pg_name (i := 2) sc_p_rides_in_all.nd rfl (Or.inl rfl)) (pgs_cons (pg_name (i := 3) sc_p_rides_in_all.nd rfl (Or.inl rfl)) pgs_nil))))
        (pss_cons (ps_set (i := 4) sc_p_rides_in_all.nd rfl (Or.inl rfl) (pe_def D_p_period_pays hr (pa_cons (pv 0) pa_nil)))
        (pss_cons (ps_set (i := 5) sc_p_rides_in_all.nd rfl (Or.inl rfl) (pe_def D_p_period_of hr (pa_cons (pv 0) pa_nil)))
        (pss_cons (ps_set (i := 6) sc_p_rides_in_all.nd rfl (Or.inl rfl) pe_int)
        (pss_cons (ps_set (i := 7) sc_p_rides_in_all.nd rfl (Or.inl rfl) (pe_op op_add (pv 2) (pe_def D_p_full_cards hr (pa_cons (pv 0) (pa_cons (pv 3) (pa_cons (pv 6) pa_nil))))))
        (pss_cons (ps_while PassesOwn.never (pt_cmpR op_gt (pv 7) (pv 6) (nomark _)) (pss_cons (ps_if (PW.pt (pw_and (pt_val (pv 4)) (pw_and1 (pt_cmpR op_ge (pv 7) (pv 5) (nomark _))))) (pss_one (ps_ret pe_non)) pss_nil)
        (pss_cons (ps_set (i := 6) sc_p_rides_in_all.nd rfl (Or.inl rfl) (pv 7))
        (pss_one (ps_set (i := 7) sc_p_rides_in_all.nd rfl (Or.inl rfl) (pe_op op_add (pv 2) (pe_def D_p_full_cards hr (pa_cons (pv 0) (pa_cons (pv 3) (pa_cons (pv 6) pa_nil))))))))))
        (pss_one (ps_ret (pv 6))))))))), ?_⟩
  obtain ⟨sA, hP1, hP2⟩ := hP
  have hl : cs.length = ss.length := hS.1.symm
  obtain ⟨p1, p2, p3⟩ := perOf_ok hK
  refine ⟨_, rfl, pA, _, rfl, hP1, rfl, _, _, rfl, _, _, rfl, rfl, ?_⟩
  refine ⟨_, rfl, cA, cs, rfl, hC, hK, fun b H1 s1 hb => ?_⟩
  refine ⟨_, rfl, cA, cs, rfl, Same.seqT s1 hC, hK, ?_⟩
  refine ⟨_, rfl, _, rfl, _, rfl, _, rfl, cA, sA, cs, ss, _, rfl, Same.seqT s1 hC, Same.seqT s1 hP2, hl, hK, fun H2 s2 => ?_⟩
  refine ⟨_, _, rfl, rfl, ?_⟩
  have hf0 : 0 ≤ fc cs ss 0 := fc_nonneg cs ss (fun c hc => (hK.2.2 c hc).1) (fun x hx => hS.2 x hx) (by omega)
  have hB : b = false → 0 ≤ bound cs r ss ∧ r + fc cs ss (bound cs r ss) ≤ bound cs r ss := fun e => bound_ok hK hl (fun x hx => hS.2 x hx) hr0 (by
    have : ¬ perOf cs ≤ pq (perOf cs) cs := fun z => by rw [hb.mpr z] at e; cases e
    omega)
  refine while_by (fun σ H' => ∃ (had paid : Int), σ = [some (.ref cA), some (.ref pA), some (.int r), some (.ref sA), some (.bl b), some (.int (perOf cs)), some (.int had), some (.int paid)] ∧ Same H H' ∧ 0 ≤ had ∧ had ≤ paid ∧ paid = r + fc cs ss had ∧ (∀ m, 0 ≤ m → m < had → m < r + fc cs ss m) ∧ had ≤ (if b then perOf cs else bound cs r ss)) (fun (σ : L2.St) (_ : Hp) => match σ[6]? with | some (some (V.int k)) => ((if b then perOf cs else bound cs r ss) - k).toNat | _ => 0) ?_ ?_ ?_
  · refine ⟨0, _, rfl, s1.trans s2, by omega, by omega, rfl, fun m h0 h1 => by omega, ?_⟩
    cases b with
    | true => show 0 ≤ perOf cs; omega
    | false => exact (hB rfl).1
  · rintro σ H' ⟨had, paid, rfl, sm, h0, h1, hpd, hm, hbd⟩
    refine ⟨_, rfl, _, rfl, _, _, rfl, rfl, _, rfl, ite2 (fun c => ?_) (fun c => ?_)⟩
    · have c' := of_decide_eq_true c
      have hst := least_step hK hm h0
      rw [← hpd] at hst
      have hmo : paid ≤ r + fc cs ss paid := by
        have := fc_mono cs ss (m := had) (n := paid) (fun c hc => (hK.2.2 c hc).1) (by omega)
        omega
      refine ⟨_, rfl, _, rfl, ite2 (fun cb => ?_) (fun cb => ?_)⟩
      · refine ⟨_, rfl, _, rfl, _, _, rfl, rfl, _, rfl, ite2 (fun c2 => ?_) (fun c2 => ?_)⟩
        · have c3 := of_decide_eq_true c2
          exact q .non H' sm (never_of hK hl (hb.mp cb) (fun m h0 h1 => hst m h0 (by omega)))
        · have c3 : ¬ perOf cs ≤ paid := fun z => c2 (decide_eq_true z)
          refine ⟨_, rfl, _, rfl, _, rfl, _, rfl, _, rfl, cA, sA, cs, ss, _, rfl, Same.seqT sm hC, Same.seqT sm hP2, hl, hK, fun H3 s3 => ?_⟩
          refine ⟨_, _, rfl, rfl, ⟨_, _, rfl, sm.trans s3, by omega, hmo, rfl, hst, ?_⟩, ?_⟩
          · rw [if_pos cb]
            omega
          · show ((if b then perOf cs else bound cs r ss) - paid).toNat < ((if b then perOf cs else bound cs r ss) - had).toNat
            rw [if_pos cb]
            omega
      · have cb' : b = false := Bool.eq_false_iff.mpr cb
        have hle : paid ≤ bound cs r ss := by
          obtain ⟨b0, b1⟩ := hB cb'
          by_cases z : paid ≤ bound cs r ss
          · exact z
          · have := hst (bound cs r ss) b0 (by omega)
            omega
        refine iteF ⟨_, rfl, _, rfl, _, rfl, _, rfl, _, rfl, cA, sA, cs, ss, _, rfl, Same.seqT sm hC, Same.seqT sm hP2, hl, hK, fun H3 s3 => ?_⟩
        refine ⟨_, _, rfl, rfl, ⟨_, _, rfl, sm.trans s3, by omega, hmo, rfl, hst, ?_⟩, ?_⟩
        · rw [if_neg cb]
          omega
        · show ((if b then perOf cs else bound cs r ss) - paid).toNat < ((if b then perOf cs else bound cs r ss) - had).toNat
          rw [if_neg cb]
          omega
    · have c' : ¬ had < paid := fun z => c (decide_eq_true z)
      have e : r + fc cs ss had = had := by omega
      exact ⟨_, rfl, q (.int had) H' sm ⟨h0, e, hm⟩⟩
  · rintro σ H' Q1 Q2 hq ⟨v, e, v2, e', i, j, e1, e2, k, e3, h⟩
    exact ⟨v, e, v2, e', i, j, e1, e2, k, e3, hq _ _ h⟩
set_option maxHeartbeats 4000000 in
theorem ok_p_all_rides {P : Program} {w : World} {K : PySem.W.Frag} {mg : Str → Option Value} {base : Heap} {f : Addr} {fd : FuncData} (F : Fun K "all_rides" "all_rides" s_p_all_rides f fd) (D_p_refuse_no_cards : Def P w K mg base "refuse_no_cards" 3 ["thing"] (sp_p_refuse_no_cards K)) (D_p_refuse_no_purse : Def P w K mg base "refuse_no_purse" 4 ["cards", "thing"] (sp_p_refuse_no_purse K)) (D_p_rides_in_all : Def P w K mg base "rides_in_all" 3 ["cards", "purse"] (sp_p_rides_in_all K)) :
    FnOk P w K mg base CX0 5 f fd ["cards", "purse"] (sp_p_all_rides K) := by
  refine F.ok sc_p_all_rides (fun vs H Q E h => ?_) (fun cdv A outer s H vs Q E hr h => ?_)
  · obtain ⟨cA, pA, cs, r, ss, rfl, hC, hP, hK, hS, hr0, hr1, q⟩ := h
    rfl
  obtain ⟨cA, pA, cs, r, ss, rfl, hC, hP, hK, hS, hr0, hr1, q⟩ := h
  refine ⟨_, (pss_cons (ps_expr (pe_def D_p_refuse_no_cards hr (pa_cons (pv 0) pa_nil)))
        (pss_cons (ps_expr (pe_def D_p_refuse_no_purse hr (pa_cons (pv 0) (pa_cons (pv 1) pa_nil))))
        (pss_one (ps_ret (pe_def D_p_rides_in_all hr (pa_cons (pv 0) (pa_cons (pv 1) pa_nil))))))), ?_⟩
  refine ⟨_, rfl, _, _, rfl, .tup hC (dp_ints cs), cardsD_ok hK, fun H1 s1 => ?_⟩
  refine ⟨_, rfl, _, rfl, cA, _, _, _, rfl, Same.seqT s1 hC, ?_, (hP.same s1).dp, ?_, fun H2 s2 => ?_⟩
  · rw [List.length_map]
    exact hK.2.1
  · rw [List.length_map]
    exact purseD_ok hr0 hr1 hS
  have s := s1.trans s2
  exact ⟨_, rfl, _, rfl, cA, pA, cs, r, ss, rfl, Same.seqT s hC, hP.same s, hK, ⟨hS.1, fun x hx => (hS.2 x hx).1⟩, hr0, fun v H3 s3 h => q v H3 (s.trans s3) h⟩
set_option maxHeartbeats 4000000 in
theorem ok_m_still {P : Program} {w : World} {K : PySem.W.Frag} {mg : Str → Option Value} {base : Heap} {f : Addr} {fd : FuncData} (F : Fun K "still" "Kept.still" s_m_still f fd) {C : Addr} (T : KeptT K mg C) (D_p_rides_in_all : Def P w K mg base "rides_in_all" 3 ["cards", "purse"] (sp_p_rides_in_all K)) :
    FnOk P w K mg base CX0 4 f fd ["self"] (sp_m_still K C) := by
  refine F.ok sc_m_still (fun vs H Q E h => ?_) (fun cdv A outer s H vs Q E hr h => ?_)
  · obtain ⟨x, sA, cs, ks, k, rfl, hX, hK, hl, hs0, hr0, q⟩ := h
    rfl
  obtain ⟨x, sA, cs, ks, k, rfl, hX, hK, hl, hs0, hr0, q⟩ := h
  refine ⟨_, (pss_one (ps_ret (pe_def D_p_rides_in_all hr (pa_cons (pe_fld (pv 0) rfl) (pa_cons (pe_ix ix_tup (pe_ix ix_list (pe_fld (pv 0) rfl) (pe_un un_neg pe_int) (fun _ _ => rfl)) pe_int (fun _ _ => rfl)) pa_nil))))), ?_⟩
  obtain ⟨dx, cA, us, t, pA, h1, h2, hs, h4, h5, h6⟩ := hX.top
  refine ⟨_, rfl, x, C, dx, _, _, rfl, h1, T.cl, T.nC, kf_cards _ _, ?_⟩
  exact ⟨_, rfl, x, C, dx, _, _, rfl, h1, T.cl, T.nS, kf_states _ _, _, rfl, sA, _, _, _, rfl, rfl, SqL.of hs, atI_last _ _, t, _, _, _, rfl, rfl, h5, atI_nat (j := 0) rfl, cA, pA, cs, k.r, k.ss, rfl, h2, h6, hK, ⟨hl, hs0⟩, hr0, q⟩
set_option maxHeartbeats 4000000 in
theorem ok_p_left {P : Program} {w : World} {K : PySem.W.Frag} {mg : Str → Option Value} {base : Heap} {f : Addr} {fd : FuncData} (F : Fun K "left" "left" s_p_left f fd) (D_p_refuse_no_cards : Def P w K mg base "refuse_no_cards" 3 ["thing"] (sp_p_refuse_no_cards K)) (D_p_refuse_no_purse : Def P w K mg base "refuse_no_purse" 4 ["cards", "thing"] (sp_p_refuse_no_purse K)) (D_p_rides_in_all : Def P w K mg base "rides_in_all" 3 ["cards", "purse"] (sp_p_rides_in_all K)) (b_tuple : mg "tuple" = none) (b_zip : mg "zip" = none) :
    FnOk P w K mg base CX0 5 f fd ["cards", "purse"] (sp_p_left K) := by
  refine F.ok sc_p_left (fun vs H Q E h => ?_) (fun cdv A outer s H vs Q E hr h => ?_)
  · obtain ⟨cA, pA, cs, r, ss, rfl, hC, hP, hK, hS, hr0, hr1, q⟩ := h
    rfl
  obtain ⟨cA, pA, cs, r, ss, rfl, hC, hP, hK, hS, hr0, hr1, q⟩ := h
  refine ⟨_, (pss_cons (ps_expr (pe_def D_p_refuse_no_cards hr (pa_cons (pv 0) pa_nil)))
        (pss_cons (ps_expr (pe_def D_p_refuse_no_purse hr (pa_cons (pv 0) (pa_cons (pv 1) pa_nil))))
        (pss_cons (ps_set (i := 2) sc_p_left.nd rfl (Or.inr rfl) (pe_def D_p_rides_in_all hr (pa_cons (pv 0) (pa_cons (pv 1) pa_nil))))
        (pss_cons (ps_if (pt_cmpR op_isN (pv 2) pe_non (nomark _)) (pss_one (ps_ret pe_non)) pss_nil)
        (pss_one (ps_ret (pe_callTy call_tuple_of (by rfl) b_tuple PyProof.Rows.boot_tuple (pa_cons (pe_lc (own := [("full", 3), ("many", 4)]) (g := gTup K 2 (gCons (gName 3) (gCons (gName 4) gNil))) (tt := tYes) rfl sc_p_left.nd (RZ.pi_zipA rfl b_zip (pa_cons (pv 0) (pa_cons (pe_ix ix_tup (pv 1) pe_int (fun _ _ => rfl)) pa_nil))) (blkOk_by (own := [("full", 3), ("many", 4)]) (N := ["cards", "purse", "had", "full", "many"]) (sc := defScope s_p_left) (by decide +kernel)) (fun _ _ _ _ _ => (pg_tup rfl (pgs_cons (pg_name (i := 3) sc_p_left.nd rfl (Or.inl rfl)) (pgs_cons (pg_name (i := 4) sc_p_left.nd rfl (Or.inl rfl)) pgs_nil)))) (fun _ _ _ _ _ => pts_nil) (fun _ _ _ _ _ => (pe_op op_mod (pe_op op_add (pv 4) (pv 2)) (pv 3)))) pa_nil)))))))), ?_⟩
  refine ⟨_, rfl, _, _, rfl, .tup hC (dp_ints cs), cardsD_ok hK, fun H1 s1 => ?_⟩
  refine ⟨_, rfl, _, rfl, cA, _, _, _, rfl, Same.seqT s1 hC, ?_, (hP.same s1).dp, ?_, fun H2 s2 => ?_⟩
  · rw [List.length_map]
    exact hK.2.1
  · rw [List.length_map]
    exact purseD_ok hr0 hr1 hS
  have s := s1.trans s2
  refine ⟨_, rfl, _, rfl, cA, pA, cs, r, ss, rfl, Same.seqT s hC, hP.same s, hK, ⟨hS.1, fun x hx => (hS.2 x hx).1⟩, hr0, fun v H3 s3 h => ?_⟩
  have sm := s.trans s3
  have hl : cs.length = ss.length := hS.1.symm
  match v, h with
  | .non, h => exact ⟨_, rfl, rfl, _, rfl, q .non H3 sm (.inl ⟨rfl, h⟩)⟩
  | .int t, h =>
    refine ⟨_, rfl, rfl, _, rfl, ?_⟩
    obtain ⟨sA, hP1, hP2⟩ := hP.same sm
    refine ⟨_, rfl, _, rfl, pA, _, _, _, rfl, rfl, hP1, atI_nat (j := 1) rfl, cA, sA, _, _, rfl, .inr ⟨Same.seqT sm hC, hP2, fun D nD => ?_⟩⟩
    refine lc_zipT (K := K) (a := cA) (b := sA) (xs := cs.map V.int) (ys := ss.map V.int) (by rw [List.length_map, List.length_map, hl]) (fun i H' => Same H3 H' ∧ H' D = some (.lst (((lf cs ss t).take i).map V.int))) ?_ ?_ ?_ ?_
    · exact ⟨same_new (.refl H3) nD, upd_same⟩
    · rintro i H' ⟨sm', e⟩
      exact ⟨Same.seqT (sm.trans sm') hC, Same.seqT sm' hP2⟩
    · rintro i x y T H' hx hy ⟨sm', e⟩ nT
      obtain ⟨c, hc, rfl⟩ := get_map hx
      obtain ⟨s', hs, rfl⟩ := get_map hy
      obtain ⟨c2, c20⟩ := hK.2.2 c (List.mem_of_getElem? hc)
      have hi : i < cs.length := (List.getElem?_eq_some_iff.mp hc).1
      have h3 := hK.2.1
      have e' : (upd H' T (.tup [.int c, .int s'])) D = some (.lst (((lf cs ss t).take i).map V.int)) := by
        rw [upd_ne (ne_of_none e nT)]
        exact e
      refine ⟨T, _, rfl, SqT.of upd_same, rfl, _, _, rfl, _, _, rfl, rfl, rfl, _, rfl, _, rfl, _, _, rfl, rfl, _, rfl, _, _, rfl, rfl, (by omega), _, e', ?_, same_fresh (same_new sm' nT) nD, ?_⟩
      · rw [List.length_map, List.length_take]
        exact small1000 (by omega)
      · rw [upd_same, List.take_add_one, lf_get hc hs, List.map_append]
        rfl
    · rintro H' ⟨sm', e⟩
      rw [List.length_map, List.take_of_length_le (by rw [lf_len hl]; exact Nat.le_refl _)] at e
      refine ⟨D, _, rfl, .inl ⟨SqL.of e, fun p np => ?_⟩⟩
      exact q (.ref p) _ (same_new (sm.trans sm') np) (.inr ⟨p, t, rfl, upd_same, h⟩)
set_option maxHeartbeats 4000000 in
theorem ok_l_law {P : Program} {w : World} {K : PySem.W.Frag} {mg : Str → Option Value} {base : Heap} {f : Addr} {fd : FuncData} (F : Fun K "law" "law" s_l_law f fd) {C : Addr} (T : KeptT K mg C) (D_l_bags : Def P w K mg base "_law_bags" 3 ["script", "limit"] (sp_l_bags K)) (D_l_kinds : Def P w K mg base "_law_kinds" 2 ["bag", "far"] (sp_l_kinds K)) (D_l_take : Def P w K mg base "_law_take" 1 ["bag", "many"] (sp_l_take K)) (D_l_had : Def P w K mg base "_law_had" 4 ["bag", "kinds", "far"] (sp_l_had K)) (D_p_least_loan : Def P w K mg base "least_loan" 5 ["cards", "purse", "number"] (sp_p_least_loan K)) (D_p_can_have : Def P w K mg base "can_have" 5 ["cards", "purse", "number"] (sp_p_can_have K)) (D_m_init : KMk P w K mg base C 5 ["self", "cards", "purse"] (sp_m_init K C)) (D_m_lend : MDef P w K mg base C "lend" 3 ["self", "number"] (sp_m_lend K C)) (D_m_ridden : MDef P w K mg base C "ridden" 1 ["self"] (sp_m_ridden K C)) (D_m_purse : MDef P w K mg base C "purse" 1 ["self"] (sp_m_purse K C)) (D_l_rides : Def P w K mg base "_law_rides" 5 ["kept", "kinds", "rides"] (sp_l_rides K C)) (D_m_pay : MDef P w K mg base C "pay" 3 ["self", "number"] (sp_m_pay K C)) (D_m_lent : MDef P w K mg base C "lent" 1 ["self"] (sp_m_lent K C)) (D_p_all_rides : Def P w K mg base "all_rides" 5 ["cards", "purse"] (sp_p_all_rides K)) (D_m_still : MDef P w K mg base C "still" 4 ["self"] (sp_m_still K C)) (D_p_left : Def P w K mg base "left" 5 ["cards", "purse"] (sp_p_left K)) (b_range : mg "range" = none) :
    FnOk P w K mg base CX0 7 f fd ["script"] (sp_l_law K) := by
  refine F.ok sc_l_law (fun vs H Q E h => ?_) (fun cdv A outer s H vs Q E hr h => ?_)
  · obtain ⟨a, ns, rfl, hS, h63, q⟩ := h
    rfl
  obtain ⟨a, ns, rfl, hS, h63, q⟩ := h
  refine ⟨_, (pss_cons (ps_for PassesOwn.never rfl (pi_list (pe_def D_l_bags hr (pa_cons (pv 0) (pa_cons pe_int pa_nil)))) (pg_name (i := 1) sc_l_law.nd rfl (Or.inl rfl)) (pss_cons (ps_set (i := 2) sc_l_law.nd rfl (Or.inl rfl) (pe_def D_l_kinds hr (pa_cons (pv 1) (pa_cons (pe_ix ix_list (pe_lst (pa_cons pe_int (pa_cons pe_int pa_nil))) (pe_def D_l_take hr (pa_cons (pv 1) (pa_cons pe_int pa_nil))) (fun _ _ => rfl)) pa_nil))))
        (pss_cons (ps_set (i := 3) sc_l_law.nd rfl (Or.inl rfl) (pe_def D_l_had hr (pa_cons (pv 1) (pa_cons (pv 2) (pa_cons (pe_ix ix_list (pe_lst (pa_cons pe_int (pa_cons pe_int pa_nil))) (pe_def D_l_take hr (pa_cons (pv 1) (pa_cons pe_int pa_nil))) (fun _ _ => rfl)) pa_nil)))))
        (pss_cons (ps_for PassesOwn.never rfl (pi_range1 rfl b_range (pa_cons pe_int pa_nil)) (pg_name (i := 4) sc_l_law.nd rfl (Or.inl rfl)) (pss_cons (ps_set (i := 5) sc_l_law.nd rfl (Or.inl rfl) (pe_def D_l_take hr (pa_cons (pv 1) (pa_cons pe_int pa_nil))))
        (pss_cons (ps_set (i := 6) sc_l_law.nd rfl (Or.inl rfl) (pe_def D_p_least_loan hr (pa_cons (pv 2) (pa_cons (pv 3) (pa_cons (pv 5) pa_nil)))))
        (pss_cons (ps_if (pt_cmpR op_eq (pe_cmpR op_isN (pv 6) pe_non (nomark _)) (pe_def D_p_can_have hr (pa_cons (pv 2) (pa_cons (pv 3) (pa_cons (pv 5) pa_nil)))) (nomark _)) (pss_one (ps_ret pe_bl)) pss_nil)
        (pss_one (ps_if (pt_cmpR op_notN (pv 6) pe_non (nomark _)) (pss_cons (ps_set (i := 7) sc_l_law.nd rfl (Or.inl rfl) (pe_mkdef T D_m_init hr (pa_cons (pv 2) (pa_cons (pv 3) pa_nil))))
        (pss_cons (ps_if (pt_cmpR op_gt (pv 6) pe_int (nomark _)) (pss_one (ps_expr (pe_mdef T D_m_lend hr (pv 7) (pa_cons (pv 6) pa_nil)))) pss_nil)
        (pss_cons (ps_if (PW.pt (pw_or (pt_not (pt_val (pe_def D_l_rides hr (pa_cons (pv 7) (pa_cons (pv 2) (pa_cons (pv 5) pa_nil)))))) (pw_or (pt_cmpR op_lt (pe_ix ix_tup (pe_mdef0 T D_m_purse hr (pv 7)) pe_int (fun _ _ => rfl)) (pv 6) (nomark _)) (pw_or1 (pt_cmpR op_ne (pe_mdef0 T D_m_ridden hr (pv 7)) (pv 5) (nomark _)))))) (pss_one (ps_ret pe_bl)) pss_nil)
        (pss_cons (ps_if (pt_cmpR op_gt (pv 6) pe_int (nomark _)) (pss_one (ps_expr (pe_mdef T D_m_pay hr (pv 7) (pa_cons (pv 6) pa_nil)))) pss_nil)
        (pss_cons (ps_set (i := 8) sc_l_law.nd rfl (Or.inl rfl) (pe_mkdef T D_m_init hr (pa_cons (pv 2) (pa_cons (pv 3) pa_nil))))
        (pss_cons (ps_if (pt_cmpR op_gt (pv 6) pe_int (nomark _)) (pss_one (ps_expr (pe_mdef T D_m_lend hr (pv 8) (pa_cons (pe_op op_sub (pv 6) pe_int) pa_nil)))) pss_nil)
        (pss_one (ps_if (PW.pt (pw_or (pt_cmpR op_ne (pe_mdef0 T D_m_lent hr (pv 7)) pe_int (nomark _)) (pw_or1 (PW.pt (pw_and (pt_cmpR op_gt (pv 6) pe_int (nomark _)) (pw_and1 (pt_val (pe_def D_l_rides hr (pa_cons (pv 8) (pa_cons (pv 2) (pa_cons (pv 5) pa_nil))))))))))) (pss_one (ps_ret pe_bl)) pss_nil)))))))) pss_nil))))))
        (pss_cons (ps_set (i := 9) sc_l_law.nd rfl (Or.inl rfl) (pe_def D_p_all_rides hr (pa_cons (pv 2) (pa_cons (pv 3) pa_nil))))
        (pss_one (ps_if (PW.pt (pw_and (pt_cmpR op_notN (pv 9) pe_non (nomark _)) (pw_and1 (pt_cmpR op_lt (pv 9) pe_int (nomark _))))) (pss_cons (ps_set (i := 7) sc_l_law.nd rfl (Or.inl rfl) (pe_mkdef T D_m_init hr (pa_cons (pv 2) (pa_cons (pv 3) pa_nil))))
        (pss_one (ps_if (PW.pt (pw_or (pt_not (pt_val (pe_def D_l_rides hr (pa_cons (pv 7) (pa_cons (pv 2) (pa_cons (pv 9) pa_nil)))))) (pw_or (pt_cmpR (op_neD hr.units) (pe_mdef0 T D_m_purse hr (pv 7)) (pe_tup (pa_cons pe_int (pa_cons (pe_def D_p_left hr (pa_cons (pv 2) (pa_cons (pv 3) pa_nil))) pa_nil))) (nomark _)) (pw_or1 (pt_cmpR op_ne (pe_mdef0 T D_m_still hr (pv 7)) pe_int (nomark _)))))) (pss_one (ps_ret pe_bl)) pss_nil))) pss_nil)))))))
        (pss_one (ps_ret pe_bl))), ?_⟩
  refine ⟨_, rfl, a, ns, 6, rfl, hS, h63, by omega, by omega, fun p bs H1 k1 np ep hl hb => ?_⟩
  refine ⟨p, rfl, ⟨_, SqL.of ep⟩, ?_⟩
  refine for_list (K := K) (a := p) (xs := bs.map V.ref) (fun i σ H' => ∃ y1 y2 y3 y4 y5 y6 y7 y8 y9, σ = [some (.ref a), y1, y2, y3, y4, y5, y6, y7, y8, y9] ∧ Kp H1 H') ?_ ?_ ?_ ?_
  · exact ⟨_, _, _, _, _, _, _, _, _, rfl, .refl H1⟩
  · rintro i σ H' hi ⟨y1, y2, y3, y4, y5, y6, y7, y8, y9, rfl, kk⟩
    exact SqL.of (kk.keep _ _ ep nrefs)
  · rintro i x σ Hb hx ⟨y1, y2, y3, y4, y5, y6, y7, y8, y9, rfl, kk⟩
    obtain ⟨b, hbm, rfl⟩ := get_ref hx
    have hB1 : Bag H1 b := hb b hbm
    -- kinds
    refine ⟨_, rfl, (by show 2 ≤ sizeLine; decide), fun l nl => ?_⟩
    have kl := kk.new (o := .lst (([4, 20] : List Int).map V.int)) nl
    refine ⟨_, rfl, b, _, rfl, kl.bags hB1, p0, fun r0 H2 r00 r01 k2 => ?_⟩
    obtain ⟨v, hv, _, ha⟩ := at_int (ns := [4, 20]) (k := r0) r00 r01
    have hv2 : 2 ≤ v ∧ v ≤ 20 := by
      simp only [List.mem_cons, List.not_mem_nil, or_false] at hv
      omega
    refine ⟨l, _, _, _, rfl, rfl, SqL.of (k2.keep _ _ upd_same (nint (ns := [4, 20]))), ha, b, v, rfl, (kl.trans k2).bags hB1, hv2.1, fun kA cs H3 k3 e3 c1 c3 hc => ?_⟩
    have hK : Cards cs := ⟨c1, c3, fun c h => ⟨(hc c h).1, by have := (hc c h).2; omega⟩⟩
    have c2 : ∀ c ∈ cs, (2 : Int) ≤ c := fun c h => (hK.2.2 c h).1
    have kt3 := (kl.trans k2).trans k3
    -- had
    refine ⟨_, rfl, _, rfl, (by show 2 ≤ sizeLine; decide), fun l2 nl2 => ?_⟩
    have kl2 := kt3.new (o := .lst (([3, 10] : List Int).map V.int)) nl2
    have e4 : (upd H3 l2 (.lst (([3, 10] : List Int).map V.int))) kA = some (.tup (cs.map V.int)) := same_upd nl2 _ _ e3
    refine ⟨_, rfl, b, _, rfl, kl2.bags hB1, p0, fun r1 H4 r10 r11 k4 => ?_⟩
    obtain ⟨v2, hv2', _, ha2⟩ := at_int (ns := [3, 10]) (k := r1) r10 r11
    have hv3 : 0 ≤ v2 ∧ v2 ≤ 10 := by
      simp only [List.mem_cons, List.not_mem_nil, or_false] at hv2'
      omega
    refine ⟨l2, _, _, _, rfl, rfl, SqL.of (k4.keep _ _ upd_same (nint (ns := [3, 10]))), ha2, b, kA, cs, v2, rfl, (kl2.trans k4).bags hB1, SqT.of (k4.keep _ _ e4 ntup), c3, hv3.1, fun pA sA0 r ss H5 k5 e5 e5' r0 rv hsl hss => ?_⟩
    have kt5 := (kl2.trans k4).trans k5
    have eK5 : H5 kA = some (.tup (cs.map V.int)) := k5.keep _ _ (k4.keep _ _ e4 ntup) ntup
    have hP5 : Purse K H5 pA r ss := ⟨sA0, SqT.of e5, SqT.of e5'⟩
    have hSt : Stamps cs.length ss := ⟨hsl, fun x hx => ⟨(hss x hx).1, by have := (hss x hx).2; omega⟩⟩
    have hs0 : ∀ x ∈ ss, (0 : Int) ≤ x := fun x hx => (hss x hx).1
    have hll : cs.length = ss.length := hsl.symm
    have hr1 : r ≤ 1000000000000000000 := by omega
    have hfc : ∀ n : Int, 0 ≤ n → n ≤ 400 → fc cs ss n ≤ 1230 := fun n n0 n1 => by
      have h := fc_le cs ss (n := n) (M := 10) c2 (fun s hs => ⟨(hss s hs).1, by have := (hss s hs).2; omega⟩) n0 (by omega)
      have h2 : (cs.length : Int) * (10 + n) ≤ 3 * (10 + n) := Int.mul_le_mul_of_nonneg_right (by omega) (by omega)
      omega
    -- the turns
    refine ⟨6, rfl, by decide, by decide, ?_⟩
    refine for_range (lo := 0) (n := 6) (fun i σ H' => ∃ y4 y5 y6 y7 y8 y9, σ = [some (.ref a), some (.ref b), some (.ref kA), some (.ref pA), y4, y5, y6, y7, y8, y9] ∧ Kp H5 H') ?_ ?_ ?_
    · exact ⟨_, _, _, _, _, _, rfl, .refl _⟩
    · rintro i σ H6 hi ⟨z4, z5, z6, z7, z8, z9, rfl, k6⟩
      refine ⟨_, rfl, b, _, rfl, (kt5.trans k6).bags hB1, p0, fun n H7 n0 n1 k7 => ?_⟩
      have k57 := k6.trans k7
      have eK7 : H7 kA = some (.tup (cs.map V.int)) := k57.keep _ _ eK5 ntup
      have hP7 := hP5.kp k57
      refine ⟨_, rfl, _, rfl, _, rfl, kA, pA, cs, r, ss, n, rfl, SqT.of eK7, hP7, hK, hSt, r0, hr1, n0, by omega, fun lv H8 s8 hlv => ?_⟩
      refine ⟨_, rfl, rfl, _, rfl, _, rfl, _, rfl, kA, pA, cs, r, ss, n, rfl, SqT.of (s8 _ _ eK7), hP7.same s8, hK, hSt, r0, hr1, n0, by omega, fun H9 s9 => ⟨rfl, _, rfl, iteN ?_ ?_⟩⟩
      · intro e
        have e' := V.bl.inj (of_decide_eq_true e)
        rcases hlv with ⟨rfl, h⟩ | ⟨w, rfl, _, h⟩
        · have h' : ¬ n ≤ r + fc cs ss n := h
          rw [decide_eq_true rfl, decide_eq_false h'] at e'
          cases e'
        · have h' : n ≤ r + fc cs ss n := h
          rw [decide_eq_false (fun z => nomatch z), decide_eq_true h'] at e'
          cases e'
      have k59 := (k57.trans (.of s8)).trans (.of s9)
      have eK9 : H9 kA = some (.tup (cs.map V.int)) := k59.keep _ _ eK5 ntup
      have hP9 := hP5.kp k59
      rcases hlv with ⟨rfl, _⟩ | ⟨w, rfl, hw, hcan⟩
      · exact ⟨_, rfl, rfl, _, rfl, iteNS rfl ⟨_, _, _, _, _, _, rfl, k59⟩⟩
      have hwn := want_le hK hs0 n0 hw
      have hw0 := hw.1
      have hcan' : n ≤ r + fc cs ss n := hcan
      generalize hL : loanOf w r = L
      have hL0 : 0 ≤ L ∧ L ≤ 60 ∧ w ≤ r + L ∧ (0 < L → L = w - r) := by
        unfold loanOf at hL
        split at hL <;> omega
      refine ⟨_, rfl, rfl, _, rfl, iteP nn_int ?_⟩
      -- kept
      refine ⟨_, rfl, _, rfl, fun x dx nx ndx nxd => ?_⟩
      have sm := same_made (C := C) nx ndx
      refine ⟨x, dx, kA, pA, cs, r, ss, rfl, upd_same, Same.seqT sm (SqT.of eK9), hP9.same sm, hK, hSt, r0, hr1, fun sA H10 nsA hX10 hk10 => ⟨rfl, ?_⟩⟩
      have s10 : Same H9 H10 := Same.made nx ndx hk10
      have nsA9 : H9 sA = none := sm.free nsA
      have nkA : kA ≠ sA := ne_of_none eK9 nsA9
      -- lend
      apply viaP (fun H' => But sA H10 H' ∧ ∃ ks : List KS, ks.length ≤ 1 ∧ KeptAt C K H' x sA cs (ks ++ [⟨r + L, ss, 0, L⟩]))
      case main =>
        intro tail
        refine ⟨_, rfl, _, _, rfl, rfl, _, rfl, ite2 (fun y => ?_) (fun y => ?_)⟩
        · have y' : 0 < L := of_decide_eq_true y
          obtain ⟨dx', cA', us, t, pA', h1, _⟩ := KeptAt.top (ks := []) hX10
          refine ⟨_, rfl, x, dx', _, rfl, h1, kf_no _ _ (by decide +kernel) (by decide +kernel), _, rfl, x, sA, cs, [], _, L, rfl, hX10, by omega, by omega, by decide, fun H11 hb11 hX11 => ?_⟩
          refine tail _ ⟨hb11, [⟨r, ss, 0, 0⟩], Nat.le_refl 1, ?_⟩
          have e : (⟨r + L, ss, 0, 0 + L⟩ : KS) = ⟨r + L, ss, 0, L⟩ := by rw [Int.zero_add]
          rw [← e]
          exact hX11
        · have y' : L = 0 := by
            have : ¬ 0 < L := fun z => y (decide_eq_true z)
            omega
          refine tail _ ⟨.of (.refl _), [], Nat.zero_le _, ?_⟩
          rw [y', Int.add_zero]
          exact hX10
      case rest =>
      rintro H11 ⟨hb11, ks, hks, hX11⟩
      have k511 : Kp H5 H11 := But.kp (k59.trans (.of s10)) (k59.none nsA9) hb11
      have eK11 : H11 kA = some (.tup (cs.map V.int)) := k511.keep _ _ eK5 ntup
      have hfn := hfc n n0 (by omega)
      -- rides
      refine ⟨_, rfl, _, rfl, _, rfl, x, sA, kA, cs, ks, _, n, rfl, hX11, SqT.of eK11, nkA, hK, hsl, hs0, by show 0 ≤ r + L; omega, n0, by omega, by show (ks.length : Int) + fc cs ss n + n ≤ 9000; omega, fun bb H12 hb12 hbb hfin => ?_⟩
      have ebb : bb = true := hbb.mpr fun m m0 m1 => (want_iff hw (r := r + L) (by omega)).mpr hL0.2.2.1 m m0 m1
      subst ebb
      obtain ⟨ks2, hks2, hX12⟩ := hfin rfl
      have hks2' : (ks2.length : Int) ≤ ks.length + fc cs ss n + n := hks2
      refine ⟨_, rfl, iteF ?_⟩
      have k512 : Kp H5 H12 := But.kp k511 (k59.none nsA9) hb12
      obtain ⟨dx1, cA1, us1, t1, pA1, g1, _⟩ := hX12.top
      refine ⟨_, rfl, x, dx1, _, rfl, g1, kf_no _ _ (by decide +kernel) (by decide +kernel), x, sA, cs, ks2, _, rfl, hX12, fun pB hPB => ?_⟩
      obtain ⟨zB, hq1, hq2⟩ := hPB
      refine ⟨pB, _, _, _, rfl, rfl, hq1, atI_nat (j := 0) rfl, _, rfl, _, _, rfl, rfl, _, rfl, iteN (fun e => ?_) ?_⟩
      · have e' : r + L + fc cs ss n - n < L := of_decide_eq_true e
        omega
      refine ⟨_, rfl, x, dx1, _, rfl, g1, kf_no _ _ (by decide +kernel) (by decide +kernel), x, sA, cs, ks2, _, rfl, hX12, _, rfl, rfl, _, rfl, iteNS (by show V.int (0 + n) = V.int n; rw [Int.zero_add]) ?_⟩
      -- pay
      apply viaP (fun H' => But sA H12 H' ∧ ∃ (ks : List KS) (k : KS), k.ln = 0 ∧ KeptAt C K H' x sA cs (ks ++ [k]))
      case main =>
        intro tail
        refine ⟨_, rfl, _, _, rfl, rfl, _, rfl, ite2 (fun y => ?_) (fun y => ?_)⟩
        · have y' : 0 < L := of_decide_eq_true y
          refine ⟨_, rfl, x, dx1, _, rfl, g1, kf_no _ _ (by decide +kernel) (by decide +kernel), _, rfl, x, sA, cs, ks2, _, L, rfl, hX12, by omega, by omega, Int.le_refl _, by show L ≤ r + L + fc cs ss n - n; omega, by omega, fun H13 hb13 hX13 => ?_⟩
          exact tail _ ⟨hb13, _, _, by show L - L = 0; omega, hX13⟩
        · have y' : L = 0 := by
            have : ¬ 0 < L := fun z => y (decide_eq_true z)
            omega
          exact tail _ ⟨.of (.refl _), ks2, _, by show L = 0; exact y', hX12⟩
      case rest =>
      rintro H13 ⟨hb13, ks3, kk3, hln3, hX13⟩
      have k513 : Kp H5 H13 := But.kp k512 (k59.none nsA9) hb13
      have eK13 : H13 kA = some (.tup (cs.map V.int)) := k513.keep _ _ eK5 ntup
      have hP13 := hP5.kp k513
      -- fewer
      refine ⟨_, rfl, _, rfl, fun x2 dx2 nx2 ndx2 nxd2 => ?_⟩
      have sm2 := same_made (C := C) nx2 ndx2
      refine ⟨x2, dx2, kA, pA, cs, r, ss, rfl, upd_same, Same.seqT sm2 (SqT.of eK13), hP13.same sm2, hK, hSt, r0, hr1, fun sB H14 nsB hX14 hk14 => ⟨rfl, ?_⟩⟩
      have s14 : Same H13 H14 := Same.made nx2 ndx2 hk14
      have nsB13 : H13 sB = none := sm2.free nsB
      have nkB : kA ≠ sB := ne_of_none eK13 nsB13
      obtain ⟨yA, eyA⟩ := hX13.lst
      have nAB : sA ≠ sB := ne_of_none eyA nsB13
      have hXa14 := hX13.same s14
      apply viaP (fun H' => But sB H14 H' ∧ ∃ (ks : List KS) (M N : Int), ks.length ≤ 1 ∧ 0 ≤ M ∧ (0 < L → M = r + L - 1) ∧ KeptAt C K H' x2 sB cs (ks ++ [⟨M, ss, 0, N⟩]))
      case main =>
        intro tail
        refine ⟨_, rfl, _, _, rfl, rfl, _, rfl, ite2 (fun y => ?_) (fun y => ?_)⟩
        · have y' : 1 < L := of_decide_eq_true y
          obtain ⟨dx', cA', us, t, pA', h1, _⟩ := KeptAt.top (ks := []) hX14
          refine ⟨_, rfl, x2, dx', _, rfl, h1, kf_no _ _ (by decide +kernel) (by decide +kernel), _, rfl, _, _, rfl, rfl, x2, sB, cs, [], _, L - 1, rfl, hX14, by omega, by omega, by decide, fun H15 hb15 hX15 => ?_⟩
          exact tail _ ⟨hb15, [⟨r, ss, 0, 0⟩], r + (L - 1), _, Nat.le_refl 1, by omega, fun _ => by omega, hX15⟩
        · have y' : ¬ 1 < L := fun z => y (decide_eq_true z)
          exact tail _ ⟨.of (.refl _), [], r, _, Nat.zero_le _, r0, fun _ => by omega, hX14⟩
      case rest =>
      rintro H15 ⟨hb15, ks4, M, N, hks4, hM0, hM, hX15⟩
      have k515 : Kp H5 H15 := But.kp (k513.trans (.of s14)) (k513.none nsB13) hb15
      have eK15 : H15 kA = some (.tup (cs.map V.int)) := k515.keep _ _ eK5 ntup
      obtain ⟨yB, eyB⟩ := hX14.lst
      have hXa15 := hXa14.but hb15 nAB eyB
      obtain ⟨dx3, cA3, us3, t3, pA3, g3, _⟩ := hXa15.top
      refine ⟨_, rfl, x, dx3, _, rfl, g3, kf_no _ _ (by decide +kernel) (by decide +kernel), x, sA, cs, ks3, kk3, rfl, hXa15, rfl, _, rfl, iteNS (by rw [hln3]) ?_⟩
      refine ⟨_, rfl, _, _, rfl, rfl, _, rfl, ite2 (fun y => ?_) (fun y => ?_)⟩
      · have y' : 0 < L := of_decide_eq_true y
        have eM := hM y'
        refine ⟨_, rfl, _, rfl, _, rfl, x2, sB, kA, cs, ks4, _, n, rfl, hX15, SqT.of eK15, nkB, hK, hsl, hs0, hM0, n0, by omega, by show (ks4.length : Int) + fc cs ss n + n ≤ 9000; omega, fun b2 H16 hb16 hb2 _ => ⟨_, rfl, ?_⟩⟩
        have eb2 : b2 = false := by
          cases z : b2 with
          | false => rfl
          | true =>
            have h := (want_iff hw (r := M) hM0).mp (hb2.mp z)
            have := hL0.2.2.2 y'
            omega
        subst eb2
        refine iteF ⟨_, _, _, _, _, _, rfl, ?_⟩
        exact But.kp k515 (k513.none nsB13) hb16
      · exact iteF ⟨_, _, _, _, _, _, rfl, k515⟩
    · rintro σ H6 ⟨z4, z5, z6, z7, z8, z9, rfl, k6⟩
      have eK6 : H6 kA = some (.tup (cs.map V.int)) := k6.keep _ _ eK5 ntup
      have hP6 := hP5.kp k6
      refine ⟨_, rfl, _, rfl, kA, pA, cs, r, ss, rfl, SqT.of eK6, hP6, hK, hSt, r0, hr1, fun tv H7 s7 ht => ?_⟩
      have k57 := k6.trans (.of s7)
      have eK7 : H7 kA = some (.tup (cs.map V.int)) := k57.keep _ _ eK5 ntup
      have hP7 := hP5.kp k57
      rcases told_cases ht with ⟨rfl, _⟩ | ⟨t, rfl, hLe⟩
      · exact ⟨_, rfl, rfl, _, rfl, iteNS rfl (iteF ⟨_, _, _, _, _, _, _, _, _, rfl, kt5.trans k57⟩)⟩
      refine ⟨_, rfl, rfl, _, rfl, iteP nn_int ⟨_, rfl, _, _, rfl, rfl, _, rfl, ite2 (fun y => ?_) (fun y => ⟨_, _, _, _, _, _, _, _, _, rfl, kt5.trans k57⟩)⟩⟩
      have y' : t < 400 := of_decide_eq_true y
      have t0 := hLe.1
      have hft := hfc t t0 (by omega)
      have het := hLe.2.1
      refine ⟨_, rfl, _, rfl, fun x dx nx ndx nxd => ?_⟩
      have sm := same_made (C := C) nx ndx
      refine ⟨x, dx, kA, pA, cs, r, ss, rfl, upd_same, Same.seqT sm (SqT.of eK7), hP7.same sm, hK, hSt, r0, hr1, fun sA H8 nsA hX8 hk8 => ⟨rfl, ?_⟩⟩
      have s8 : Same H7 H8 := Same.made nx ndx hk8
      have nsA7 : H7 sA = none := sm.free nsA
      have nkA : kA ≠ sA := ne_of_none eK7 nsA7
      refine ⟨_, rfl, _, rfl, _, rfl, x, sA, kA, cs, [], _, t, rfl, hX8, SqT.of (s8 _ _ eK7), nkA, hK, hsl, hs0, r0, t0, by omega, by show (0 : Int) + fc cs ss t + t ≤ 9000; omega, fun bb H9 hb9 hbb hfin => ?_⟩
      have ebb : bb = true := hbb.mpr hLe.2.2
      subst ebb
      obtain ⟨ks2, hks2, hX9⟩ := hfin rfl
      have ek : (⟨r + fc cs ss t - t, lf cs ss t, 0 + t, 0⟩ : KS) = ⟨0, lf cs ss t, t, 0⟩ := by
        congr 1
        · omega
        · omega
      have hX9' : KeptAt C K H9 x sA cs (ks2 ++ [⟨0, lf cs ss t, t, 0⟩]) := by
        rw [← ek]
        exact hX9
      have k59 : Kp H5 H9 := But.kp (k57.trans (.of s8)) (k57.none nsA7) hb9
      have eK9 : H9 kA = some (.tup (cs.map V.int)) := k59.keep _ _ eK5 ntup
      have hP9 := hP5.kp k59
      refine ⟨_, rfl, iteF ?_⟩
      obtain ⟨dx1, cA1, us1, t1, pA1, g1, _⟩ := hX9'.top
      refine ⟨_, rfl, x, dx1, _, rfl, g1, kf_no _ _ (by decide +kernel) (by decide +kernel), x, sA, cs, ks2, _, rfl, hX9', fun pB hPB => ?_⟩
      refine ⟨_, rfl, _, rfl, kA, pA, cs, r, ss, rfl, SqT.of eK9, hP9, hK, hSt, r0, hr1, fun lv H10 s10 hlv => ?_⟩
      rcases hlv with ⟨_, hnv⟩ | ⟨lA, t', rfl, elA, hL'⟩
      · exact (least_never hLe hnv).elim
      obtain rfl := least_unique hLe hL'
      refine ⟨(by show 2 ≤ sizeLine; decide), fun tA ntA => ?_⟩
      have s11 := s10.trans (same_upd (o := .tup [.int 0, .ref lA]) ntA)
      refine ⟨_, _, (hPB.same s11).dp, .tup (SqT.of upd_same) (.cons (.int 0) (.cons (.tup (SqT.of (same_upd ntA _ _ elA)) (dp_ints _)) .nil)), due_shaped _ _, due_shaped 0 _, _, rfl, ?_⟩
      rw [due_eqv]
      refine iteF ?_
      have hX11 := hX9'.same s11
      obtain ⟨dx3, cA3, us3, t3, pA3, g3, _⟩ := hX11.top
      refine ⟨_, rfl, x, dx3, _, rfl, g3, kf_no _ _ (by decide +kernel) (by decide +kernel), x, sA, cs, ks2, _, rfl, hX11, hK, lf_len hll, lf_nonneg cs ss c2, Int.le_refl _, fun sv H12 s12 hsv => ?_⟩
      obtain rfl := told_least hsv (least_rest c2)
      exact ⟨rfl, _, rfl, iteNS rfl ⟨_, _, _, _, _, _, _, _, _, rfl, kt5.trans ((k59.trans (.of s11)).trans (.of s12))⟩⟩
  · rintro σ H2 ⟨y1, y2, y3, y4, y5, y6, y7, y8, y9, rfl, kk⟩
    exact q H2
set_option maxHeartbeats 4000000 in
theorem all_ok {l : PySem.W.OpenLaw} {w : World} {K : PySem.W.Frag} {mg : Str → Option Value} {fa : Addr} (hfa : mg "law" = some (.ref fa))
    (F_l_draws : FunAt K mg "_law_draws" s_l_draws)
    (F_l_cell_at : FunAt K mg "_law_cell_at" s_l_cell_at)
    (F_l_bag : FunAt K mg "_law_bag" s_l_bag)
    (F_l_bags : FunAt K mg "_law_bags" s_l_bags)
    (F_l_take : FunAt K mg "_law_take" s_l_take)
    (F_l_kinds : FunAt K mg "_law_kinds" s_l_kinds)
    (F_l_far_draw : FunAt K mg "_law_far_draw" s_l_far_draw)
    (F_l_stamps_for : FunAt K mg "_law_stamps_for" s_l_stamps_for)
    (F_l_had : FunAt K mg "_law_had" s_l_had)
    (F_p_is_within : FunAt K mg "is_within" s_p_is_within)
    (F_p_are_cards : FunAt K mg "are_cards" s_p_are_cards)
    (F_p_refuse_no_cards : FunAt K mg "refuse_no_cards" s_p_refuse_no_cards)
    (F_p_are_stamps : FunAt K mg "are_stamps" s_p_are_stamps)
    (F_p_purse_fits : FunAt K mg "purse_fits" s_p_purse_fits)
    (F_p_refuse_no_purse : FunAt K mg "refuse_no_purse" s_p_refuse_no_purse)
    (F_p_refuse_no_number : FunAt K mg "refuse_no_number" s_p_refuse_no_number)
    (F_p_full_cards : FunAt K mg "full_cards" s_p_full_cards)
    (F_p_pays_back : FunAt K mg "pays_back" s_p_pays_back)
    (F_p_refuse_no_stamps : FunAt K mg "refuse_no_stamps" s_p_refuse_no_stamps)
    (F_p_period_of : FunAt K mg "period_of" s_p_period_of)
    (F_p_period_pays : FunAt K mg "period_pays" s_p_period_pays)
    (F_p_rides_wanted : FunAt K mg "rides_wanted" s_p_rides_wanted)
    (F_p_least_rides : FunAt K mg "least_rides" s_p_least_rides)
    (F_p_least_loan : FunAt K mg "least_loan" s_p_least_loan)
    (F_p_can_have : FunAt K mg "can_have" s_p_can_have)
    (F_p_is_kind : FunAt K mg "is_kind" s_p_is_kind)
    (F_p_after_giving : FunAt K mg "after_giving" s_p_after_giving)
    (F_l_cash : FunAt K mg "_law_cash" s_l_cash)
    (F_p_after_ride : FunAt K mg "after_ride" s_p_after_ride)
    (F_l_rides : FunAt K mg "_law_rides" s_l_rides)
    (F_p_rides_in_all : FunAt K mg "rides_in_all" s_p_rides_in_all)
    (F_p_all_rides : FunAt K mg "all_rides" s_p_all_rides)
    (F_p_left : FunAt K mg "left" s_p_left)
    (F_l_law : FunAt K mg "law" s_l_law)
    {C : Addr} (T : KeptT K mg C) (mkC : PySem.W.makesIn K C = true) (kcC : PySem.W.keepIn K (.ref C) = true)
    (F_m_init : ∃ f fd, Fun K "__init__" "Kept.__init__" s_m_init f fd ∧ Meth K C "__init__" f)
    (F_m_lend : ∃ f fd, Fun K "lend" "Kept.lend" s_m_lend f fd ∧ Meth K C "lend" f)
    (F_m_ridden : ∃ f fd, Fun K "ridden" "Kept.ridden" s_m_ridden f fd ∧ Meth K C "ridden" f)
    (F_m_purse : ∃ f fd, Fun K "purse" "Kept.purse" s_m_purse f fd ∧ Meth K C "purse" f)
    (F_m_give : ∃ f fd, Fun K "give" "Kept.give" s_m_give f fd ∧ Meth K C "give" f)
    (F_m_ride : ∃ f fd, Fun K "ride" "Kept.ride" s_m_ride f fd ∧ Meth K C "ride" f)
    (F_m_pay : ∃ f fd, Fun K "pay" "Kept.pay" s_m_pay f fd ∧ Meth K C "pay" f)
    (F_m_lent : ∃ f fd, Fun K "lent" "Kept.lent" s_m_lent f fd ∧ Meth K C "lent" f)
    (F_m_still : ∃ f fd, Fun K "still" "Kept.still" s_m_still f fd ∧ Meth K C "still" f)
    (b_int : mg "int" = none)
    (b_range : mg "range" = none)
    (b_len : mg "len" = none)
    (b_max : mg "max" = none)
    (b_min : mg "min" = none)
    (b_tuple : mg "tuple" = none)
    (b_isinstance : mg "isinstance" = none)
    (b_bool : mg "bool" = none)
    (b_all : mg "all" = none)
    (b_sum : mg "sum" = none)
    (b_zip : mg "zip" = none)
    (b_list : mg "list" = none)
    (b_enumerate : mg "enumerate" = none)
    {t_MOST_KINDS : Tok} (g_MOST_KINDS : mg "MOST_KINDS" = some (.int 3 t_MOST_KINDS))
    {t_MOST_FULL : Tok} (g_MOST_FULL : mg "MOST_FULL" = some (.int 20 t_MOST_FULL))
    {t_LEAST_FULL : Tok} (g_LEAST_FULL : mg "LEAST_FULL" = some (.int 2 t_LEAST_FULL))
    {t_MOST : Tok} (g_MOST : mg "MOST" = some (.int 1000000000000000000 t_MOST)) :
    ∃ fd : FuncData, (∀ (s : Shared) (v : Value), BindsTo s fd ⟨[v], []⟩ [("script", v)]) ∧ ∀ base : Heap, K.In base → base.Ns mainGlobals mg → FnOk l.prog w K mg base CX0 7 fa fd ["script"] (sp_l_law K) := by
  obtain ⟨f0, fd0, F0, m0⟩ := F_l_law
  have e := hfa.symm.trans m0
  cases e
  refine ⟨fd0, ?_, fun base _ _ => ?_⟩
  · obtain ⟨oc, od, kV, doc, pm, an, cdv, ct, osl, rfl, lk, hcd⟩ := F0.ex
    exact fun s v => .of_eq rfl
  have D_l_draws := F_l_draws.def (P := l.prog) (w := w) (base := base) (fun f fd F => ok_l_draws F b_int b_range) (ps := ["cell", "many", "size"]) (fun _ _ _ _ _ _ us hl => match us, hl with | [_, _, _], _ => rfl)
  have D_l_cell_at := F_l_cell_at.def (P := l.prog) (w := w) (base := base) (fun f fd F => ok_l_cell_at F b_len) (ps := ["script", "k"]) (fun _ _ _ _ _ _ us hl => match us, hl with | [_, _], _ => rfl)
  have D_l_bag := F_l_bag.def (P := l.prog) (w := w) (base := base) (fun f fd F => ok_l_bag F D_l_draws D_l_cell_at) (ps := ["script", "k"]) (fun _ _ _ _ _ _ us hl => match us, hl with | [_, _], _ => rfl)
  have D_l_bags := F_l_bags.def (P := l.prog) (w := w) (base := base) (fun f fd F => ok_l_bags F D_l_bag b_range b_max b_min b_len) (ps := ["script", "limit"]) (fun _ _ _ _ _ _ us hl => match us, hl with | [_, _], _ => rfl)
  have D_l_take := F_l_take.def (P := l.prog) (w := w) (base := base) (fun f fd F => ok_l_take F b_len) (ps := ["bag", "many"]) (fun _ _ _ _ _ _ us hl => match us, hl with | [_, _], _ => rfl)
  have D_l_kinds := F_l_kinds.def (P := l.prog) (w := w) (base := base) (fun f fd F => ok_l_kinds F D_l_take b_range b_min b_tuple) (ps := ["bag", "far"]) (fun _ _ _ _ _ _ us hl => match us, hl with | [_, _], _ => rfl)
  have D_l_far_draw := F_l_far_draw.def (P := l.prog) (w := w) (base := base) (fun f fd F => ok_l_far_draw F D_l_take) (ps := ["bag", "many"]) (fun _ _ _ _ _ _ us hl => match us, hl with | [_, _], _ => rfl)
  have D_l_stamps_for := F_l_stamps_for.def (P := l.prog) (w := w) (base := base) (fun f fd F => ok_l_stamps_for F D_l_far_draw D_l_take b_tuple) (ps := ["bag", "kinds", "far"]) (fun _ _ _ _ _ _ us hl => match us, hl with | [_, _, _], _ => rfl)
  have D_l_had := F_l_had.def (P := l.prog) (w := w) (base := base) (fun f fd F => ok_l_had F D_l_stamps_for D_l_far_draw) (ps := ["bag", "kinds", "far"]) (fun _ _ _ _ _ _ us hl => match us, hl with | [_, _, _], _ => rfl)
  have D_p_is_within := F_p_is_within.def (P := l.prog) (w := w) (base := base) (fun f fd F => ok_p_is_within F b_isinstance b_int b_bool) (ps := ["thing", "least", "most"]) (fun _ _ _ _ _ _ us hl => match us, hl with | [_, _, _], _ => rfl)
  have D_p_are_cards := F_p_are_cards.def (P := l.prog) (w := w) (base := base) (fun f fd F => ok_p_are_cards F D_p_is_within b_len b_isinstance b_tuple b_all g_MOST_KINDS g_MOST_FULL g_LEAST_FULL) (ps := ["thing"]) (fun _ _ _ _ _ _ us hl => match us, hl with | [_], _ => rfl)
  have D_p_refuse_no_cards := F_p_refuse_no_cards.def (P := l.prog) (w := w) (base := base) (fun f fd F => ok_p_refuse_no_cards F D_p_are_cards) (ps := ["thing"]) (fun _ _ _ _ _ _ us hl => match us, hl with | [_], _ => rfl)
  have D_p_are_stamps := F_p_are_stamps.def (P := l.prog) (w := w) (base := base) (fun f fd F => ok_p_are_stamps F D_p_is_within b_len b_isinstance b_tuple b_all g_MOST) (ps := ["cards", "thing"]) (fun _ _ _ _ _ _ us hl => match us, hl with | [_, _], _ => rfl)
  have D_p_purse_fits := F_p_purse_fits.def (P := l.prog) (w := w) (base := base) (fun f fd F => ok_p_purse_fits F D_p_are_stamps D_p_is_within b_len b_isinstance b_tuple g_MOST) (ps := ["cards", "thing"]) (fun _ _ _ _ _ _ us hl => match us, hl with | [_, _], _ => rfl)
  have D_p_refuse_no_purse := F_p_refuse_no_purse.def (P := l.prog) (w := w) (base := base) (fun f fd F => ok_p_refuse_no_purse F D_p_purse_fits) (ps := ["cards", "thing"]) (fun _ _ _ _ _ _ us hl => match us, hl with | [_, _], _ => rfl)
  have D_p_refuse_no_number := F_p_refuse_no_number.def (P := l.prog) (w := w) (base := base) (fun f fd F => ok_p_refuse_no_number F D_p_is_within g_MOST) (ps := ["thing", "least"]) (fun _ _ _ _ _ _ us hl => match us, hl with | [_, _], _ => rfl)
  have D_p_full_cards := F_p_full_cards.def (P := l.prog) (w := w) (base := base) (fun f fd F => ok_p_full_cards F b_sum b_zip) (ps := ["cards", "stamps", "ridden"]) (fun _ _ _ _ _ _ us hl => match us, hl with | [_, _, _], _ => rfl)
  have D_p_pays_back := F_p_pays_back.def (P := l.prog) (w := w) (base := base) (fun f fd F => ok_p_pays_back F D_p_full_cards) (ps := ["cards", "purse", "number"]) (fun _ _ _ _ _ _ us hl => match us, hl with | [_, _, _], _ => rfl)
  have D_p_refuse_no_stamps := F_p_refuse_no_stamps.def (P := l.prog) (w := w) (base := base) (fun f fd F => ok_p_refuse_no_stamps F D_p_are_stamps) (ps := ["cards", "thing"]) (fun _ _ _ _ _ _ us hl => match us, hl with | [_, _], _ => rfl)
  have D_p_period_of := F_p_period_of.def (P := l.prog) (w := w) (base := base) (fun f fd F => ok_p_period_of F ) (ps := ["cards"]) (fun _ _ _ _ _ _ us hl => match us, hl with | [_], _ => rfl)
  have D_p_period_pays := F_p_period_pays.def (P := l.prog) (w := w) (base := base) (fun f fd F => ok_p_period_pays F D_p_period_of b_sum) (ps := ["cards"]) (fun _ _ _ _ _ _ us hl => match us, hl with | [_], _ => rfl)
  have D_p_rides_wanted := F_p_rides_wanted.def (P := l.prog) (w := w) (base := base) (fun f fd F => ok_p_rides_wanted F D_p_full_cards b_range b_max) (ps := ["cards", "stamps", "first", "end"]) (fun _ _ _ _ _ _ us hl => match us, hl with | [_, _, _, _], _ => rfl)
  have D_p_least_rides := F_p_least_rides.def (P := l.prog) (w := w) (base := base) (fun f fd F => ok_p_least_rides F D_p_refuse_no_cards D_p_refuse_no_stamps D_p_refuse_no_number D_p_period_of D_p_period_pays D_p_rides_wanted b_min b_max) (ps := ["cards", "stamps", "number"]) (fun _ _ _ _ _ _ us hl => match us, hl with | [_, _, _], _ => rfl)
  have D_p_least_loan := F_p_least_loan.def (P := l.prog) (w := w) (base := base) (fun f fd F => ok_p_least_loan F D_p_refuse_no_cards D_p_refuse_no_purse D_p_refuse_no_number D_p_pays_back D_p_least_rides b_max) (ps := ["cards", "purse", "number"]) (fun _ _ _ _ _ _ us hl => match us, hl with | [_, _, _], _ => rfl)
  have D_p_can_have := F_p_can_have.def (P := l.prog) (w := w) (base := base) (fun f fd F => ok_p_can_have F D_p_refuse_no_cards D_p_refuse_no_purse D_p_refuse_no_number D_p_pays_back) (ps := ["cards", "purse", "number"]) (fun _ _ _ _ _ _ us hl => match us, hl with | [_, _, _], _ => rfl)
  have D_m_init := kmk_mk mkC kcC F_m_init (P := l.prog) (w := w) (mg := mg) (base := base) (fun f fd F => ok_m_init F T D_p_refuse_no_cards D_p_refuse_no_purse) (ps := ["self", "cards", "purse"]) (fun _ _ _ _ _ _ us hl => match us, hl with | [_, _, _], _ => rfl)
  have D_m_lend := mdef_mk F_m_lend (P := l.prog) (w := w) (mg := mg) (base := base) (fun f fd F => ok_m_lend F T D_p_refuse_no_number) (ps := ["self", "number"]) (fun _ _ _ _ _ _ us hl => match us, hl with | [_, _], _ => rfl)
  have D_m_ridden := mdef_mk F_m_ridden (P := l.prog) (w := w) (mg := mg) (base := base) (fun f fd F => ok_m_ridden F T) (ps := ["self"]) (fun _ _ _ _ _ _ us hl => match us, hl with | [_], _ => rfl)
  have D_m_purse := mdef_mk F_m_purse (P := l.prog) (w := w) (mg := mg) (base := base) (fun f fd F => ok_m_purse F T) (ps := ["self"]) (fun _ _ _ _ _ _ us hl => match us, hl with | [_], _ => rfl)
  have D_p_is_kind := F_p_is_kind.def (P := l.prog) (w := w) (base := base) (fun f fd F => ok_p_is_kind F D_p_is_within b_len) (ps := ["cards", "thing"]) (fun _ _ _ _ _ _ us hl => match us, hl with | [_, _], _ => rfl)
  have D_p_after_giving := F_p_after_giving.def (P := l.prog) (w := w) (base := base) (fun f fd F => ok_p_after_giving F b_list b_tuple) (ps := ["cards", "purse", "kind"]) (fun _ _ _ _ _ _ us hl => match us, hl with | [_, _, _], _ => rfl)
  have D_m_give := mdef_mk F_m_give (P := l.prog) (w := w) (mg := mg) (base := base) (fun f fd F => ok_m_give F T D_p_is_kind D_p_after_giving) (ps := ["self", "kind"]) (fun _ _ _ _ _ _ us hl => match us, hl with | [_, _], _ => rfl)
  have D_l_cash := F_l_cash.def (P := l.prog) (w := w) (base := base) (fun f fd F => ok_l_cash F T D_m_purse D_m_give b_enumerate) (ps := ["kept", "kinds"]) (fun _ _ _ _ _ _ us hl => match us, hl with | [_, _], _ => rfl)
  have D_p_after_ride := F_p_after_ride.def (P := l.prog) (w := w) (base := base) (fun f fd F => ok_p_after_ride F b_tuple) (ps := ["purse"]) (fun _ _ _ _ _ _ us hl => match us, hl with | [_], _ => rfl)
  have D_m_ride := mdef_mk F_m_ride (P := l.prog) (w := w) (mg := mg) (base := base) (fun f fd F => ok_m_ride F T D_p_after_ride) (ps := ["self"]) (fun _ _ _ _ _ _ us hl => match us, hl with | [_], _ => rfl)
  have D_l_rides := F_l_rides.def (P := l.prog) (w := w) (base := base) (fun f fd F => ok_l_rides F T D_l_cash D_m_purse D_m_ride b_range) (ps := ["kept", "kinds", "rides"]) (fun _ _ _ _ _ _ us hl => match us, hl with | [_, _, _], _ => rfl)
  have D_m_pay := mdef_mk F_m_pay (P := l.prog) (w := w) (mg := mg) (base := base) (fun f fd F => ok_m_pay F T D_p_refuse_no_number) (ps := ["self", "number"]) (fun _ _ _ _ _ _ us hl => match us, hl with | [_, _], _ => rfl)
  have D_m_lent := mdef_mk F_m_lent (P := l.prog) (w := w) (mg := mg) (base := base) (fun f fd F => ok_m_lent F T) (ps := ["self"]) (fun _ _ _ _ _ _ us hl => match us, hl with | [_], _ => rfl)
  have D_p_rides_in_all := F_p_rides_in_all.def (P := l.prog) (w := w) (base := base) (fun f fd F => ok_p_rides_in_all F D_p_period_pays D_p_period_of D_p_full_cards) (ps := ["cards", "purse"]) (fun _ _ _ _ _ _ us hl => match us, hl with | [_, _], _ => rfl)
  have D_p_all_rides := F_p_all_rides.def (P := l.prog) (w := w) (base := base) (fun f fd F => ok_p_all_rides F D_p_refuse_no_cards D_p_refuse_no_purse D_p_rides_in_all) (ps := ["cards", "purse"]) (fun _ _ _ _ _ _ us hl => match us, hl with | [_, _], _ => rfl)
  have D_m_still := mdef_mk F_m_still (P := l.prog) (w := w) (mg := mg) (base := base) (fun f fd F => ok_m_still F T D_p_rides_in_all) (ps := ["self"]) (fun _ _ _ _ _ _ us hl => match us, hl with | [_], _ => rfl)
  have D_p_left := F_p_left.def (P := l.prog) (w := w) (base := base) (fun f fd F => ok_p_left F D_p_refuse_no_cards D_p_refuse_no_purse D_p_rides_in_all b_tuple b_zip) (ps := ["cards", "purse"]) (fun _ _ _ _ _ _ us hl => match us, hl with | [_, _], _ => rfl)
  exact ok_l_law F0 T D_l_bags D_l_kinds D_l_take D_l_had D_p_least_loan D_p_can_have D_m_init D_m_lend D_m_ridden D_m_purse D_l_rides D_m_pay D_m_lent D_p_all_rides D_m_still D_p_left b_range
end FR
open PySem PySem.W PyProof.Rows
set_option maxRecDepth 100000 in
set_option maxHeartbeats 0 in
theorem PySem.Challenge.cw_freerides_k13_whole_loans_in_a_purse_kep_holds : PySem.Challenge.rw_freerides_k13_whole_loans_in_a_purse_kep.Holds := by
  w_on; o_law; k_head; (case hw => w_witness2)
  k_fill
  refine L2.walk_of (l := PySem.Challenge.rw_freerides_k13_whole_loans_in_a_purse_kep) (n := 63) (k := 7) (x := "script") (CX := fun _ => L2.CX0) (sp := fun w => FR.sp_l_law _) rfl (by decide) rfl ⟨rfl, by decide, by decide⟩ (fun w h Y => PySem.W.kIn_of Y) ?F (fun _ _ a ns hl _ hS => ⟨a, ns, rfl, hS, hl, fun _ => rfl⟩) (fun _ _ _ _ _ h => h)
  case F =>
    intro w mg fa h KX G hmg
    have KK : FR.KeptAllX KX mg [("__init__", "Kept.__init__", FR.s_m_init), ("lend", "Kept.lend", FR.s_m_lend), ("ridden", "Kept.ridden", FR.s_m_ridden), ("purse", "Kept.purse", FR.s_m_purse), ("give", "Kept.give", FR.s_m_give), ("ride", "Kept.ride", FR.s_m_ride), ("pay", "Kept.pay", FR.s_m_pay), ("lent", "Kept.lent", FR.s_m_lent), ("still", "Kept.still", FR.s_m_still)] := by
      refine' FR.keptAll_mk KX G ?zaC ?zpg ?zhd ?zpo ?zsa ?zmk ?zkc ?znC ?znS (FR.methL_cons ?za_0 ?zi_0 ?zl_0 ?zc_0 ?zk_0 (FR.methL_cons ?za_1 ?zi_1 ?zl_1 ?zc_1 ?zk_1 (FR.methL_cons ?za_2 ?zi_2 ?zl_2 ?zc_2 ?zk_2 (FR.methL_cons ?za_3 ?zi_3 ?zl_3 ?zc_3 ?zk_3 (FR.methL_cons ?za_4 ?zi_4 ?zl_4 ?zc_4 ?zk_4 (FR.methL_cons ?za_5 ?zi_5 ?zl_5 ?zc_5 ?zk_5 (FR.methL_cons ?za_6 ?zi_6 ?zl_6 ?zc_6 ?zk_6 (FR.methL_cons ?za_7 ?zi_7 ?zl_7 ?zc_7 ?zk_7 (FR.methL_cons ?za_8 ?zi_8 ?zl_8 ?zc_8 ?zk_8 trivial)))))))))
      (case zaC => k_is); (case zpg => k_is); (case zhd => k_is); (case zpo => k_is); (case zsa => k_is); (case zmk => k_is); (case zkc => k_is); (case znC => k_is); (case znS => k_is)
      (case za_0 => k_is); (case zi_0 => k_is); (case zl_0 => k_is); (case zc_0 => k_is); (case zk_0 => k_is)
      (case za_1 => k_is); (case zi_1 => k_is); (case zl_1 => k_is); (case zc_1 => k_is); (case zk_1 => k_is)
      (case za_2 => k_is); (case zi_2 => k_is); (case zl_2 => k_is); (case zc_2 => k_is); (case zk_2 => k_is)
      (case za_3 => k_is); (case zi_3 => k_is); (case zl_3 => k_is); (case zc_3 => k_is); (case zk_3 => k_is)
      (case za_4 => k_is); (case zi_4 => k_is); (case zl_4 => k_is); (case zc_4 => k_is); (case zk_4 => k_is)
      (case za_5 => k_is); (case zi_5 => k_is); (case zl_5 => k_is); (case zc_5 => k_is); (case zk_5 => k_is)
      (case za_6 => k_is); (case zi_6 => k_is); (case zl_6 => k_is); (case zc_6 => k_is); (case zk_6 => k_is)
      (case za_7 => k_is); (case zi_7 => k_is); (case zl_7 => k_is); (case zc_7 => k_is); (case zk_7 => k_is)
      (case za_8 => k_is); (case zi_8 => k_is); (case zl_8 => k_is); (case zc_8 => k_is); (case zk_8 => k_is)
    obtain ⟨C, T, mkC, kcC, F_m_init, F_m_lend, F_m_ridden, F_m_purse, F_m_give, F_m_ride, F_m_pay, F_m_lent, F_m_still, _⟩ := KK
    have F_l_draws : FR.FunAtX KX mg "_law_draws" FR.s_l_draws := by
      refine' FR.funAt_mk KX G ?a ?l ?c ?k
      (case a => k_is); (case l => k_is); (case c => k_is); (case k => k_is)
    have F_l_cell_at : FR.FunAtX KX mg "_law_cell_at" FR.s_l_cell_at := by
      refine' FR.funAt_mk KX G ?a ?l ?c ?k
      (case a => k_is); (case l => k_is); (case c => k_is); (case k => k_is)
    have F_l_bag : FR.FunAtX KX mg "_law_bag" FR.s_l_bag := by
      refine' FR.funAt_mk KX G ?a ?l ?c ?k
      (case a => k_is); (case l => k_is); (case c => k_is); (case k => k_is)
    have F_l_bags : FR.FunAtX KX mg "_law_bags" FR.s_l_bags := by
      refine' FR.funAt_mk KX G ?a ?l ?c ?k
      (case a => k_is); (case l => k_is); (case c => k_is); (case k => k_is)
    have F_l_take : FR.FunAtX KX mg "_law_take" FR.s_l_take := by
      refine' FR.funAt_mk KX G ?a ?l ?c ?k
      (case a => k_is); (case l => k_is); (case c => k_is); (case k => k_is)
    have F_l_kinds : FR.FunAtX KX mg "_law_kinds" FR.s_l_kinds := by
      refine' FR.funAt_mk KX G ?a ?l ?c ?k
      (case a => k_is); (case l => k_is); (case c => k_is); (case k => k_is)
    have F_l_far_draw : FR.FunAtX KX mg "_law_far_draw" FR.s_l_far_draw := by
      refine' FR.funAt_mk KX G ?a ?l ?c ?k
      (case a => k_is); (case l => k_is); (case c => k_is); (case k => k_is)
    have F_l_stamps_for : FR.FunAtX KX mg "_law_stamps_for" FR.s_l_stamps_for := by
      refine' FR.funAt_mk KX G ?a ?l ?c ?k
      (case a => k_is); (case l => k_is); (case c => k_is); (case k => k_is)
    have F_l_had : FR.FunAtX KX mg "_law_had" FR.s_l_had := by
      refine' FR.funAt_mk KX G ?a ?l ?c ?k
      (case a => k_is); (case l => k_is); (case c => k_is); (case k => k_is)
    have F_p_is_within : FR.FunAtX KX mg "is_within" FR.s_p_is_within := by
      refine' FR.funAt_mk KX G ?a ?l ?c ?k
      (case a => k_is); (case l => k_is); (case c => k_is); (case k => k_is)
    have F_p_are_cards : FR.FunAtX KX mg "are_cards" FR.s_p_are_cards := by
      refine' FR.funAt_mk KX G ?a ?l ?c ?k
      (case a => k_is); (case l => k_is); (case c => k_is); (case k => k_is)
    have F_p_refuse_no_cards : FR.FunAtX KX mg "refuse_no_cards" FR.s_p_refuse_no_cards := by
      refine' FR.funAt_mk KX G ?a ?l ?c ?k
      (case a => k_is); (case l => k_is); (case c => k_is); (case k => k_is)
    have F_p_are_stamps : FR.FunAtX KX mg "are_stamps" FR.s_p_are_stamps := by
      refine' FR.funAt_mk KX G ?a ?l ?c ?k
      (case a => k_is); (case l => k_is); (case c => k_is); (case k => k_is)
    have F_p_purse_fits : FR.FunAtX KX mg "purse_fits" FR.s_p_purse_fits := by
      refine' FR.funAt_mk KX G ?a ?l ?c ?k
      (case a => k_is); (case l => k_is); (case c => k_is); (case k => k_is)
    have F_p_refuse_no_purse : FR.FunAtX KX mg "refuse_no_purse" FR.s_p_refuse_no_purse := by
      refine' FR.funAt_mk KX G ?a ?l ?c ?k
      (case a => k_is); (case l => k_is); (case c => k_is); (case k => k_is)
    have F_p_refuse_no_number : FR.FunAtX KX mg "refuse_no_number" FR.s_p_refuse_no_number := by
      refine' FR.funAt_mk KX G ?a ?l ?c ?k
      (case a => k_is); (case l => k_is); (case c => k_is); (case k => k_is)
    have F_p_full_cards : FR.FunAtX KX mg "full_cards" FR.s_p_full_cards := by
      refine' FR.funAt_mk KX G ?a ?l ?c ?k
      (case a => k_is); (case l => k_is); (case c => k_is); (case k => k_is)
    have F_p_pays_back : FR.FunAtX KX mg "pays_back" FR.s_p_pays_back := by
      refine' FR.funAt_mk KX G ?a ?l ?c ?k
      (case a => k_is); (case l => k_is); (case c => k_is); (case k => k_is)
    have F_p_refuse_no_stamps : FR.FunAtX KX mg "refuse_no_stamps" FR.s_p_refuse_no_stamps := by
      refine' FR.funAt_mk KX G ?a ?l ?c ?k
      (case a => k_is); (case l => k_is); (case c => k_is); (case k => k_is)
    have F_p_period_of : FR.FunAtX KX mg "period_of" FR.s_p_period_of := by
      refine' FR.funAt_mk KX G ?a ?l ?c ?k
      (case a => k_is); (case l => k_is); (case c => k_is); (case k => k_is)
    have F_p_period_pays : FR.FunAtX KX mg "period_pays" FR.s_p_period_pays := by
      refine' FR.funAt_mk KX G ?a ?l ?c ?k
      (case a => k_is); (case l => k_is); (case c => k_is); (case k => k_is)
    have F_p_rides_wanted : FR.FunAtX KX mg "rides_wanted" FR.s_p_rides_wanted := by
      refine' FR.funAt_mk KX G ?a ?l ?c ?k
      (case a => k_is); (case l => k_is); (case c => k_is); (case k => k_is)
    have F_p_least_rides : FR.FunAtX KX mg "least_rides" FR.s_p_least_rides := by
      refine' FR.funAt_mk KX G ?a ?l ?c ?k
      (case a => k_is); (case l => k_is); (case c => k_is); (case k => k_is)
    have F_p_least_loan : FR.FunAtX KX mg "least_loan" FR.s_p_least_loan := by
      refine' FR.funAt_mk KX G ?a ?l ?c ?k
      (case a => k_is); (case l => k_is); (case c => k_is); (case k => k_is)
    have F_p_can_have : FR.FunAtX KX mg "can_have" FR.s_p_can_have := by
      refine' FR.funAt_mk KX G ?a ?l ?c ?k
      (case a => k_is); (case l => k_is); (case c => k_is); (case k => k_is)
    have F_p_is_kind : FR.FunAtX KX mg "is_kind" FR.s_p_is_kind := by
      refine' FR.funAt_mk KX G ?a ?l ?c ?k
      (case a => k_is); (case l => k_is); (case c => k_is); (case k => k_is)
    have F_p_after_giving : FR.FunAtX KX mg "after_giving" FR.s_p_after_giving := by
      refine' FR.funAt_mk KX G ?a ?l ?c ?k
      (case a => k_is); (case l => k_is); (case c => k_is); (case k => k_is)
    have F_l_cash : FR.FunAtX KX mg "_law_cash" FR.s_l_cash := by
      refine' FR.funAt_mk KX G ?a ?l ?c ?k
      (case a => k_is); (case l => k_is); (case c => k_is); (case k => k_is)
    have F_p_after_ride : FR.FunAtX KX mg "after_ride" FR.s_p_after_ride := by
      refine' FR.funAt_mk KX G ?a ?l ?c ?k
      (case a => k_is); (case l => k_is); (case c => k_is); (case k => k_is)
    have F_l_rides : FR.FunAtX KX mg "_law_rides" FR.s_l_rides := by
      refine' FR.funAt_mk KX G ?a ?l ?c ?k
      (case a => k_is); (case l => k_is); (case c => k_is); (case k => k_is)
    have F_p_rides_in_all : FR.FunAtX KX mg "rides_in_all" FR.s_p_rides_in_all := by
      refine' FR.funAt_mk KX G ?a ?l ?c ?k
      (case a => k_is); (case l => k_is); (case c => k_is); (case k => k_is)
    have F_p_all_rides : FR.FunAtX KX mg "all_rides" FR.s_p_all_rides := by
      refine' FR.funAt_mk KX G ?a ?l ?c ?k
      (case a => k_is); (case l => k_is); (case c => k_is); (case k => k_is)
    have F_p_left : FR.FunAtX KX mg "left" FR.s_p_left := by
      refine' FR.funAt_mk KX G ?a ?l ?c ?k
      (case a => k_is); (case l => k_is); (case c => k_is); (case k => k_is)
    have F_l_law : FR.FunAtX KX mg "law" FR.s_l_law := by
      refine' FR.funAt_mk KX G ?a ?l ?c ?k
      (case a => k_is); (case l => k_is); (case c => k_is); (case k => k_is)
    have b_int : mg "int" = none := by
      refine' PySem.W.mg_none_of KX G ?z
      (case z => k_is)
    have b_range : mg "range" = none := by
      refine' PySem.W.mg_none_of KX G ?z
      (case z => k_is)
    have b_len : mg "len" = none := by
      refine' PySem.W.mg_none_of KX G ?z
      (case z => k_is)
    have b_max : mg "max" = none := by
      refine' PySem.W.mg_none_of KX G ?z
      (case z => k_is)
    have b_min : mg "min" = none := by
      refine' PySem.W.mg_none_of KX G ?z
      (case z => k_is)
    have b_tuple : mg "tuple" = none := by
      refine' PySem.W.mg_none_of KX G ?z
      (case z => k_is)
    have b_isinstance : mg "isinstance" = none := by
      refine' PySem.W.mg_none_of KX G ?z
      (case z => k_is)
    have b_bool : mg "bool" = none := by
      refine' PySem.W.mg_none_of KX G ?z
      (case z => k_is)
    have b_all : mg "all" = none := by
      refine' PySem.W.mg_none_of KX G ?z
      (case z => k_is)
    have b_sum : mg "sum" = none := by
      refine' PySem.W.mg_none_of KX G ?z
      (case z => k_is)
    have b_zip : mg "zip" = none := by
      refine' PySem.W.mg_none_of KX G ?z
      (case z => k_is)
    have b_list : mg "list" = none := by
      refine' PySem.W.mg_none_of KX G ?z
      (case z => k_is)
    have b_enumerate : mg "enumerate" = none := by
      refine' PySem.W.mg_none_of KX G ?z
      (case z => k_is)
    have g_MOST_KINDS : ∃ t, mg "MOST_KINDS" = some (.int 3 t) := by
      refine' FR.glob_mk KX G ?z ?e
      (case z => k_is); (case e => exact ⟨_, rfl⟩)
    have g_MOST_FULL : ∃ t, mg "MOST_FULL" = some (.int 20 t) := by
      refine' FR.glob_mk KX G ?z ?e
      (case z => k_is); (case e => exact ⟨_, rfl⟩)
    have g_LEAST_FULL : ∃ t, mg "LEAST_FULL" = some (.int 2 t) := by
      refine' FR.glob_mk KX G ?z ?e
      (case z => k_is); (case e => exact ⟨_, rfl⟩)
    have g_MOST : ∃ t, mg "MOST" = some (.int 1000000000000000000 t) := by
      refine' FR.glob_mk KX G ?z ?e
      (case z => k_is); (case e => exact ⟨_, rfl⟩)
    obtain ⟨t_MOST_KINDS, g_MOST_KINDS⟩ := g_MOST_KINDS
    obtain ⟨t_MOST_FULL, g_MOST_FULL⟩ := g_MOST_FULL
    obtain ⟨t_LEAST_FULL, g_LEAST_FULL⟩ := g_LEAST_FULL
    obtain ⟨t_MOST, g_MOST⟩ := g_MOST
    exact FR.all_ok hmg F_l_draws F_l_cell_at F_l_bag F_l_bags F_l_take F_l_kinds F_l_far_draw F_l_stamps_for F_l_had F_p_is_within F_p_are_cards F_p_refuse_no_cards F_p_are_stamps F_p_purse_fits F_p_refuse_no_purse F_p_refuse_no_number F_p_full_cards F_p_pays_back F_p_refuse_no_stamps F_p_period_of F_p_period_pays F_p_rides_wanted F_p_least_rides F_p_least_loan F_p_can_have F_p_is_kind F_p_after_giving F_l_cash F_p_after_ride F_l_rides F_p_rides_in_all F_p_all_rides F_p_left F_l_law T mkC kcC F_m_init F_m_lend F_m_ridden F_m_purse F_m_give F_m_ride F_m_pay F_m_lent F_m_still b_int b_range b_len b_max b_min b_tuple b_isinstance b_bool b_all b_sum b_zip b_list b_enumerate g_MOST_KINDS g_MOST_FULL g_LEAST_FULL g_MOST
