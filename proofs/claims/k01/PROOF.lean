import PyProof.Rows.All
import Wide.All
import OpenK.AllK
import Wide.FinOn
import HandS.ForMost
import HandS.Zip
import HandS.IsInst
import HandS.Wide
import HandS.TupAny
import HandS.Conv
import HandS.ForExc
import HandS.ExcCtx
import HandS.HotCalls
import HandS.ExcIs
import HandS.CallLocal
import HandS.Nested
import HandS.EndTab
import KE.KNestM
import HandS.TupMul
import HandS.RaiseMore
import PySem.Challenge.RW_freerides_k01_cards_and_purses_known
set_option Elab.async false
set_option linter.all false
set_option maxRecDepth 100000
namespace FR
/-! ### the mathematics: cards cs, stamps ss -/
/-- how many full cards the stamps make, with those of n rides -/
def fc : List Int → List Int → Int → Int
  | c :: cs, s :: ss, n => (s + n) / c + fc cs ss n
  | _, _, _ => 0
/-- the least multiple, by steps -/
def perGo : Nat → Int → Int → Int → Int
  | 0, _, period, _ => period
  | n + 1, step, period, full => if period % full = 0 then period else perGo n step (period + step) full
theorem perGo_succ {n : Nat} {step period full : Int} : perGo (n + 1) step period full = if period % full = 0 then period else perGo n step (period + step) full := rfl
def perFrom (p : Int) (cs : List Int) : Int := cs.foldl (fun p c => perGo 20 p p c) p
def perOf (cs : List Int) : Int := perFrom 1 cs
/-- the full cards of a whole period -/
def pq (P : Int) : List Int → Int
  | [] => 0
  | c :: cs => P / c + pq P cs
def Cards (cs : List Int) : Prop := 1 ≤ cs.length ∧ cs.length ≤ 3 ∧ ∀ c ∈ cs, (2 : Int) ≤ c ∧ c ≤ 20
theorem perGo_ok {full step : Int} (h2 : 2 ≤ full) (h20 : full ≤ 20) : ∀ (n : Nat) (k : Int), 1 ≤ k → k ≤ full → (n : Int) + k = 21 → ∃ j, perGo n step (step * k) full = step * j ∧ 1 ≤ j ∧ j ≤ full ∧ (step * j) % full = 0
  | 0, k, h1, h3, h4 => by omega
  | n + 1, k, h1, h3, h4 => by
    unfold perGo
    by_cases c : (step * k) % full = 0
    · rw [if_pos c]
      exact ⟨k, rfl, h1, h3, c⟩
    · rw [if_neg c]
      have hk : k ≠ full := fun e => c (by rw [e]; exact Int.mul_emod_left _ _)
      have e : step * k + step = step * (k + 1) := by rw [Int.mul_add, Int.mul_one]
      rw [e]
      exact perGo_ok h2 h20 n (k + 1) (by omega) (by omega) (by omega)
theorem perFrom_ok : ∀ (cs : List Int) (p : Int), (∀ c ∈ cs, (2 : Int) ≤ c ∧ c ≤ 20) → 1 ≤ p → 1 ≤ perFrom p cs ∧ perFrom p cs ≤ p * 20 ^ cs.length ∧ p ∣ perFrom p cs ∧ ∀ c ∈ cs, c ∣ perFrom p cs
  | [], p, h, h1 => ⟨h1, by show p ≤ p * 1; omega, Int.dvd_refl _, fun c hc => nomatch hc⟩
  | c :: cs, p, h, h1 => by
    obtain ⟨hc2, hc20⟩ := h c (List.mem_cons_self ..)
    obtain ⟨j, e, j1, j2, j3⟩ := perGo_ok (full := c) (step := p) hc2 hc20 20 1 (by omega) (by omega) (by omega)
    rw [Int.mul_one] at e
    have hp : 1 ≤ p * j := by
      have := Int.mul_le_mul h1 j1 (by omega) (by omega)
      omega
    obtain ⟨a, b, d, f⟩ := perFrom_ok cs (p * j) (fun x hx => h x (List.mem_cons_of_mem _ hx)) hp
    have e2 : perFrom p (c :: cs) = perFrom (p * j) cs := by
      show perFrom (perGo 20 p p c) cs = _
      rw [e]
    rw [e2]
    refine ⟨a, Int.le_trans b ?_, Int.dvd_trans (Int.dvd_mul_right p j) d, fun x hx => ?_⟩
    · have g1 : p * j ≤ p * 20 := Int.mul_le_mul_of_nonneg_left (by omega) (by omega)
      have g2 : (p * j) * 20 ^ cs.length ≤ (p * 20) * 20 ^ cs.length := Int.mul_le_mul_of_nonneg_right g1 (Int.le_of_lt (Int.pow_pos (by omega)))
      rw [List.length_cons, Int.pow_succ, Int.mul_comm (20 ^ cs.length) 20, ← Int.mul_assoc]
      exact g2
    · rcases List.mem_cons.mp hx with g | g
      · rw [g]
        exact Int.dvd_trans (Int.dvd_of_emod_eq_zero j3) d
      · exact f x g
theorem perOf_ok {cs : List Int} (h : Cards cs) : 1 ≤ perOf cs ∧ perOf cs ≤ 8000 ∧ ∀ c ∈ cs, c ∣ perOf cs := by
  obtain ⟨a, b, _, d⟩ := perFrom_ok cs 1 h.2.2 (by omega)
  refine ⟨a, Int.le_trans b ?_, d⟩
  have h3 : cs.length = 1 ∨ cs.length = 2 ∨ cs.length = 3 := by
    have := h.1
    have := h.2.1
    omega
  rcases h3 with e | e | e <;> rw [e] <;> decide
theorem fc_mono : ∀ (cs ss : List Int) {m n : Int}, (∀ c ∈ cs, (2 : Int) ≤ c) → m ≤ n → fc cs ss m ≤ fc cs ss n
  | [], _, _, _, _, _ => by simp [fc]
  | c :: cs, [], _, _, _, _ => by simp [fc]
  | c :: cs, s :: ss, m, n, h, hm => by
    have h1 := fc_mono cs ss (fun x hx => h x (List.mem_cons_of_mem _ hx)) hm
    have h2 : (s + m) / c ≤ (s + n) / c := Int.ediv_le_ediv (by have := h c (List.mem_cons_self ..); omega) (by omega)
    show (s + m) / c + fc cs ss m ≤ (s + n) / c + fc cs ss n
    omega
theorem fc_nonneg : ∀ (cs ss : List Int) {n : Int}, (∀ c ∈ cs, (2 : Int) ≤ c) → (∀ s ∈ ss, (0 : Int) ≤ s) → 0 ≤ n → 0 ≤ fc cs ss n
  | [], _, _, _, _, _ => by simp [fc]
  | c :: cs, [], _, _, _, _ => by simp [fc]
  | c :: cs, s :: ss, n, h, hs, hn => by
    have h1 := fc_nonneg cs ss (fun x hx => h x (List.mem_cons_of_mem _ hx)) (fun x hx => hs x (List.mem_cons_of_mem _ hx)) hn
    have h2 : 0 ≤ (s + n) / c := Int.ediv_nonneg (by have := hs s (List.mem_cons_self ..); omega) (by have := h c (List.mem_cons_self ..); omega)
    show 0 ≤ (s + n) / c + fc cs ss n
    omega
theorem fc_per : ∀ (cs ss : List Int) {m P q : Int}, cs.length = ss.length → (∀ c ∈ cs, (2 : Int) ≤ c) → (∀ c ∈ cs, c ∣ P) → fc cs ss (m + P * q) = fc cs ss m + q * pq P cs
  | [], _, _, _, _, _, _, _ => by simp [fc, pq]
  | c :: cs, [], _, _, _, h, _, _ => by simp at h
  | c :: cs, s :: ss, m, P, q, hl, h, hd => by
    have h1 := fc_per cs ss (m := m) (P := P) (q := q) (by simpa using hl) (fun x hx => h x (List.mem_cons_of_mem _ hx)) (fun x hx => hd x (List.mem_cons_of_mem _ hx))
    have hc := h c (List.mem_cons_self ..)
    obtain ⟨k, rfl⟩ := hd c (List.mem_cons_self ..)
    have h2 : (s + (m + c * k * q)) / c = (s + m) / c + k * q := by
      rw [← Int.add_assoc, Int.mul_assoc, Int.add_mul_ediv_left _ _ (by omega)]
    have h3 : c * k / c = k := Int.mul_ediv_cancel_left _ (by omega)
    show (s + (m + c * k * q)) / c + fc cs ss (m + c * k * q) = (s + m) / c + fc cs ss m + q * (c * k / c + pq (c * k) cs)
    rw [h1, h2, h3, Int.mul_add, Int.mul_comm k q]
    omega
/-- what is told of rides and stamps: the least number that pays for itself, or none -/
def Least (cs : List Int) (r : Int) (ss : List Int) (t : Int) : Prop := 0 ≤ t ∧ r + fc cs ss t = t ∧ ∀ m, 0 ≤ m → m < t → m < r + fc cs ss m
def Never (cs : List Int) (r : Int) (ss : List Int) : Prop := ∀ m, 0 ≤ m → m < r + fc cs ss m
theorem never_of {cs ss : List Int} {r : Int} (hC : Cards cs) (hl : cs.length = ss.length) (hp : perOf cs ≤ pq (perOf cs) cs) (h : ∀ m, 0 ≤ m → m < perOf cs → m < r + fc cs ss m) : Never cs r ss := by
  intro m hm
  obtain ⟨p1, p2, p3⟩ := perOf_ok hC
  have e : m = m % perOf cs + perOf cs * (m / perOf cs) := (Int.emod_add_mul_ediv m (perOf cs)).symm
  have h0 := Int.emod_nonneg m (show perOf cs ≠ 0 by omega)
  have h1 := Int.emod_lt_of_pos m (show 0 < perOf cs by omega)
  have h2 := h _ h0 h1
  have hq : 0 ≤ m / perOf cs := Int.ediv_nonneg hm (by omega)
  have h3 := fc_per cs ss (m := m % perOf cs) (P := perOf cs) (q := m / perOf cs) hl (fun c hc => (hC.2.2 c hc).1) p3
  have h4 : (m / perOf cs) * perOf cs ≤ (m / perOf cs) * pq (perOf cs) cs := Int.mul_le_mul_of_nonneg_left hp hq
  rw [← e] at h3
  rw [h3]
  rw [Int.mul_comm] at h4
  omega
/-- where a period does not pay, some number is enough -/
def bound (cs : List Int) (r : Int) (ss : List Int) : Int := perOf cs * (r + fc cs ss 0)
theorem bound_ok {cs ss : List Int} {r : Int} (hC : Cards cs) (hl : cs.length = ss.length) (hs : ∀ s ∈ ss, (0 : Int) ≤ s) (hr : 0 ≤ r) (hp : pq (perOf cs) cs < perOf cs) : 0 ≤ bound cs r ss ∧ r + fc cs ss (bound cs r ss) ≤ bound cs r ss := by
  obtain ⟨p1, p2, p3⟩ := perOf_ok hC
  have h0 := fc_nonneg cs ss (n := 0) (fun c hc => (hC.2.2 c hc).1) hs (by omega)
  have h3 := fc_per cs ss (m := 0) (P := perOf cs) (q := r + fc cs ss 0) hl (fun c hc => (hC.2.2 c hc).1) p3
  rw [Int.zero_add] at h3
  have h4 : (r + fc cs ss 0) * pq (perOf cs) cs ≤ (r + fc cs ss 0) * (perOf cs - 1) := Int.mul_le_mul_of_nonneg_left (by omega) (by omega)
  rw [Int.mul_sub, Int.mul_one, Int.mul_comm _ (perOf cs)] at h4
  unfold bound
  refine ⟨Int.mul_nonneg (by omega) (by omega), ?_⟩
  rw [h3]
  omega
/-- one more round of the search -/
theorem least_step {cs ss : List Int} {r had : Int} (hC : Cards cs) (h : ∀ m, 0 ≤ m → m < had → m < r + fc cs ss m) (h0 : 0 ≤ had) : ∀ m, 0 ≤ m → m < r + fc cs ss had → m < r + fc cs ss m := by
  intro m hm h1
  by_cases c : m < had
  · exact h m hm c
  · have := fc_mono cs ss (m := had) (n := m) (fun c hc => (hC.2.2 c hc).1) (by omega)
    omega
theorem least_unique {cs ss : List Int} {r t u : Int} (a : Least cs r ss t) (b : Least cs r ss u) : t = u := by
  obtain ⟨a0, a1, a2⟩ := a
  obtain ⟨b0, b1, b2⟩ := b
  by_cases c : t < u
  · have := b2 t a0 c
    omega
  · by_cases d : u < t
    · have := a2 u b0 d
      omega
    · omega
theorem least_never {cs ss : List Int} {r t : Int} (a : Least cs r ss t) (b : Never cs r ss) : False := by
  have := b t a.1
  have := a.2.1
  omega
end FR
namespace FR
/-! ### the lists that the program sums -/
def fcl (cs ss : List Int) (n : Int) : List Int := (cs.zip ss).map fun p => (p.2 + n) / p.1
theorem fcl_get {cs ss : List Int} {n : Int} {i : Nat} {c s : Int} (h1 : cs[i]? = some c) (h2 : ss[i]? = some s) : (fcl cs ss n)[i]? = some ((s + n) / c) := by
  unfold fcl
  have hz : (cs.zip ss)[i]? = some (c, s) := List.getElem?_zip_eq_some.mpr ⟨h1, h2⟩
  rw [List.getElem?_map, hz]
  rfl
theorem fcl_sum : ∀ (cs ss : List Int) (n : Int), (fcl cs ss n).sum = fc cs ss n
  | [], _, _ => by simp [fcl, fc]
  | _ :: _, [], _ => by simp [fcl, fc]
  | c :: cs, s :: ss, n => by
    have := fcl_sum cs ss n
    show ((s + n) / c :: fcl cs ss n).sum = (s + n) / c + fc cs ss n
    rw [List.sum_cons, this]
theorem fcl_len {cs ss : List Int} {n : Int} (h : cs.length = ss.length) : (fcl cs ss n).length = cs.length := by
  unfold fcl
  rw [List.length_map, List.length_zip]
  omega
theorem pq_sum (P : Int) : ∀ (cs : List Int), (cs.map (fun c => P / c)).sum = pq P cs
  | [] => rfl
  | c :: cs => by
    rw [List.map_cons, List.sum_cons, pq_sum P cs]
    rfl
/-- what is left -/
def lf (cs ss : List Int) (n : Int) : List Int := (cs.zip ss).map fun p => (p.2 + n) % p.1
theorem lf_get {cs ss : List Int} {n : Int} {i : Nat} {c s : Int} (h1 : cs[i]? = some c) (h2 : ss[i]? = some s) : (lf cs ss n)[i]? = some ((s + n) % c) := by
  unfold lf
  have hz : (cs.zip ss)[i]? = some (c, s) := List.getElem?_zip_eq_some.mpr ⟨h1, h2⟩
  rw [List.getElem?_map, hz]
  rfl
theorem lf_len {cs ss : List Int} {n : Int} (h : cs.length = ss.length) : (lf cs ss n).length = cs.length := by
  unfold lf
  rw [List.length_map, List.length_zip]
  omega
end FR
namespace FR
theorem fc_set_s : ∀ (cs ss : List Int) (i : Nat) {s m : Int}, (∀ c ∈ cs, (2 : Int) ≤ c) → ss[i]? = some s → fc cs ss m ≤ fc cs (ss.set i (s + 1)) m
  | [], _, _, _, _, _, _ => by simp [fc]
  | _ :: _, [], _, _, _, _, h => by simp at h
  | c :: cs, x :: ss, 0, s, m, hc, h => by
    have e : x = s := Option.some.inj h
    subst e
    have h2 : (x + m) / c ≤ (x + 1 + m) / c := Int.ediv_le_ediv (by have := hc c (List.mem_cons_self ..); omega) (by omega)
    show (x + m) / c + fc cs ss m ≤ (x + 1 + m) / c + fc cs ss m
    omega
  | c :: cs, x :: ss, i + 1, s, m, hc, h => by
    have ih := fc_set_s cs ss i (s := s) (m := m) (fun y hy => hc y (List.mem_cons_of_mem _ hy)) (by simpa using h)
    show (x + m) / c + fc cs ss m ≤ (x + m) / c + fc cs (ss.set i (s + 1)) m
    omega
theorem div_anti {x c d : Int} (h0 : 0 ≤ x) (hc : 0 < c) (h : c ≤ d) : x / d ≤ x / c := by
  have h1 : 0 ≤ x / d := Int.ediv_nonneg h0 (by omega)
  refine Int.le_ediv_of_mul_le hc ?_
  have h2 : x / d * c ≤ x / d * d := Int.mul_le_mul_of_nonneg_left h h1
  have h3 : x / d * d ≤ x := Int.ediv_mul_le x (by omega)
  omega
theorem fc_set_c : ∀ (cs ss : List Int) (i : Nat) {c d m : Int}, (∀ c ∈ cs, (2 : Int) ≤ c) → (∀ s ∈ ss, (0 : Int) ≤ s) → 0 ≤ m → cs[i]? = some c → c ≤ d → fc (cs.set i d) ss m ≤ fc cs ss m
  | [], _, _, _, _, _, _, _, _, h, _ => by simp at h
  | _ :: _, [], _, _, _, _, _, _, _, _, _ => by simp [fc]
  | x :: cs, s :: ss, 0, c, d, m, hc, hs, hm, h, hd => by
    have e : x = c := Option.some.inj h
    subst e
    have h2 : (s + m) / d ≤ (s + m) / x := div_anti (by have := hs s (List.mem_cons_self ..); omega) (by have := hc x (List.mem_cons_self ..); omega) hd
    show (s + m) / d + fc cs ss m ≤ (s + m) / x + fc cs ss m
    omega
  | x :: cs, s :: ss, i + 1, c, d, m, hc, hs, hm, h, hd => by
    have ih := fc_set_c cs ss i (c := c) (d := d) (m := m) (fun y hy => hc y (List.mem_cons_of_mem _ hy)) (fun y hy => hs y (List.mem_cons_of_mem _ hy)) hm (by simpa using h) hd
    show (s + m) / x + fc (cs.set i d) ss m ≤ (s + m) / x + fc cs ss m
    omega
theorem set_cut {xs : List Int} {i : Nat} {y : Int} (h : i < xs.length) : xs.take i ++ [y] ++ xs.drop (i + 1) = xs.set i y := by
  rw [List.set_eq_take_append_cons_drop, if_pos h, List.append_assoc]
  rfl
theorem cards_set {cs : List Int} {i : Nat} {d : Int} (h : Cards cs) (h2 : 2 ≤ d) (h20 : d ≤ 20) : Cards (cs.set i d) := by
  refine ⟨by rw [List.length_set]; exact h.1, by rw [List.length_set]; exact h.2.1, fun c hc => ?_⟩
  rcases List.mem_or_eq_of_mem_set hc with g | g
  · exact h.2.2 c g
  · omega
end FR
namespace FR
/-! ### how many are wanted -/
def Want (cs ss : List Int) (a b v : Int) : Prop := 0 ≤ v ∧ (∀ m, a ≤ m → m < b → m + 1 - fc cs ss m ≤ v) ∧ (v = 0 ∨ ∃ m, a ≤ m ∧ m < b ∧ v = m + 1 - fc cs ss m)
theorem want_step {cs ss : List Int} {a b v : Int} (h : Want cs ss a b v) (hab : a ≤ b) : Want cs ss a (b + 1) (if b + 1 - fc cs ss b > v then b + 1 - fc cs ss b else v) := by
  obtain ⟨h0, h1, h2⟩ := h
  split
  · refine ⟨by omega, fun m m0 m1 => ?_, .inr ⟨b, hab, by omega, rfl⟩⟩
    by_cases c : m < b
    · have := h1 m m0 c
      omega
    · have e : m = b := by omega
      rw [e]
      omega
  · refine ⟨h0, fun m m0 m1 => ?_, ?_⟩
    · by_cases c : m < b
      · exact h1 m m0 c
      · have e : m = b := by omega
        rw [e]
        omega
    · rcases h2 with g | ⟨m, m0, m1, g⟩
      · exact .inl g
      · exact .inr ⟨m, m0, by omega, g⟩
theorem want_pays {cs ss : List Int} {n v : Int} (hC : Cards cs) (hl : cs.length = ss.length) (hp : perOf cs ≤ pq (perOf cs) cs) (hn : perOf cs ≤ n) (h : Want cs ss 0 (perOf cs) v) : Want cs ss 0 n v := by
  obtain ⟨h0, h1, h2⟩ := h
  obtain ⟨p1, p2, p3⟩ := perOf_ok hC
  refine ⟨h0, fun m m0 m1 => ?_, ?_⟩
  · have e : m = m % perOf cs + perOf cs * (m / perOf cs) := (Int.emod_add_mul_ediv m (perOf cs)).symm
    have g0 := Int.emod_nonneg m (show perOf cs ≠ 0 by omega)
    have g1 := Int.emod_lt_of_pos m (show 0 < perOf cs by omega)
    have g2 := h1 _ g0 g1
    have hq : 0 ≤ m / perOf cs := Int.ediv_nonneg m0 (by omega)
    have g3 := fc_per cs ss (m := m % perOf cs) (P := perOf cs) (q := m / perOf cs) hl (fun c hc => (hC.2.2 c hc).1) p3
    have g4 : (m / perOf cs) * perOf cs ≤ (m / perOf cs) * pq (perOf cs) cs := Int.mul_le_mul_of_nonneg_left hp hq
    rw [← e] at g3
    rw [g3]
    rw [Int.mul_comm] at g4
    omega
  · rcases h2 with g | ⟨m, m0, m1, g⟩
    · exact .inl g
    · exact .inr ⟨m, m0, by omega, g⟩
theorem want_wears {cs ss : List Int} {n v : Int} (hC : Cards cs) (hl : cs.length = ss.length) (hp : pq (perOf cs) cs < perOf cs) (hn : 0 ≤ n - perOf cs) (h : Want cs ss (n - perOf cs) n v) : Want cs ss 0 n v := by
  obtain ⟨h0, h1, h2⟩ := h
  obtain ⟨p1, p2, p3⟩ := perOf_ok hC
  refine ⟨h0, fun m m0 m1 => ?_, ?_⟩
  · have e : n - 1 - m = (n - 1 - m) % perOf cs + perOf cs * ((n - 1 - m) / perOf cs) := (Int.emod_add_mul_ediv _ (perOf cs)).symm
    have g0 := Int.emod_nonneg (n - 1 - m) (show perOf cs ≠ 0 by omega)
    have g1 := Int.emod_lt_of_pos (n - 1 - m) (show 0 < perOf cs by omega)
    have hq : 0 ≤ (n - 1 - m) / perOf cs := Int.ediv_nonneg (by omega) (by omega)
    have g3 := fc_per cs ss (m := m) (P := perOf cs) (q := (n - 1 - m) / perOf cs) hl (fun c hc => (hC.2.2 c hc).1) p3
    have g4 : ((n - 1 - m) / perOf cs) * pq (perOf cs) cs ≤ ((n - 1 - m) / perOf cs) * perOf cs := Int.mul_le_mul_of_nonneg_left (by omega) hq
    rw [Int.mul_comm _ (perOf cs)] at g4
    have g2 := h1 (m + perOf cs * ((n - 1 - m) / perOf cs)) (by omega) (by omega)
    omega
  · rcases h2 with g | ⟨m, m0, m1, g⟩
    · exact .inl g
    · exact .inr ⟨m, by omega, m1, g⟩
theorem want_le {cs ss : List Int} {n v : Int} (hC : Cards cs) (hs : ∀ s ∈ ss, (0 : Int) ≤ s) (hn : 0 ≤ n) (h : Want cs ss 0 n v) : v ≤ n := by
  rcases h.2.2 with g | ⟨m, m0, m1, g⟩
  · omega
  · have := fc_nonneg cs ss (n := m) (fun c hc => (hC.2.2 c hc).1) hs m0
    omega
theorem want_enough {cs ss : List Int} {n v t : Int} (h : Want cs ss 0 n v) (l : Least cs v ss t) : n ≤ t := by
  obtain ⟨l0, l1, l2⟩ := l
  by_cases c : t < n
  · have := h.2.1 t l0 c
    omega
  · omega
theorem want_fewer {cs ss : List Int} {n v t : Int} (h : Want cs ss 0 n v) (h0 : 0 < v) (l : Least cs (v - 1) ss t) : t < n := by
  obtain ⟨l0, l1, l2⟩ := l
  rcases h.2.2 with g | ⟨m, m0, m1, g⟩
  · omega
  · by_cases c : m < t
    · have := l2 m m0 c
      omega
    · omega
theorem want_fewer' {cs ss : List Int} {n v : Int} (h : Want cs ss 0 n v) (h0 : 0 < v) (l : Never cs (v - 1) ss) : False := by
  rcases h.2.2 with g | ⟨m, m0, m1, g⟩
  · omega
  · have := l m m0
    omega
theorem want_never {cs ss : List Int} {v : Int} (hC : Cards cs) (hl : cs.length = ss.length) (hp : perOf cs ≤ pq (perOf cs) cs) (h : Want cs ss 0 (perOf cs) v) : Never cs v ss :=
  never_of hC hl hp fun m m0 m1 => by
    have := h.2.1 m m0 m1
    omega
theorem never_more {cs ss : List Int} {v w : Int} (h : Never cs v ss) (hw : v ≤ w) : Never cs w ss := fun m m0 => by
  have := h m m0
  omega
theorem wears_ends {cs ss : List Int} {r : Int} (hC : Cards cs) (hl : cs.length = ss.length) (hs : ∀ s ∈ ss, (0 : Int) ≤ s) (hr : 0 ≤ r) (hp : pq (perOf cs) cs < perOf cs) (h : Never cs r ss) : False := by
  obtain ⟨b0, b1⟩ := bound_ok hC hl hs hr hp
  have := h _ b0
  omega
end FR
namespace FR
/-! ### deeds in any order: k rides ridden, G full cards given, zs the stamps now -/
def Gone : List Int → List Int → List Int → Int → Int → Prop
  | c :: cs, s :: ss, z :: zs, k, G => ∃ g, 0 ≤ z ∧ z + c * g = s + k ∧ Gone cs ss zs k (G - g)
  | [], [], [], _, G => G = 0
  | _, _, _, _, _ => False
theorem gone_start : ∀ (cs ss : List Int), cs.length = ss.length → (∀ s ∈ ss, (0 : Int) ≤ s) → Gone cs ss ss 0 0
  | [], [], _, _ => rfl
  | c :: cs, s :: ss, hl, hs => ⟨0, hs s (List.mem_cons_self ..), by omega, by
      have := gone_start cs ss (by simpa using hl) (fun x hx => hs x (List.mem_cons_of_mem _ hx))
      simpa using this⟩
theorem gone_len : ∀ (cs ss zs : List Int) {k G : Int}, Gone cs ss zs k G → zs.length = cs.length ∧ ss.length = cs.length
  | [], [], [], _, _, _ => ⟨rfl, rfl⟩
  | c :: cs, s :: ss, z :: zs, k, G, ⟨g, _, _, h⟩ => by
    have := gone_len cs ss zs h
    simp only [List.length_cons]
    omega
theorem gone_ride : ∀ (cs ss zs : List Int) {k G : Int}, Gone cs ss zs k G → Gone cs ss (zs.map (· + 1)) (k + 1) G
  | [], [], [], _, _, h => h
  | c :: cs, s :: ss, z :: zs, k, G, ⟨g, h0, h1, h2⟩ => ⟨g, by show 0 ≤ z + 1; omega, by show z + 1 + c * g = s + (k + 1); omega, gone_ride cs ss zs h2⟩
theorem gone_give : ∀ (cs ss zs : List Int) (i : Nat) {k G c z : Int}, Gone cs ss zs k G → cs[i]? = some c → zs[i]? = some z → c ≤ z → Gone cs ss (zs.set i (z - c)) k (G + 1)
  | [], [], [], i, _, _, _, _, _, h, _, _ => by simp at h
  | c :: cs, s :: ss, z :: zs, 0, k, G, c', z', ⟨g, h0, h1, h2⟩, hc, hz, h => by
    have e1 : c = c' := Option.some.inj hc
    have e2 : z = z' := Option.some.inj hz
    subst e1 e2
    refine ⟨g + 1, by omega, ?_, ?_⟩
    · rw [Int.mul_add, Int.mul_one]
      omega
    · have e : G + 1 - (g + 1) = G - g := by omega
      rw [e]
      exact h2
  | c :: cs, s :: ss, z :: zs, i + 1, k, G, c', z', ⟨g, h0, h1, h2⟩, hc, hz, h => by
    refine ⟨g, h0, h1, ?_⟩
    have := gone_give cs ss zs i h2 (by simpa using hc) (by simpa using hz) h
    have e : G + 1 - g = G - g + 1 := by omega
    rw [e]
    exact this
theorem gone_le : ∀ (cs ss zs : List Int) {k G : Int}, (∀ c ∈ cs, (2 : Int) ≤ c) → Gone cs ss zs k G → G ≤ fc cs ss k
  | [], [], [], _, G, _, h => by
    have e : G = 0 := h
    simp [fc, e]
  | c :: cs, s :: ss, z :: zs, k, G, hc, ⟨g, h0, h1, h2⟩ => by
    have ih := gone_le cs ss zs (fun x hx => hc x (List.mem_cons_of_mem _ hx)) h2
    have h3 : g ≤ (s + k) / c := Int.le_ediv_of_mul_le (by have := hc c (List.mem_cons_self ..); omega) (by rw [Int.mul_comm]; omega)
    show G ≤ (s + k) / c + fc cs ss k
    omega
theorem gone_end : ∀ (cs ss zs : List Int) {k G : Int}, (∀ c ∈ cs, (2 : Int) ≤ c) → Gone cs ss zs k G → (∀ (i : Nat) (c z : Int), cs[i]? = some c → zs[i]? = some z → z < c) → G = fc cs ss k ∧ zs = lf cs ss k
  | [], [], [], _, G, _, h, _ => by
    have e : G = 0 := h
    simp [fc, lf, e]
  | c :: cs, s :: ss, z :: zs, k, G, hc, ⟨g, h0, h1, h2⟩, hz => by
    have ih := gone_end cs ss zs (fun x hx => hc x (List.mem_cons_of_mem _ hx)) h2 (fun i c z a b => hz (i + 1) c z (by simpa using a) (by simpa using b))
    have hlt : z < c := hz 0 c z rfl rfl
    have c2 := hc c (List.mem_cons_self ..)
    have e1 : s + k = z + c * g := by omega
    have h3 : (s + k) / c = g := by
      rw [e1, Int.add_mul_ediv_left _ _ (by omega), Int.ediv_eq_zero_of_lt h0 hlt]
      omega
    have h4 : (s + k) % c = z := by
      rw [e1, Int.add_mul_emod_self_left, Int.emod_eq_of_lt h0 hlt]
    refine ⟨?_, ?_⟩
    · show G = (s + k) / c + fc cs ss k
      omega
    · show z :: zs = (s + k) % c :: lf cs ss k
      rw [h4, ih.2]
def lsum : List Int → Int
  | [] => 0
  | z :: zs => z + lsum zs
theorem gone_nonneg : ∀ (cs ss zs : List Int) {k G : Int}, Gone cs ss zs k G → ∀ z ∈ zs, (0 : Int) ≤ z
  | [], [], [], _, _, _ => fun z hz => nomatch hz
  | c :: cs, s :: ss, z :: zs, k, G, ⟨g, h0, h1, h2⟩ => fun x hx => by
    rcases List.mem_cons.mp hx with e | e
    · rw [e]
      exact h0
    · exact gone_nonneg cs ss zs h2 x e
theorem lsum_nonneg : ∀ (zs : List Int), (∀ z ∈ zs, (0 : Int) ≤ z) → 0 ≤ lsum zs
  | [], _ => by simp [lsum]
  | z :: zs, h => by
    have := lsum_nonneg zs (fun x hx => h x (List.mem_cons_of_mem _ hx))
    have := h z (List.mem_cons_self ..)
    show 0 ≤ z + lsum zs
    omega
theorem lsum_ride : ∀ (zs : List Int), lsum (zs.map (· + 1)) = lsum zs + zs.length
  | [] => by simp [lsum]
  | z :: zs => by
    have := lsum_ride zs
    show z + 1 + lsum (zs.map (· + 1)) = z + lsum zs + ((zs.length + 1 : Nat) : Int)
    omega
theorem lsum_give : ∀ (zs : List Int) (i : Nat) {z c : Int}, zs[i]? = some z → lsum (zs.set i (z - c)) = lsum zs - c
  | [], _, _, _, h => by simp at h
  | x :: zs, 0, z, c, h => by
    have e : x = z := Option.some.inj h
    subst e
    show x - c + lsum zs = x + lsum zs - c
    omega
  | x :: zs, i + 1, z, c, h => by
    have := lsum_give zs i (c := c) (show zs[i]? = some z by simpa using h)
    show x + lsum (zs.set i (z - c)) = x + lsum zs - c
    omega
/-! ### common multiples of any kind -/
theorem pq_scale : ∀ (cs : List Int) {P W : Int}, (∀ c ∈ cs, (2 : Int) ≤ c) → (∀ c ∈ cs, c ∣ P) → (∀ c ∈ cs, c ∣ W) → pq P cs * W = pq W cs * P
  | [], _, _, _, _, _ => by simp [pq]
  | c :: cs, P, W, hc, hP, hW => by
    have ih := pq_scale cs (P := P) (W := W) (fun x hx => hc x (List.mem_cons_of_mem _ hx)) (fun x hx => hP x (List.mem_cons_of_mem _ hx)) (fun x hx => hW x (List.mem_cons_of_mem _ hx))
    have c2 := hc c (List.mem_cons_self ..)
    obtain ⟨p, hp⟩ := hP c (List.mem_cons_self ..)
    obtain ⟨w, hw⟩ := hW c (List.mem_cons_self ..)
    have e1 : P / c = p := by rw [hp]; exact Int.mul_ediv_cancel_left _ (by omega)
    have e2 : W / c = w := by rw [hw]; exact Int.mul_ediv_cancel_left _ (by omega)
    show (P / c + pq P cs) * W = (W / c + pq W cs) * P
    rw [Int.add_mul, Int.add_mul, ih, e1, e2]
    have e3 : p * W = w * P := by
      rw [hp, hw, Int.mul_left_comm p c w, Int.mul_left_comm w c p, Int.mul_comm p w]
    omega
theorem pays_any {cs : List Int} {P W : Int} (hc : ∀ c ∈ cs, (2 : Int) ≤ c) (hP : ∀ c ∈ cs, c ∣ P) (hW : ∀ c ∈ cs, c ∣ W) (p1 : 1 ≤ P) (w1 : 1 ≤ W) : P ≤ pq P cs ↔ W ≤ pq W cs := by
  have e := pq_scale cs hc hP hW
  constructor
  · intro h
    have h1 : P * W ≤ pq P cs * W := Int.mul_le_mul_of_nonneg_right h (by omega)
    rw [e] at h1
    rw [Int.mul_comm P W] at h1
    exact Int.le_of_mul_le_mul_right h1 (by omega)
  · intro h
    have h1 : W * P ≤ pq W cs * P := Int.mul_le_mul_of_nonneg_right h (by omega)
    rw [← e] at h1
    rw [Int.mul_comm W P] at h1
    exact Int.le_of_mul_le_mul_right h1 (by omega)
theorem never_any {cs ss : List Int} {r W : Int} (hC : Cards cs) (hl : cs.length = ss.length) (w1 : 1 ≤ W) (hW : ∀ c ∈ cs, c ∣ W) (hp : W ≤ pq W cs) (h : ∀ m, 0 ≤ m → m < W → m < r + fc cs ss m) : Never cs r ss := by
  intro m hm
  have e : m = m % W + W * (m / W) := (Int.emod_add_mul_ediv m W).symm
  have h0 := Int.emod_nonneg m (show W ≠ 0 by omega)
  have h1 := Int.emod_lt_of_pos m (show 0 < W by omega)
  have h2 := h _ h0 h1
  have hq : 0 ≤ m / W := Int.ediv_nonneg hm (by omega)
  have h3 := fc_per cs ss (m := m % W) (P := W) (q := m / W) hl (fun c hc => (hC.2.2 c hc).1) hW
  have h4 : (m / W) * W ≤ (m / W) * pq W cs := Int.mul_le_mul_of_nonneg_left hp hq
  rw [← e] at h3
  rw [h3]
  rw [Int.mul_comm] at h4
  omega
end FR
namespace FR
/-! ### no more than 4000 rides where few are begun with, and they wear off -/
def w3_b (a b c : Nat) : Bool := !(decide (2 ≤ a) && decide (2 ≤ b) && decide (2 ≤ c) && decide (b * c + (a * c + a * b) < a * (b * c))) || decide (4012 / a + (4012 / b + 4012 / c) ≤ 3916)
theorem w3_all : ((List.range 21).all fun a => (List.range 21).all fun b => (List.range 21).all fun c => w3_b a b c) = true := by decide +kernel
theorem w3_nat (a : Nat) (ha : a < 21) (b : Nat) (hb : b < 21) (c : Nat) (hc : c < 21) (a2 : 2 ≤ a) (b2 : 2 ≤ b) (c2 : 2 ≤ c) (h : b * c + (a * c + a * b) < a * (b * c)) : 4012 / a + (4012 / b + 4012 / c) ≤ 3916 := by
  have h1 := List.all_eq_true.mp w3_all a (List.mem_range.mpr ha)
  have h2 := List.all_eq_true.mp h1 b (List.mem_range.mpr hb)
  have h3 := List.all_eq_true.mp h2 c (List.mem_range.mpr hc)
  unfold w3_b at h3
  rw [decide_eq_true a2, decide_eq_true b2, decide_eq_true c2, decide_eq_true h] at h3
  exact of_decide_eq_true h3
theorem w2_nat : ∀ a : Nat, a < 21 → ∀ b : Nat, b < 21 → 2 ≤ a → 2 ≤ b → b + a < a * b → 4012 / a + 4012 / b ≤ 3916 := by decide +kernel
theorem as_nat {a : Int} (h2 : 2 ≤ a) (h20 : a ≤ 20) : ∃ n : Nat, a = (n : Int) ∧ n < 21 ∧ 2 ≤ n := ⟨a.toNat, by omega, by omega, by omega⟩
theorem few {s c : Int} (h : s ≤ 12) (hc : 2 ≤ c) : (s + 4000) / c ≤ 4012 / c := Int.ediv_le_ediv (by omega) (by omega)
theorem wears_few : ∀ {cs ss : List Int}, Cards cs → cs.length = ss.length → pq (perOf cs) cs < perOf cs → (∀ s ∈ ss, s ≤ 12) → fc cs ss 4000 ≤ 3916
  | [a], [s], hC, _, hp, hs => by
    obtain ⟨a2, a20⟩ := hC.2.2 a (by simp)
    have h1 := few (hs s (by simp)) a2
    have h2 : (4012 : Int) / a ≤ 4012 / 2 := div_anti (by omega) (by omega) a2
    show (s + 4000) / a + 0 ≤ 3916
    omega
  | [a, b], [s, t], hC, _, hp, hs => by
    obtain ⟨a2, a20⟩ := hC.2.2 a (by simp)
    obtain ⟨b2, b20⟩ := hC.2.2 b (by simp)
    have h1 := few (hs s (by simp)) a2
    have h2 := few (hs t (by simp)) b2
    obtain ⟨p1, _, p3⟩ := perOf_ok hC
    have hd : ∀ c ∈ [a, b], c ∣ a * b := by
      intro c hc
      simp only [List.mem_cons, List.not_mem_nil, or_false] at hc
      rcases hc with e | e <;> rw [e]
      · exact Int.dvd_mul_right a b
      · exact Int.dvd_mul_left a b
    have w1 : 1 ≤ a * b := by
      have := Int.mul_le_mul (show 1 ≤ a by omega) (show 1 ≤ b by omega) (by omega) (by omega)
      omega
    have hw : ¬ a * b ≤ pq (a * b) [a, b] := fun z => by
      have := (pays_any (fun c hc => (hC.2.2 c hc).1) hd p3 w1 p1).mp z
      omega
    have e1 : pq (a * b) [a, b] = b + (a + 0) := by
      show a * b / a + (a * b / b + 0) = b + (a + 0)
      rw [Int.mul_ediv_cancel_left _ (by omega), Int.mul_ediv_cancel _ (by omega)]
    rw [e1] at hw
    obtain ⟨n, rfl, n21, n2⟩ := as_nat a2 a20
    obtain ⟨m, rfl, m21, m2⟩ := as_nat b2 b20
    have := w2_nat n n21 m m21 n2 m2 (by have : ((m + n : Nat) : Int) < ((n * m : Nat) : Int) := by rw [Int.natCast_mul]; omega
                                         omega)
    show (s + 4000) / (n : Int) + ((t + 4000) / (m : Int) + 0) ≤ 3916
    have g1 : (4012 : Int) / (n : Int) = ((4012 / n : Nat) : Int) := rfl
    have g2 : (4012 : Int) / (m : Int) = ((4012 / m : Nat) : Int) := rfl
    omega
  | [a, b, c], [s, t, u], hC, _, hp, hs => by
    obtain ⟨a2, a20⟩ := hC.2.2 a (by simp)
    obtain ⟨b2, b20⟩ := hC.2.2 b (by simp)
    obtain ⟨c2, c20⟩ := hC.2.2 c (by simp)
    have h1 := few (hs s (by simp)) a2
    have h2 := few (hs t (by simp)) b2
    have h3 := few (hs u (by simp)) c2
    obtain ⟨p1, _, p3⟩ := perOf_ok hC
    have hd : ∀ x ∈ [a, b, c], x ∣ a * (b * c) := by
      intro x hx
      simp only [List.mem_cons, List.not_mem_nil, or_false] at hx
      rcases hx with e | e | e <;> rw [e]
      · exact Int.dvd_mul_right a _
      · exact Int.dvd_trans (Int.dvd_mul_right b c) (Int.dvd_mul_left a (b * c))
      · exact Int.dvd_trans (Int.dvd_mul_left b c) (Int.dvd_mul_left a (b * c))
    have w0 : 1 ≤ b * c := by
      have := Int.mul_le_mul (show 1 ≤ b by omega) (show 1 ≤ c by omega) (by omega) (by omega)
      omega
    have w1 : 1 ≤ a * (b * c) := by
      have := Int.mul_le_mul (show 1 ≤ a by omega) w0 (by omega) (by omega)
      omega
    have hw : ¬ a * (b * c) ≤ pq (a * (b * c)) [a, b, c] := fun z => by
      have := (pays_any (fun c hc => (hC.2.2 c hc).1) hd p3 w1 p1).mp z
      omega
    have e1 : pq (a * (b * c)) [a, b, c] = b * c + (a * c + (a * b + 0)) := by
      show a * (b * c) / a + (a * (b * c) / b + (a * (b * c) / c + 0)) = _
      rw [Int.mul_ediv_cancel_left _ (by omega), Int.mul_left_comm a b c, Int.mul_ediv_cancel_left _ (by omega), Int.mul_left_comm b a c, ← Int.mul_assoc, Int.mul_ediv_cancel _ (by omega)]
    rw [e1] at hw
    obtain ⟨n, rfl, n21, n2⟩ := as_nat a2 a20
    obtain ⟨m, rfl, m21, m2⟩ := as_nat b2 b20
    obtain ⟨l, rfl, l21, l2⟩ := as_nat c2 c20
    have := w3_nat n n21 m m21 l l21 n2 m2 l2 (by
      have z : ((m * l + (n * l + n * m) : Nat) : Int) < ((n * (m * l) : Nat) : Int) := by
        rw [Int.natCast_add, Int.natCast_add, Int.natCast_mul, Int.natCast_mul, Int.natCast_mul, Int.natCast_mul, Int.natCast_mul]
        omega
      omega)
    show (s + 4000) / (n : Int) + ((t + 4000) / (m : Int) + ((u + 4000) / (l : Int) + 0)) ≤ 3916
    have g1 : (4012 : Int) / (n : Int) = ((4012 / n : Nat) : Int) := rfl
    have g2 : (4012 : Int) / (m : Int) = ((4012 / m : Nat) : Int) := rfl
    have g3 : (4012 : Int) / (l : Int) = ((4012 / l : Nat) : Int) := rfl
    omega
  | [], _, hC, _, _, _ => absurd hC.1 (by simp)
  | _ :: _ :: _ :: _ :: _, _, hC, _, _, _ => absurd hC.2.1 (by simp)
theorem least_4000 {cs ss : List Int} {r t : Int} (hC : Cards cs) (hl : cs.length = ss.length) (hp : pq (perOf cs) cs < perOf cs) (hs : ∀ s ∈ ss, s ≤ 12) (hr : r ≤ 84) (h : Least cs r ss t) : t ≤ 4000 := by
  have h1 := wears_few hC hl hp hs
  by_cases c : t ≤ 4000
  · exact c
  · have := h.2.2 4000 (by omega) (by omega)
    omega
end FR
namespace FR
theorem pow20 {i : Nat} (h : i ≤ 3) : (20 : Int) ^ i ≤ 8000 := by
  have h3 : i = 0 ∨ i = 1 ∨ i = 2 ∨ i = 3 := by omega
  rcases h3 with e | e | e | e <;> rw [e] <;> decide
theorem whole_step {f c g : Int} (f1 : 1 ≤ f) (c2 : 2 ≤ c) (g0 : 0 < g) (gf : g ∣ f) (gc : g ∣ c) : 1 ≤ f * c / g ∧ f * c / g ≤ f * c ∧ f ∣ f * c / g ∧ c ∣ f * c / g := by
  obtain ⟨c', hc⟩ := gc
  obtain ⟨f', hf⟩ := gf
  have e1 : f * c / g = f * c' := by
    rw [hc, Int.mul_left_comm, Int.mul_ediv_cancel_left _ (by omega)]
  have e2 : f * c / g = f' * c := by
    rw [hf, Int.mul_assoc, Int.mul_ediv_cancel_left _ (by omega)]
  have c1 : 1 ≤ c' := by
    by_cases z : 1 ≤ c'
    · exact z
    · have : g * c' ≤ g * 0 := Int.mul_le_mul_of_nonneg_left (by omega) (by omega)
      omega
  have c3 : c' ≤ c := by
    have : 1 * c' ≤ g * c' := Int.mul_le_mul_of_nonneg_right (by omega) (by omega)
    omega
  have h1 : f * 1 ≤ f * c' := Int.mul_le_mul_of_nonneg_left c1 (by omega)
  have h2 : f * c' ≤ f * c := Int.mul_le_mul_of_nonneg_left c3 (by omega)
  refine ⟨by omega, by omega, ?_, ?_⟩
  · rw [e1]
    exact Int.dvd_mul_right f c'
  · rw [e2]
    exact Int.dvd_mul_left f' c
end FR
namespace FR
theorem least_13 : Least [4] 10 [0] 13 := ⟨by decide, by decide, fun m h0 h1 => by
  show m < 10 + ((0 + m) / 4 + 0)
  omega⟩
theorem least_1 : Least [2, 2] 1 [0, 0] 1 := ⟨by decide, by decide, fun m h0 h1 => by
  show m < 1 + ((0 + m) / 2 + ((0 + m) / 2 + 0))
  omega⟩
theorem never_22 : Never [2, 2] 2 [0, 0] := fun m h0 => by
  show m < 2 + ((0 + m) / 2 + ((0 + m) / 2 + 0))
  omega
theorem most_whole {cs ss : List Int} {r W t : Int} (hC : Cards cs) (hl : cs.length = ss.length) (hp : ¬ pq (perOf cs) cs < perOf cs) (w1 : 1 ≤ W) (hd : ∀ c ∈ cs, c ∣ W) (h : Least cs r ss t) : t ≤ W := by
  by_cases z : t ≤ W
  · exact z
  · obtain ⟨p1, _, p3⟩ := perOf_ok hC
    have hW := (pays_any (fun c hc => (hC.2.2 c hc).1) p3 hd p1 w1).mp (by omega)
    exact (least_never h (never_any hC hl w1 hd hW fun m m0 m1 => h.2.2 m m0 (by omega))).elim
end FR
namespace FR
/-! ### it ends, or never -/
theorem least_search {cs ss : List Int} {r : Int} (hC : Cards cs) (hs : ∀ s ∈ ss, (0 : Int) ≤ s) (hr : 0 ≤ r) : ∀ (n : Nat), (∀ m, 0 ≤ m → m < (n : Int) → m < r + fc cs ss m) ∨ ∃ t, Least cs r ss t
  | 0 => .inl fun m m0 m1 => by omega
  | n + 1 => by
    rcases least_search hC hs hr n with h | h
    · by_cases c : (n : Int) < r + fc cs ss n
      · refine .inl fun m m0 m1 => ?_
        by_cases g : m < (n : Int)
        · exact h m m0 g
        · have e : m = (n : Int) := by omega
          rw [e]
          exact c
      · refine .inr ⟨(n : Int), by omega, ?_, h⟩
        by_cases z : n = 0
        · subst z
          have := fc_nonneg cs ss (n := 0) (fun c hc => (hC.2.2 c hc).1) hs (by omega)
          have e : ((0 : Nat) : Int) = 0 := rfl
          rw [e] at c ⊢
          omega
        · have h1 := h ((n : Int) - 1) (by omega) (by omega)
          have h2 := fc_mono cs ss (m := (n : Int) - 1) (n := (n : Int)) (fun c hc => (hC.2.2 c hc).1) (by omega)
          omega
    · exact .inr h
theorem ends_or {cs ss : List Int} {r : Int} (hC : Cards cs) (hs : ∀ s ∈ ss, (0 : Int) ≤ s) (hr : 0 ≤ r) (h : ∀ t, ¬ Least cs r ss t) : Never cs r ss := by
  intro m m0
  rcases least_search hC hs hr (m.toNat + 1) with g | ⟨t, g⟩
  · exact g m m0 (by omega)
  · exact absurd g (h t)
theorem want_exists (cs ss : List Int) : ∀ n : Nat, ∃ v, Want cs ss 0 (n : Int) v
  | 0 => ⟨0, by omega, fun m m0 m1 => by omega, .inl rfl⟩
  | n + 1 => by
    obtain ⟨v, hv⟩ := want_exists cs ss n
    exact ⟨_, want_step hv (by omega)⟩
theorem want_unique {cs ss : List Int} {n v w : Int} (a : Want cs ss 0 n v) (b : Want cs ss 0 n w) : v = w := by
  have h1 : v ≤ w := by
    rcases a.2.2 with g | ⟨m, m0, m1, g⟩
    · have := b.1
      omega
    · have := b.2.1 m m0 m1
      omega
  have h2 : w ≤ v := by
    rcases b.2.2 with g | ⟨m, m0, m1, g⟩
    · have := a.1
      omega
    · have := a.2.1 m m0 m1
      omega
  omega
/-- from the wanted number on, and from no fewer -/
theorem want_iff {cs ss : List Int} {n v r : Int} (h : Want cs ss 0 n v) (r0 : 0 ≤ r) : (∀ m, 0 ≤ m → m < n → m < r + fc cs ss m) ↔ v ≤ r := by
  constructor
  · intro g
    rcases h.2.2 with e | ⟨m, m0, m1, e⟩
    · omega
    · have := g m m0 m1
      omega
  · intro g m m0 m1
    have := h.2.1 m m0 m1
    omega
theorem least_ge {cs ss : List Int} {r t n : Int} (h : Least cs r ss t) (hC : Cards cs) : n ≤ t ↔ ∀ m, 0 ≤ m → m < n → m < r + fc cs ss m := by
  constructor
  · intro g m m0 m1
    exact h.2.2 m m0 (by omega)
  · intro g
    by_cases c : n ≤ t
    · exact c
    · have := g t h.1 (by omega)
      have := h.2.1
      omega
theorem want_22 {t : Int} (h : Want [2, 2] [0, 0] 0 2 t) : t = 2 := by
  have h1 := h.2.1 1 (by omega) (by omega)
  have e1 : fc [2, 2] [0, 0] 1 = 0 := by decide
  rw [e1] at h1
  have := want_le (cs := [2, 2]) (ss := [0, 0]) ⟨by decide, by decide, by decide⟩ (by decide) (by omega) h
  omega
theorem want_4 {t : Int} (h : Want [4] [0] 0 13 t) : t = 10 := by
  have h1 := h.2.1 12 (by omega) (by omega)
  have e1 : fc [4] [0] 12 = 3 := by decide
  rw [e1] at h1
  rcases h.2.2 with g | ⟨m, m0, m1, g⟩
  · omega
  · have e : fc [4] [0] m = (0 + m) / 4 + 0 := rfl
    rw [e] at g
    omega
end FR
namespace FR
open PySem PySem.Spec PyProof.Rows L2
/-! ### a def that is called: its promise, and where it stands -/
structure Def (P : Program) (w : World) (K : PySem.W.Frag) (mg : Str → Option Value) (base : Heap) (x : Str) (k : Nat) (ps : List Str) (sp : Sp) : Prop where
  ex : ∃ f fd, FnOk P w K mg base CX0 k f fd ps sp ∧ mg x = some (.ref f) ∧ PySem.W.keepIn K (.ref f) = true ∧ Binds K fd ps []
theorem pe_def {X : Cx} {k j : Nat} {ps : List Str} {sp : Sp} {x : Str} {p pos : Pos} {e : Expr} {es : List Expr} {t : TA} (D : Def X.prog X.w X.K X.mg X.base x k ps sp) (hr : Room j X.A) (ha : PA X (e :: es) t) (hg : Gl X x := by rfl) (hl : k ≤ j := by decide)
    (hdb : (x == ("__debug__" : Str)) = false := by decide) (he : starEach (e :: es) X.env = (false, eval e X.env) :: starEach es X.env := by rfl) (hpl : (backTo pos (starEach es X.env)).any (·.1) = false := by rfl) :
    PE X (.Call (.Name x p) (e :: es) [] pos) (tCall sp [] E0 t) := by
  obtain ⟨f, fd, F, m, kp, b⟩ := D.ex
  exact pe_call F (hr.mono hl) hg m kp b .nil pass0 ha hdb he hpl
theorem def_mk {P : Program} {w : World} {K : PySem.W.Frag} {mg : Str → Option Value} {base : Heap} {x : Str} {k : Nat} {ps : List Str} {sp : Sp} {f : Addr} {fd : FuncData} {st : Stmt} (F : Fun K x x st f fd) (ok : FnOk P w K mg base CX0 k f fd ps sp) (m : mg x = some (.ref f)) (b : Binds K fd ps []) : Def P w K mg base x k ps sp :=
  ⟨f, fd, ok, m, F.kp, b⟩
/-! ### heaps: what is kept -/
theorem same_upd {H : Hp} {p : Addr} {o : HO} (h : H p = none) : Same H (upd H p o) := fun b x e => by
  rw [upd_ne (ne_of_none e h)]
  exact e
/-- the two things of a bag: its numbers, its place -/
def BagSh (o : HO) : Prop := ∃ d c, o = .lst [.ref d, .int c]
structure Kp (H H' : Hp) : Prop where
  keep : ∀ a o, H a = some o → ¬ BagSh o → H' a = some o
  bag : ∀ a d c, H a = some (.lst [.ref d, .int c]) → ∃ c', H' a = some (.lst [.ref d, .int c'])
theorem Kp.of {H H' : Hp} (s : Same H H') : Kp H H' := ⟨fun a o e _ => s a o e, fun a d c e => ⟨c, s _ _ e⟩⟩
theorem Kp.refl (H : Hp) : Kp H H := .of (.refl H)
theorem Kp.trans {H H1 H2 : Hp} (x : Kp H H1) (y : Kp H1 H2) : Kp H H2 := by
  refine ⟨fun a o e n => y.keep a o (x.keep a o e n) n, fun a d c e => ?_⟩
  obtain ⟨c1, e1⟩ := x.bag a d c e
  exact y.bag a d c1 e1
/-- what is new to H may be laid or changed -/
theorem Kp.fresh {H H' : Hp} {p : Addr} {o : HO} (x : Kp H H') (h : H p = none) : Kp H (upd H' p o) := by
  refine ⟨fun a u e n => ?_, fun a d c e => ?_⟩
  · rw [upd_ne (ne_of_none e h)]
    exact x.keep a u e n
  · rw [upd_ne (ne_of_none e h)]
    exact x.bag a d c e
theorem Kp.none {H H' : Hp} {p : Addr} (x : Kp H H') (h : H' p = none) : H p = Option.none := by
  cases q : H p with
  | none => rfl
  | some o =>
    by_cases n : BagSh o
    · obtain ⟨d, c, rfl⟩ := n
      obtain ⟨c', e⟩ := x.bag p d c q
      rw [e] at h
      cases h
    · rw [x.keep p o q n] at h
      cases h
theorem Kp.new {H H' : Hp} {p : Addr} {o : HO} (x : Kp H H') (h : H' p = Option.none) : Kp H (upd H' p o) := x.fresh (x.none h)
theorem ntup {xs : List V} : ¬ BagSh (.tup xs) := fun ⟨_, _, e⟩ => nomatch e
theorem nfrz {ob : Obj} {u : HO} : ¬ BagSh (.frz ob u) := fun ⟨_, _, e⟩ => nomatch e
theorem nint {ns : List Int} : ¬ BagSh (.lst (ns.map V.int)) := by
  rintro ⟨d, c, e⟩
  have e' : ns.map V.int = [.ref d, .int c] := HO.lst.inj e
  cases ns with
  | nil => exact nomatch e'
  | cons n r =>
    have := (List.cons.inj e').1
    exact nomatch this
theorem Kp.tup {K : PySem.W.Frag} {H H' : Hp} {a : Addr} {xs : List V} (x : Kp H H') (h : SqT K H a xs) : SqT K H' a xs := by
  rcases h with (h | ⟨o, h⟩) | h
  · exact .inl (.inl (x.keep _ _ h ntup))
  · exact .inl (.inr ⟨o, x.keep _ _ h nfrz⟩)
  · exact .inr h
theorem Kp.ints {K : PySem.W.Frag} {H H' : Hp} {a : Addr} {ns : List Int} (x : Kp H H') (h : SqL K H a (ns.map V.int)) : SqL K H' a (ns.map V.int) := by
  rcases h with (h | ⟨o, h⟩) | h
  · exact .inl (.inl (x.keep _ _ h nint))
  · exact .inl (.inr ⟨o, x.keep _ _ h nfrz⟩)
  · exact .inr h
/-! ### bags -/
def Bag (H : Hp) (b : Addr) : Prop := ∃ (d : Addr) (c : Int) (ds : List Int), H b = some (.lst [.ref d, .int c]) ∧ H d = some (.lst (ds.map V.int)) ∧ ds.length = 400 ∧ ∀ x ∈ ds, (0 : Int) ≤ x ∧ x < 1000
theorem Kp.bags {H H' : Hp} {b : Addr} (x : Kp H H') (h : Bag H b) : Bag H' b := by
  obtain ⟨d, c, ds, h1, h2, h3⟩ := h
  obtain ⟨c', e⟩ := x.bag b d c h1
  exact ⟨d, c', ds, e, x.keep _ _ h2 nint, h3⟩
/-- the place moves on -/
theorem Kp.bump {H : Hp} {b d : Addr} {c c' : Int} (h : H b = some (.lst [.ref d, .int c])) : Kp H (upd H b (.lst [.ref d, .int c'])) := by
  refine ⟨fun a o e n => ?_, fun a d2 c2 e => ?_⟩
  · rw [upd_ne]
    · exact e
    · rintro rfl
      rw [h] at e
      cases e
      exact n ⟨d, c, rfl⟩
  · by_cases q : a = b
    · subst q
      rw [h] at e
      cases e
      exact ⟨c', upd_same⟩
    · exact ⟨c2, by rw [upd_ne q]; exact e⟩
theorem p0 {n : Int} (h : decide (0 < n) = true := by decide) : 0 < n := of_decide_eq_true h
/-! ### lists -/
theorem get_int {ns : List Int} {i : Nat} (h : i < ns.length) : (ns.map V.int)[i]? = some (.int ns[i]) := by
  rw [List.getElem?_map, List.getElem?_eq_getElem h]
  rfl
theorem at_int {ns : List Int} {k : Int} (h0 : 0 ≤ k) (h : k < (ns.length : Int)) : ∃ v, v ∈ ns ∧ ns[k.toNat]? = some v ∧ atI (ns.map V.int) k = some (.int v) := by
  have hk : k.toNat < ns.length := by omega
  refine ⟨ns[k.toNat], List.getElem_mem hk, List.getElem?_eq_getElem hk, ?_⟩
  exact at_of (j := k.toNat) (by omega) (get_int hk)
theorem get_map {ns : List Int} {i : Nat} {x : V} (h : (ns.map V.int)[i]? = some x) : ∃ v, ns[i]? = some v ∧ x = .int v := by
  rw [List.getElem?_map] at h
  cases q : ns[i]? with
  | none =>
    rw [q] at h
    exact nomatch h
  | some v =>
    rw [q] at h
    exact ⟨v, rfl, (Option.some.inj h).symm⟩
end FR
namespace FR
open PySem PySem.Spec PyProof.Rows L2
theorem nrefs {bs : List Addr} : ¬ BagSh (.lst (bs.map V.ref)) := by
  rintro ⟨d, c, e⟩
  have e' : bs.map V.ref = [.ref d, .int c] := HO.lst.inj e
  match bs, e' with
  | [], e' => exact nomatch e'
  | [_], e' => exact nomatch e'
  | _ :: y :: _, e' =>
    have := (List.cons.inj (List.cons.inj e').2).1
    exact nomatch this
theorem bag_upd {H : Hp} {D b : Addr} {bs : List Addr} {o : HO} (h : Bag H b) (e : H D = some (.lst (bs.map V.ref))) : Bag (upd H D o) b := by
  obtain ⟨d, c, ds, h1, h2, h3, h4⟩ := h
  have n1 : b ≠ D := ne_of h1 e (fun z => nrefs ⟨d, c, z.symm⟩)
  have n2 : d ≠ D := ne_of h2 e (fun z => by
    have z' : ds.map V.int = bs.map V.ref := HO.lst.inj z
    match ds, bs, z' with
    | [], _, _ => exact absurd h3 (by decide)
    | x :: r, [], z' => exact nomatch z'
    | x :: r, y :: t, z' => exact nomatch (List.cons.inj z').1)
  exact ⟨d, c, ds, by rw [upd_ne n1]; exact h1, by rw [upd_ne n2]; exact h2, h3, h4⟩
end FR
namespace FR
open PySem PySem.Spec PyProof.Rows L2
theorem ix_listK (K : PySem.W.Frag) {X : Cx} (h : X.K = K := by rfl) : IxR X (rIxL K) := h ▸ ix_list
theorem ix_tupK (K : PySem.W.Frag) {X : Cx} (h : X.K = K := by rfl) : IxR X (rIxT K) := h ▸ ix_tup
theorem call_len_seqK (K : PySem.W.Frag) {X : Cx} (h : X.K = K := by rfl) : CallR X (.builtin "len") (fun xs H Q => ∃ p ys, xs = [.ref p] ∧ (SqL K H p ys ∨ SqT K H p ys) ∧ Q (.int ys.length) H) := h ▸ call_len_seq
end FR
namespace FR
open PySem PySem.Spec PyProof.Rows L2
/-! ### data of any depth -/
theorem dp_len {K : PySem.W.Frag} {H : Hp} : ∀ {xs : List V} {ds : List PyData}, DpAll K H xs ds → xs.length = ds.length
  | _, _, .nil => rfl
  | _, _, .cons _ t => congrArg (· + 1) (dp_len t)
theorem dp_get {K : PySem.W.Frag} {H : Hp} : ∀ {xs : List V} {ds : List PyData} {i : Nat} {x : V}, DpAll K H xs ds → xs[i]? = some x → ∃ d, ds[i]? = some d ∧ Dp K H x d
  | _, _, i, _, .nil, e => by simp at e
  | _, _, 0, _, .cons h _, e => ⟨_, rfl, (Option.some.inj e) ▸ h⟩
  | _, _, i + 1, x, .cons (vs := vs) (ds := ds) _ t, e => by
    have e' : vs[i]? = some x := by simpa using e
    obtain ⟨d, h1, h2⟩ := dp_get t e'
    exact ⟨d, by simpa using h1, h2⟩
theorem Same.seqT {K : PySem.W.Frag} {H H' : Hp} {a : Addr} {xs : List V} (e : Same H H') (h : SqT K H a xs) : SqT K H' a xs := by
  rcases h with (h | ⟨o, h⟩) | h
  · exact .inl (.inl (e _ _ h))
  · exact .inl (.inr ⟨o, e _ _ h⟩)
  · exact .inr h
mutual
theorem Same.dp {K : PySem.W.Frag} {H H' : Hp} (e : Same H H') : ∀ {x : V} {d : PyData}, Dp K H x d → Dp K H' x d
  | _, _, .non => .non
  | _, _, .bl b => .bl b
  | _, _, .int b => .int b
  | _, _, .str b => .str b
  | _, _, .lst s t => .lst (L2.Same.seq e s) (Same.dpa e t)
  | _, _, .tup s t => .tup (Same.seqT e s) (Same.dpa e t)
theorem Same.dpa {K : PySem.W.Frag} {H H' : Hp} (e : Same H H') : ∀ {x : List V} {d : List PyData}, DpAll K H x d → DpAll K H' x d
  | _, _, .nil => .nil
  | _, _, .cons h t => .cons (Same.dp e h) (Same.dpa e t)
end
theorem dp_ints {K : PySem.W.Frag} {H : Hp} : ∀ (ns : List Int), DpAll K H (ns.map V.int) (ns.map PyData.int)
  | [] => .nil
  | n :: r => .cons (.int n) (dp_ints r)
theorem tyT {K : PySem.W.Frag} {H : Hp} {a : Addr} {xs : List V} (h : SqT K H a xs) : TyX K H (.ref a) (.type "tuple") := by
  rcases h with (h | ⟨o, h⟩) | ⟨o, _, _, h, c, _⟩
  · exact .base (.tup h)
  · exact .fTuple h
  · exact .kTuple h c
theorem tyL {K : PySem.W.Frag} {H : Hp} {a : Addr} {xs : List V} (h : SqL K H a xs) : TyX K H (.ref a) (.type "list") := by
  rcases h with (h | ⟨o, h⟩) | ⟨o, _, _, h, c, _⟩
  · exact .base (.lst h)
  · exact .base (.frz h)
  · exact .kList h c
/-! ### what the program tells of data -/
def withinD (lo hi : Int) : PyData → Bool
  | .int i => decide (lo ≤ i) && decide (i ≤ hi)
  | _ => false
def cardsD : PyData → Bool
  | .tuple ds => decide (1 ≤ ds.length) && decide (ds.length ≤ 3) && ds.all (withinD 2 20)
  | _ => false
def stampsD (n : Nat) : PyData → Bool
  | .tuple ds => decide (ds.length = n) && ds.all (withinD 0 1000000000000000000)
  | _ => false
def purseD (n : Nat) : PyData → Bool
  | .tuple [r, s] => withinD 0 1000000000000000000 r && stampsD n s
  | _ => false
theorem all_ints {lo hi : Int} {ns : List Int} (h : ∀ c ∈ ns, lo ≤ c ∧ c ≤ hi) : (ns.map PyData.int).all (withinD lo hi) = true := by
  rw [List.all_map, List.all_eq_true]
  intro c hc
  obtain ⟨h1, h2⟩ := h c hc
  show (decide (lo ≤ c) && decide (c ≤ hi)) = true
  rw [decide_eq_true h1, decide_eq_true h2]
  rfl
theorem cardsD_ok {cs : List Int} (h : Cards cs) : cardsD (.tuple (cs.map PyData.int)) = true := by
  show (decide (1 ≤ (cs.map PyData.int).length) && decide ((cs.map PyData.int).length ≤ 3) && (cs.map PyData.int).all (withinD 2 20)) = true
  rw [List.length_map, all_ints h.2.2, decide_eq_true h.1, decide_eq_true h.2.1]
  rfl
def Stamps (n : Nat) (ss : List Int) : Prop := ss.length = n ∧ ∀ x ∈ ss, (0 : Int) ≤ x ∧ x ≤ 1000000000000000000
theorem stampsD_ok {n : Nat} {ss : List Int} (h : Stamps n ss) : stampsD n (.tuple (ss.map PyData.int)) = true := by
  show (decide ((ss.map PyData.int).length = n) && (ss.map PyData.int).all (withinD 0 1000000000000000000)) = true
  rw [List.length_map, all_ints h.2, decide_eq_true h.1]
  rfl
/-- a purse as it stands -/
def Purse (K : PySem.W.Frag) (H : Hp) (p : Addr) (r : Int) (ss : List Int) : Prop := ∃ sA, SqT K H p [.int r, .ref sA] ∧ SqT K H sA (ss.map V.int)
theorem Purse.dp {K : PySem.W.Frag} {H : Hp} {p : Addr} {r : Int} {ss : List Int} (h : Purse K H p r ss) : Dp K H (.ref p) (.tuple [.int r, .tuple (ss.map PyData.int)]) := by
  obtain ⟨sA, h1, h2⟩ := h
  exact .tup h1 (.cons (.int r) (.cons (.tup h2 (dp_ints ss)) .nil))
theorem purseD_ok {n : Nat} {r : Int} {ss : List Int} (h0 : 0 ≤ r) (h1 : r ≤ 1000000000000000000) (h : Stamps n ss) : purseD n (.tuple [.int r, .tuple (ss.map PyData.int)]) = true := by
  show ((decide (0 ≤ r) && decide (r ≤ 1000000000000000000)) && stampsD n (.tuple (ss.map PyData.int))) = true
  rw [stampsD_ok h, decide_eq_true h0, decide_eq_true h1]
  rfl
theorem Purse.same {K : PySem.W.Frag} {H H' : Hp} {p : Addr} {r : Int} {ss : List Int} (e : Same H H') (h : Purse K H p r ss) : Purse K H' p r ss := by
  obtain ⟨sA, h1, h2⟩ := h
  exact ⟨sA, Same.seqT e h1, Same.seqT e h2⟩
theorem Purse.kp {K : PySem.W.Frag} {H H' : Hp} {p : Addr} {r : Int} {ss : List Int} (e : Kp H H') (h : Purse K H p r ss) : Purse K H' p r ss := by
  obtain ⟨sA, h1, h2⟩ := h
  exact ⟨sA, e.tup h1, e.tup h2⟩
theorem same_fresh {H H' : Hp} {p : Addr} {o : HO} (x : Same H H') (h : H p = none) : Same H (upd H' p o) := fun b u e => by
  rw [upd_ne (ne_of_none e h)]
  exact x b u e
theorem same_new {H H' : Hp} {p : Addr} {o : HO} (x : Same H H') (h : H' p = none) : Same H (upd H' p o) := same_fresh x (x.free h)
theorem take_map {α β : Type} {l : List α} {i : Nat} {z : α} (f : α → β) (h : l[i]? = some z) : (l.take (i + 1)).map f = (l.take i).map f ++ [f z] := by
  rw [List.take_add_one, h, List.map_append]
  rfl
/-- a comprehension over two tuples, one beside the other -/
theorem lc_zipT {K : PySem.W.Frag} {a b : Addr} {xs ys : List V} {g : TG} {tt : TT} {te : TE} {vs : List Nat} {σ : L2.St} {H1 : Hp} {D : Addr} {Qd : Hp → Prop} (hl : xs.length = ys.length) (Pv : Nat → Hp → Prop) (h0 : Pv 0 (upd H1 D (.lst []))) (hq : ∀ i H, Pv i H → SqT K H a xs ∧ SqT K H b ys)
    (hs : ∀ (i : Nat) (x y : V) (T : Addr) (H : Hp), xs[i]? = some x → ys[i]? = some y → Pv i H → H T = none → g (.ref T) (wipe σ vs) (upd H T (.tup [x, y])) fun σ2 H2 => wipe σ2 vs = wipe σ vs ∧ tt σ2 H2 fun b H3 =>
      if b = true then te σ2 H3 fun y H4 => ∃ acc, H4 D = some (.lst acc) ∧ acc.length < sizeLine ∧ Pv (i + 1) (upd H4 D (.lst (acc ++ [y]))) else Pv (i + 1) H3) (hd : ∀ H, Pv xs.length H → Qd H) :
    ∃ W : Nat → Nat → Hp → Prop, (∃ m, W 0 m (upd H1 D (.lst []))) ∧ ∀ i m H, W i m H →
      ((RZ.ItzT K a b).stop i H ∧ Qd H) ∨ ((RZ.ItzT K a b).go i H ∧ ∃ Nx : Hp → Prop, (∀ H', Nx H' → ∃ m', m' < m ∧ W (i + 1) m' H') ∧ ∀ x H', (RZ.ItzT K a b).yld i H x H' → g x (wipe σ vs) H' fun σ2 H2 => wipe σ2 vs = wipe σ vs ∧ tt σ2 H2 fun b H3 =>
        if b = true then te σ2 H3 fun y H4 => ∃ acc, H4 D = some (.lst acc) ∧ acc.length < sizeLine ∧ Nx (upd H4 D (.lst (acc ++ [y]))) else Nx H3) := by
  refine ⟨fun i m H => m = xs.length - i ∧ i ≤ xs.length ∧ Pv i H, ⟨xs.length, rfl, Nat.zero_le _, h0⟩, ?_⟩
  rintro i m H ⟨rfl, hi, p⟩
  obtain ⟨qx, qy⟩ := hq i H p
  by_cases hlt : i < xs.length
  · have g1 : xs[i]? = some xs[i] := List.getElem?_eq_getElem hlt
    have g2 : ys[i]? = some ys[i] := List.getElem?_eq_getElem (by omega)
    refine .inr ⟨⟨_, _, _, _, qx, qy, g1, g2⟩, Pv (i + 1), fun H' p' => ⟨xs.length - (i + 1), by omega, rfl, hlt, p'⟩, fun x H' y => ?_⟩
    obtain ⟨T, x1, x2, rfl, nT, rfl, f1, f2⟩ := y
    exact hs i x1 x2 T H (f1 _ qx) (f2 _ qy) p nT
  · have e : i = xs.length := by omega
    subst e
    exact .inl ⟨⟨_, _, qx, qy, .inl (Nat.le_refl _)⟩, hd H p⟩
end FR
namespace FR
open PySem PySem.Spec PyProof.Rows L2
theorem len2 {α : Type} : ∀ {xs : List α}, xs.length = 2 → ∃ x y, xs = [x, y]
  | [x, y], _ => ⟨x, y, rfl⟩
theorem dp_two {K : PySem.W.Frag} {H : Hp} {x y : V} {ds : List PyData} (h : DpAll K H [x, y] ds) : ∃ d e, ds = [d, e] ∧ Dp K H x d ∧ Dp K H y e := by
  cases h with
  | cons h1 t =>
    cases t with
    | cons h2 u =>
      cases u with
      | nil => exact ⟨_, _, rfl, h1, h2⟩
theorem purse_not2 {n : Nat} : ∀ {ds : List PyData}, ds.length ≠ 2 → purseD n (.tuple ds) = false
  | [], _ => rfl
  | [_], _ => rfl
  | [_, _], h => absurd rfl h
  | _ :: _ :: _ :: _, _ => rfl
end FR
namespace FR
open PySem PySem.Spec PyProof.Rows L2
/-- what is told of a purse -/
def ToldV (cs : List Int) (r : Int) (ss : List Int) : V → Prop
  | .int t => Least cs r ss t
  | .non => Never cs r ss
  | _ => False
def LeftV (cs : List Int) (r : Int) (ss : List Int) (v : V) (H : Hp) : Prop :=
  (v = .non ∧ Never cs r ss) ∨ ∃ (p : Addr) (t : Int), v = .ref p ∧ H p = some (.tup ((lf cs ss t).map V.int)) ∧ Least cs r ss t
end FR
namespace FR
open PySem PySem.Spec PyProof.Rows L2
/-- no fewer are told where no fewer are paid for -/
theorem nf_of {cs ss cs' ss' : List Int} {r r' : Int} {v v' : V} (h : ToldV cs r ss v) (h' : ToldV cs' r' ss' v') (mono : ∀ m, 0 ≤ m → r + fc cs ss m ≤ r' + fc cs' ss' m) : v' = .non ∨ ∃ i j, v' = .int i ∧ v = .int j ∧ j ≤ i := by
  match v', h' with
  | .non, _ => exact .inl rfl
  | .int t', h' =>
    obtain ⟨a0, a1, a2⟩ := h'
    have m1 := mono t' a0
    match v, h with
    | .non, h =>
      have := h t' a0
      omega
    | .int t, h =>
      obtain ⟨b0, b1, b2⟩ := h
      refine .inr ⟨t', t, rfl, rfl, ?_⟩
      by_cases c : t' < t
      · have := b2 t' a0 c
        omega
      · omega
/-- a slice of a tuple, a sum of two: whatever is laid -/
theorem rd_slA {K : PySem.W.Frag} {H : Hp} {Q : VK} {a : Addr} {xs : List V} {lo hi : Option Int} (h : SqT K H a xs) (q : ∀ b H', Same H H' → SqT K H' b (cutV xs lo hi) → Q (.ref b) H') : rSlA K (.ref a) lo hi H Q := by
  refine ⟨a, xs, rfl, h, fun c => ?_, fun c p np => q p _ (same_upd np) (SqT.of upd_same)⟩
  refine q a H (.refl H) ?_
  unfold cutV
  rw [c.1, c.2, List.drop_zero, Nat.sub_zero, List.take_length]
  exact h
theorem rd_catA {K : PySem.W.Frag} {H : Hp} {Q : VK} {a b : Addr} {xs ys : List V} (h1 : SqT K H a xs) (h2 : SqT K H b ys) (hl : xs.length + ys.length ≤ 1000) (q : ∀ p H', Same H H' → SqT K H' p (xs ++ ys) → Q (.ref p) H') : rCatA K (.ref a) (.ref b) H Q := by
  refine ⟨a, b, xs, ys, rfl, rfl, h1, h2, Nat.le_of_lt (small1000 hl), fun e => ?_, fun _ e => ?_, fun _ _ p np => q p _ (same_upd np) (SqT.of upd_same)⟩
  · subst e
    exact q b H (.refl H) h2
  · subst e
    exact q a H (.refl H) (by rw [List.append_nil]; exact h1)
theorem cut_to {ns : List Int} {k : Int} (h0 : 0 ≤ k) : cutV (ns.map V.int) none (some k) = (ns.take k.toNat).map V.int := by
  unfold cutV
  obtain ⟨n, rfl⟩ : ∃ n : Nat, k = (n : Int) := ⟨k.toNat, by omega⟩
  rw [HT.sIx_none, HT.sIx_nat, List.drop_zero, Nat.sub_zero, List.length_map, List.map_take]
  by_cases c : n ≤ ns.length
  · rw [Nat.min_eq_left c]
    rfl
  · rw [Nat.min_eq_right (by omega), ← List.length_map (f := V.int), List.take_length]
    exact (List.take_of_length_le (by rw [List.length_map]; show ns.length ≤ n; omega)).symm
theorem cut_from {ns : List Int} {k : Int} (h0 : 0 ≤ k) : cutV (ns.map V.int) (some k) none = (ns.drop k.toNat).map V.int := by
  unfold cutV
  obtain ⟨n, rfl⟩ : ∃ n : Nat, k = (n : Int) := ⟨k.toNat, by omega⟩
  rw [HT.sIx_none, HT.sIx_nat, List.length_map, List.map_drop]
  by_cases c : n ≤ ns.length
  · rw [Nat.min_eq_left c, List.take_of_length_le (by rw [List.length_drop, List.length_map]; exact Nat.le_refl _)]
    rfl
  · rw [Nat.min_eq_right (by omega), List.drop_eq_nil_of_le (by rw [List.length_map]; exact Nat.le_refl _), List.take_nil]
    exact (List.drop_eq_nil_of_le (by rw [List.length_map]; show ns.length ≤ n; omega)).symm
theorem Kp.same {H H' : Hp} (s : Same H H') : Kp H H' := .of s
theorem get_ref {bs : List Addr} {i : Nat} {x : V} (h : (bs.map V.ref)[i]? = some x) : ∃ b, b ∈ bs ∧ x = .ref b := by
  rw [List.getElem?_map] at h
  cases q : bs[i]? with
  | none =>
    rw [q] at h
    exact nomatch h
  | some b =>
    rw [q] at h
    exact ⟨b, List.mem_of_getElem? q, (Option.some.inj h).symm⟩
end FR
namespace FR
open PySem PySem.Spec PyProof.Rows L2
theorem lay_ints : ∀ ns : List Int, PyData.canLayAll0 (ns.map PyData.int) = true
  | [] => by simp [PyData.canLayAll0]
  | n :: r => by simp [PyData.canLayAll0, PyData.canLay0, lay_ints r]
theorem deep_ints : ∀ ns : List Int, PyData.depthAll (ns.map PyData.int) = 0
  | [] => by simp [PyData.depthAll]
  | n :: r => by simp [PyData.depthAll, PyData.depth, deep_ints r]
theorem shaped_tup (ns : List Int) : SeqAt.shaped (.tuple (ns.map PyData.int)) = true := by
  unfold SeqAt.shaped
  rw [PyData.canLay0, PyData.depth, lay_ints, deep_ints]
  rfl
theorem eqv_tup (ns : List Int) : PyData.eqv (.tuple (ns.map PyData.int)) (.tuple (ns.map PyData.int)) = true := SeqAt.eqv_refl _ (by rw [PyData.canLay0]; exact lay_ints ns)
theorem iteP {c A B : Prop} [Decidable c] (hc : c) (h : A) : if c then A else B := by
  rw [if_pos hc]
  exact h
theorem iteN {c A B : Prop} [Decidable c] (hc : ¬ c) (h : B) : if c then A else B := by
  rw [if_neg hc]
  exact h
theorem nn_int {t : Int} : (!decide (V.int t = V.non)) = true := by
  rw [decide_eq_false (fun z => nomatch z)]
  rfl
theorem none_ir {t : Int} {o : Addr} : V.bl (decide (V.int t = .non)) = V.bl (decide (V.ref o = .non)) := by
  rw [decide_eq_false (fun z => nomatch z), decide_eq_false (fun z => nomatch z)]
theorem told_never {cs ss : List Int} {r : Int} {v : V} (h : ToldV cs r ss v) (n : Never cs r ss) : v = .non := by
  match v, h with
  | .non, _ => rfl
  | .int t, h => exact (least_never h n).elim
theorem told_least {cs ss : List Int} {r t : Int} {v : V} (h : ToldV cs r ss v) (n : Least cs r ss t) : v = .int t := by
  match v, h with
  | .non, h => exact (least_never n h).elim
  | .int u, h => rw [least_unique h n]
end FR
namespace FR
open PySem PySem.Spec PyProof.Rows L2
theorem rd_slFrom {K : PySem.W.Frag} {σ : L2.St} {H : Hp} {Q : VK} {a : Addr} {xs : List V} {lo : Option Int} (h : SqT K H a xs) (q : ∀ b H', Same H H' → SqT K H' b (cutV xs lo none) → Q (.ref b) H') : tNoPart σ H fun u H3 => rSlA K (.ref a) lo u H3 Q := rd_slA h q
end FR
namespace FR
open PySem PySem.Spec PyProof.Rows L2
/-! ### what the top has left -/
def FunAt (K : PySem.W.Frag) (mg : Str → Option Value) (x : Str) (st : Stmt) : Prop := ∃ f fd, Fun K x x st f fd ∧ mg x = some (.ref f)
theorem funAt_mk {K : PySem.W.Frag} {h : Heap} {mg : Str → Option Value} {x : Str} {st : Stmt} {f : Addr} {od an : Option Addr} {sl : Array (Option Value)} {oc kV dc pm cd ct : Value} (X : K.In h) (G : h.Ns mainGlobals mg)
    (a1 : PySem.W.nsIn K mainGlobals x = some (some (.ref f))) (l1 : K.lookup f = some ⟨oc, od, .func (PySem.W.fnOf x x (defArgs st) (defBody st) (defScope st) .none kV dc pm an cd ct), sl⟩) (c1 : PySem.W.codeIn K cd x = true) (k1 : PySem.W.keepIn K (.ref f) = true) : FunAt K mg x st :=
  ⟨f, _, fun_mk (st := st) l1 c1 k1, PySem.W.mg_of X G a1⟩
theorem FunAt.def {P : Program} {w : World} {K : PySem.W.Frag} {mg : Str → Option Value} {base : Heap} {x : Str} {st : Stmt} {k : Nat} {ps : List Str} {sp : Sp} (F : FunAt K mg x st) (ok : ∀ f fd, Fun K x x st f fd → FnOk P w K mg base CX0 k f fd ps sp)
    (h : ∀ (kV doc pm : Value) (an : Option Addr) (cdv ct : Value) (us : List Value), us.length = ps.length → bindArgs (PySem.W.fnOf x x (defArgs st) (defBody st) (defScope st) .none kV doc pm an cdv ct) ⟨us, []⟩ = pure (ps.zip us)) : Def P w K mg base x k ps sp := by
  obtain ⟨f, fd, F, m⟩ := F
  exact ⟨f, fd, ok f fd F, m, F.kp, F.binds h⟩
end FR
namespace FR
open PySem PySem.Spec PyProof.Rows L2
def FunAtX {K : PySem.W.Frag} {h : Heap} (_ : K.In h) (mg : Str → Option Value) (x : Str) (st : Stmt) : Prop := FunAt K mg x st
end FR
namespace FR
open PySem PySem.Spec PyProof.Rows L2
theorem glob_mk {K : PySem.W.Frag} {h : Heap} {mg : Str → Option Value} {x : Str} {n : Int} {v : Value} (X : K.In h) (G : h.Ns mainGlobals mg) (z : PySem.W.nsIn K mainGlobals x = some (some v)) (e : ∃ t, v = .int n t) : ∃ t, mg x = some (.int n t) := by
  obtain ⟨t, rfl⟩ := e
  exact ⟨t, PySem.W.mg_of X G z⟩
end FR
namespace FR
open PySem PySem.Spec PyProof.Rows L2
def EndlessV (cs ss : List Int) (v : V) : Prop := (v = .non ∧ pq (perOf cs) cs < perOf cs) ∨ ∃ t, v = .int t ∧ perOf cs ≤ pq (perOf cs) cs ∧ Want cs ss 0 (perOf cs) t
theorem at_ref {as : List Addr} {k : Int} (h0 : 0 ≤ k) (h : k < (as.length : Int)) : ∃ a, a ∈ as ∧ atI (as.map V.ref) k = some (.ref a) := by
  have hk : k.toNat < as.length := by omega
  refine ⟨as[k.toNat], List.getElem_mem hk, ?_⟩
  refine at_of (j := k.toNat) (by omega) ?_
  rw [List.getElem?_map, List.getElem?_eq_getElem hk]
  rfl
end FR
namespace FR
open PySem PySem.Spec PyProof.Rows L2
/-! ### deeds -/
def DeedV (n : Nat) (v : V) : Prop := v = .str "ride" ∨ ∃ i : Int, v = .int i ∧ 0 ≤ i ∧ i < (n : Int)
def Can (cs : List Int) (x : Int) (zs : List Int) (v : V) : Prop := (v = .str "ride" ∧ 0 < x) ∨ ∃ (i c z : Int), v = .int i ∧ 0 ≤ i ∧ cs[i.toNat]? = some c ∧ zs[i.toNat]? = some z ∧ c ≤ z
def aftX (x : Int) : V → Int
  | .str _ => x - 1
  | _ => x + 1
def aftS (cs zs : List Int) : V → List Int
  | .str _ => zs.map (· + 1)
  | .int i => zs.set i.toNat (zs.getD i.toNat 0 - cs.getD i.toNat 0)
  | _ => zs
def dD : V → PyData
  | .str x => .str x
  | .int i => .int i
  | _ => .none
theorem deeds_dp {K : PySem.W.Frag} {H : Hp} {n : Nat} : ∀ {xs : List V}, (∀ v ∈ xs, DeedV n v) → DpAll K H xs (xs.map dD)
  | [], _ => .nil
  | v :: xs, h => by
    have h1 := deeds_dp (K := K) (H := H) (xs := xs) (fun x hx => h x (List.mem_cons_of_mem _ hx))
    rcases h v (List.mem_cons_self ..) with rfl | ⟨i, rfl, _, _⟩
    · exact .cons (.str _) h1
    · exact .cons (.int i) h1
theorem ride_ok : PyData.canLay0 (.str "ride") = true := by
  rw [PyData.canLay0]
  decide +kernel
theorem deeds_lay {n : Nat} : ∀ {xs : List V}, (∀ v ∈ xs, DeedV n v) → PyData.canLayAll0 (xs.map dD) = true ∧ PyData.depthAll (xs.map dD) = 0
  | [], _ => by simp [PyData.canLayAll0, PyData.depthAll]
  | v :: xs, h => by
    have h1 := deeds_lay (xs := xs) (fun x hx => h x (List.mem_cons_of_mem _ hx))
    rcases h v (List.mem_cons_self ..) with rfl | ⟨i, rfl, _, _⟩
    · simp only [List.map_cons, dD, PyData.canLayAll0, PyData.depthAll, PyData.depth, ride_ok, h1.1, h1.2]
      exact ⟨rfl, rfl⟩
    · simp only [List.map_cons, dD, PyData.canLayAll0, PyData.canLay0, PyData.depthAll, PyData.depth, h1.1, h1.2]
      exact ⟨rfl, rfl⟩
theorem deeds_shaped {n : Nat} {xs : List V} (h : ∀ v ∈ xs, DeedV n v) : SeqAt.shaped (.list (xs.map dD)) = true := by
  unfold SeqAt.shaped
  rw [PyData.canLay0, PyData.depth, (deeds_lay h).1, (deeds_lay h).2]
  rfl
theorem shaped_nil : SeqAt.shaped (.list []) = true := by
  unfold SeqAt.shaped
  rw [PyData.canLay0, PyData.depth, PyData.canLayAll0, PyData.depthAll]
  rfl
theorem deeds_none {xs : List V} (h : xs = []) : (!PyData.eqv (.list (xs.map dD)) (.list [])) = false := by
  subst h
  rw [PyData.eqv]
  rfl
theorem deeds_some {xs : List V} (h : xs ≠ []) : (!PyData.eqv (.list (xs.map dD)) (.list [])) = true := by
  match xs, h with
  | _ :: _, _ =>
    rw [PyData.eqv]
    rfl
end FR
namespace FR
open PySem PySem.Spec PyProof.Rows L2
theorem ndeeds {n : Nat} {xs : List V} (h : ∀ v ∈ xs, DeedV n v) : ¬ BagSh (.lst xs) := by
  rintro ⟨d, c, e⟩
  have e' : xs = [.ref d, .int c] := HO.lst.inj e
  rcases h (.ref d) (by rw [e']; exact List.mem_cons_self ..) with g | ⟨i, g, _⟩ <;> exact nomatch g
theorem at_any {xs : List V} {k : Int} (h0 : 0 ≤ k) (h : k < (xs.length : Int)) : ∃ v, v ∈ xs ∧ atI xs k = some v := by
  have hk : k.toNat < xs.length := by omega
  exact ⟨xs[k.toNat], List.getElem_mem hk, at_of (j := k.toNat) (by omega) (List.getElem?_eq_getElem hk)⟩
/-- all deeds, in their order -/
def deedsL (n : Int) : List V := [.str "ride"] ++ rgV 0 n
theorem deedsL_len (n : Nat) : (deedsL n).length = n + 1 := by
  unfold deedsL
  rw [List.length_append, rgV_length, List.length_singleton]
  omega
theorem deedsL_mem {n : Nat} {v : V} : v ∈ deedsL n ↔ DeedV n v := by
  unfold deedsL DeedV rgV
  rw [List.mem_append, List.mem_singleton, List.mem_map]
  constructor
  · rintro (h | ⟨i, h1, h2⟩)
    · exact .inl h
    · rw [List.mem_range] at h1
      exact .inr ⟨0 + (i : Int), h2.symm, by omega, by omega⟩
  · rintro (h | ⟨i, rfl, h1, h2⟩)
    · exact .inl h
    · exact .inr ⟨i.toNat, List.mem_range.mpr (by omega), congrArg V.int (by omega)⟩
theorem nn_ref {p : Addr} : (!decide (V.ref p = V.non)) = true := by
  rw [decide_eq_false (fun z => nomatch z)]
  rfl
def OnV (K : PySem.W.Frag) (cs : List Int) (r : Int) (ss : List Int) (most : Int) (v : V) (H : Hp) : Prop :=
  (v = .non ∧ ∀ t, Least cs r ss t → most < t) ∨ ∃ (p s' : Addr) (t : Int), v = .ref p ∧ H p = some (.tup [.int t, .ref s']) ∧ SqT K H s' ((lf cs ss t).map V.int) ∧ Least cs r ss t ∧ t ≤ most
end FR
namespace FR
open PySem PySem.Spec PyProof.Rows L2
theorem shaped_non : SeqAt.shaped .none = true := by
  unfold SeqAt.shaped
  rw [PyData.canLay0, PyData.depth]
  rfl
theorem eqv_non : PyData.eqv .none .none = true := by rw [PyData.eqv]
theorem due_lay (t : Int) (ns : List Int) : PyData.canLay0 (.tuple [.int t, .tuple (ns.map PyData.int)]) = true := by
  rw [PyData.canLay0, PyData.canLayAll0, PyData.canLayAll0, PyData.canLayAll0, PyData.canLay0, PyData.canLay0, lay_ints]
  rfl
theorem due_shaped (t : Int) (ns : List Int) : SeqAt.shaped (.tuple [.int t, .tuple (ns.map PyData.int)]) = true := by
  unfold SeqAt.shaped
  rw [due_lay, PyData.depth, PyData.depthAll, PyData.depthAll, PyData.depthAll, PyData.depth, PyData.depth, deep_ints]
  rfl
theorem due_eqv (t : Int) (ns : List Int) : PyData.eqv (.tuple [.int t, .tuple (ns.map PyData.int)]) (.tuple [.int t, .tuple (ns.map PyData.int)]) = true := SeqAt.eqv_refl _ (due_lay t ns)
theorem SqT.same2 {K : PySem.W.Frag} {H H' : Hp} {a : Addr} {xs : List V} (h : SqT K H a xs) (e : Same H H') : SqT K H' a xs := Same.seqT e h
end FR
set_option maxHeartbeats 1000000
namespace FR
open PySem PySem.Spec PyProof.Rows L2
/-! ### an exception that has come down in the frame of X, ahead of its clauses -/
structure Down (X : Cx) (pins : List (Addr × Obj)) (σ : L2.St) (H : Hp) (B : Heap) (a : Addr) (cls : Value) (d : Option Addr) (t : Shared) : Prop where
  ok : X.Ok
  fly : HandSPX.FlyingZ B (X.env :: X.outer) a (L2N.Zn cls d) t.heap
  none : H a = Option.none
  inv : ∀ g : Heap, HandSPX.FlyingZ B (X.env :: X.outer) a (L2N.Zn cls d) g → t.heap.UpToSlots g → Inv X pins σ H { t with heap := g }
section
variable {X : Cx} {pins : List (Addr × Obj)} {σ : L2.St} {H : Hp} {B : Heap} {a : Addr} {cls : Value} {d : Option Addr} {t : Shared}
theorem Down.apart (Y : Down X pins σ H B a cls d t) (frame : X.env.frame = some X.env.locals) : a ≠ X.env.locals ∧ a ∉ X.fs := by
  obtain ⟨ob, fs, at_, _, isF⟩ := Y.fly.there
  have far : a ∉ frs (X.env :: X.outer) := by
    intro isIn
    obtain ⟨_, ob2, at2, noF⟩ := Y.fly.2.2.1.mem isIn
    rw [at_] at at2
    cases at2
    exact noF _ isF
  constructor
  · intro e
    refine far (List.mem_filterMap.mpr ⟨X.env, List.mem_cons_self, ?_⟩)
    rw [frame, e]
  · intro isIn
    obtain ⟨v, hv, e⟩ := List.mem_filterMap.mp isIn
    exact far (List.mem_filterMap.mpr ⟨v, List.mem_cons_of_mem _ hv, e⟩)
theorem Down.here (Y : Down X pins σ H B a cls d t) : Inv X pins σ H t := Y.inv t.heap Y.fly (Heap.UpToSlots.refl _)
/-- one named clause, whatever clauses follow -/
theorem clause_as {i : Nat} {x n : Str} {c : Value} {first : Stmt} {more : List Stmt} {p1 p2 : Pos} {rest : List ExceptHandler} {ts : Addr → Value → Option Addr → TS} {Wo : WX} {D : Ends} (Y : Down X pins σ H B a cls d t) (frame : X.env.frame = some X.env.locals)
    (nd : X.N.Nodup) (slot : X.N[i]? = some n) (isLoc : X.env.kindOf n = some .local) (nm : Names X x c)
    (suite : ∀ (a : Addr) (oe : Obj) (cls : Value) (d : Option Addr) (pn : List (Addr × Obj)), L2N.Zn cls d oe → (∃ vs, oe.data = .fields vs) → PSs (X.suite a ((a, oe) :: pn)) (first :: more) (ts a cls d))
    (wish : wAs X.K c i ts Wo D cls d σ H) (on : Wo cls d σ H → wpAny (model X.prog X.w) X.A (handleBy (.ref a) X.env rest) (SP X pins D) X.xe t) :
    wpAny (model X.prog X.w) X.A (handleBy (.ref a) X.env (.ExceptHandler (some (.Name x p1)) (some n) (first :: more) p2 :: rest)) (SP X pins D) X.xe t := by
  obtain ⟨offL, offF⟩ := Y.apart frame
  obtain ⟨ob, fs, at_, kind, isF⟩ := Y.fly.there
  have inSuite := Y.here.suite at_ isF Y.none offL offF
  obtain ⟨b, ask, yes, no⟩ := wish
  have asks := PySem.W.exm_one (M := model X.prog X.w) Y.here.kIn (fun _ _ _ _ k q => wpAny_typeOf_ref (k _ _ at_) (by rw [kind.1]; exact q)) ask
  refine wpAny_handleBy_cons (codeAny_handlers_test ?_) (fun z => by cases z)
  have reads : ∀ {Q E : Value → Shared → Prop}, Q c t → wpAny (model X.prog X.w) (X.A.mark (some (.ref a))) (eval (.Name x p1) X.env) Q E t := by
    intro Q E got
    rcases nm with ⟨g, dbg, m | ⟨m, v, ne⟩⟩
    · exact ld_glob (X := X.suite a ((a, ob) :: (X.pn ++ pins))) inSuite g m got dbg
    · exact ld_blt (X := X.suite a ((a, ob) :: (X.pn ++ pins))) inSuite g m v got ne dbg
  refine reads (asks.here ?_)
  cases b with
  | false => exact on (no rfl)
  | true =>
    refine codeAny_handlers_suite_as (HandSPX.lands_againZ Y.fly fun g fly2 up2 => ?_)
    obtain ⟨ob2, fs2, at2, kind2, isF2⟩ := fly2.there
    have inSuite2 := (Y.inv g fly2 up2).suite at2 isF2 Y.none offL offF
    refine store_ok (X := X.suite a ((a, ob2) :: (X.pn ++ pins))) (v := V.ref a) inSuite2 nd slot (.inl isLoc) rfl (fun t5 inv5 => ?_) (.inr isLoc)
    have run := (suite a ob2 cls d (X.pn ++ pins) kind2 ⟨_, isF2⟩).run [] t5 _ H _ inv5 (yes rfl a Y.none)
    refine wpAny_mono run (fun f t6 got => ?_) (fun _ _ z => z.elim)
    have gone : ∀ {σ6 : L2.St} {H6 : Hp} {Q : Shared → Prop}, Inv (X.suite a ((a, ob2) :: (X.pn ++ pins))) [] σ6 H6 t6 → (∀ t7, Inv X pins (σ6.set i Option.none) H6 t7 → Q t7) →
        wpAny (model X.prog X.w) X.A (do bindName X.env n .none; unbindBehindTheSuite X.env n p2) (fun _ => Q) X.xe t6 := fun inv6 q => gone_ok (inv6.unsuite Y.ok) nd slot isLoc q
    match f, got with
    | .next, ⟨_, _, inv6, q6⟩ => exact gone inv6 fun _ inv7 => ⟨_, _, inv7, q6⟩
    | .brk, ⟨_, _, inv6, q6⟩ => exact gone inv6 fun _ inv7 => ⟨_, _, inv7, q6⟩
    | .cont, ⟨_, _, inv6, q6⟩ => exact gone inv6 fun _ inv7 => ⟨_, _, inv7, q6⟩
    | .ret _, ⟨_, _, _, inv6, r6, q6⟩ => exact gone inv6 fun _ inv7 => ⟨_, _, _, inv7, r6, q6⟩
end
/-- try: body, except x1 as n: .., except x2 as n: ..; nothing else comes out of the body -/
theorem ps_try_as2 {X : Cx} {i : Nat} {x1 x2 n : Str} {c1 c2 : Value} {body : List Stmt} {f1 f2 : Stmt} {m1 m2 : List Stmt} {p1 p2 p3 p4 pos : Pos} {tb : WX → TS} {ts1 ts2 : Addr → Value → Option Addr → TS}
    (stk : X.stack = X.env :: X.outer) (frame : X.env.frame = some X.env.locals) (nd : X.N.Nodup) (slot : X.N[i]? = some n) (isLoc : X.env.kindOf n = some .local) (nm1 : Names X x1 c1) (nm2 : Names X x2 c2)
    (hb : ∀ (W : WX) (pn : List (Addr × Obj)) (xe : Value → Shared → Prop), L2N.Takes (X.tr pn xe) W → PassesOwn (model X.prog X.w) X.A X.env xe → PSs (X.tr pn xe) body (tb W))
    (s1 : ∀ (a : Addr) (oe : Obj) (cls : Value) (d : Option Addr) (pn : List (Addr × Obj)), L2N.Zn cls d oe → (∃ vs, oe.data = .fields vs) → PSs (X.suite a ((a, oe) :: pn)) (f1 :: m1) (ts1 a cls d))
    (s2 : ∀ (a : Addr) (oe : Obj) (cls : Value) (d : Option Addr) (pn : List (Addr × Obj)), L2N.Zn cls d oe → (∃ vs, oe.data = .fields vs) → PSs (X.suite a ((a, oe) :: pn)) (f2 :: m2) (ts2 a cls d)) :
    PS X (.Try body [.ExceptHandler (some (.Name x1 p1)) (some n) (f1 :: m1) p2, .ExceptHandler (some (.Name x2 p3)) (some n) (f2 :: m2) p4] [] [] pos)
      (fun D σ H => tb (wAs X.K c1 i ts1 (wAs X.K c2 i ts2 (fun _ _ _ _ => False) D) D) D σ H) := by
  refine ⟨fun pins s σ H D I h => wpAny_Try_except ?_⟩
  have fr : X.A.frames = some (X.env :: X.outer) := I.ok.frames.trans (congrArg some stk)
  refine wpAny_mono ((hb _ (X.pn ++ pins) _ ?_ PassesOwn.looking).run [] s σ H D (I.toTry _) h) (fun f t got => ?_) (fun _ _ z => z)
  · rintro u t ⟨a, B, sI, pins', σ', H', cls, d, rfl, inv', nb, up, sky, free, os, ag, wish⟩
    have inv := inv'.ofTry I.ok
    rw [show (X.tr (X.pn ++ pins) _).stack = X.env :: X.outer from stk] at sky
    refine L2N.Sky.land L2N.Zn.steady fr frame sky fun g fly up2 => ?_
    have Y : Down X pins σ' H' B a cls d { t with heap := g } := ⟨I.ok, fly, free, fun g2 fly2 up3 => inv.landed nb fly2.1 ((up.trans up2).trans up3) os ag⟩
    exact clause_as Y frame nd slot isLoc nm1 s1 wish fun wish2 => clause_as Y frame nd slot isLoc nm2 s2 wish2 False.elim
  · match f, got with
    | .next, ⟨_, _, inv, q⟩ => exact wpAny_execs_nil ⟨_, _, inv.ofTry I.ok, q⟩
    | .brk, ⟨_, _, inv, q⟩ => exact ⟨_, _, inv.ofTry I.ok, q⟩
    | .cont, ⟨_, _, inv, q⟩ => exact ⟨_, _, inv.ofTry I.ok, q⟩
    | .ret _, ⟨_, _, _, inv, r, q⟩ => exact ⟨_, _, _, inv.ofTry I.ok, r, q⟩
end FR
set_option maxHeartbeats 2000000
namespace FR
open PySem PySem.Spec PyProof.Rows L2 HotX
section
variable {prog : Program} {w : World} {A : Around} {E : Value → Shared → Prop} {s : Shared}
/-- where an exception is handled: the list's iterator comes to its end -/
theorem list_end_hot {it l x1 : Addr} {i : Nat} {items : Array Value} {Q : Option Value → Shared → Prop} (hot : HotAt A x1 s.heap) (ne : x1 ≠ it) (iter : s.heap.IsListIter it l i) (isl : s.heap.IsList l items) (out : items[i]? = none)
    (fin : ∀ g, Heap.ExtBut it s.heap g → Q none { s with heap := g }) : wpAny (model prog w) A (pyNext (.ref it)) Q E s := by
  obtain ⟨oi, geti, _, dati⟩ := id iter
  obtain ⟨ol, getl, _, nl, datl⟩ := isl
  obtain ⟨hh, o1, v1, get1, dat1, ctx1⟩ := hot
  unfold pyNext
  refine wpAny_bind (wpAny_attempt ?_)
  refine wpAny_callSpecial?_slot (name := Str.ofString "__next__") iter.typeIs slot_listiter_next ?_
  refine wpAny_call_entry slot_listiter_next iter.typeIs entry_listiter_next ?_ (args_listiter_next _)
  refine wpAny_bind (m := field (.ref it) 0) (wpAny_field geti dati (x := .ref l) rfl ?_)
  rw [if_neg (show ¬ (Value.ref l == Value.none) = true by simp)]
  refine wpAny_bind (m := field (.ref it) 1) (wpAny_field geti dati (x := .int i 0) rfl ?_)
  refine wpAny_bind (m := seqItems? (.ref l)) (wpAny_seqItems getl datl ?_)
  simp only [Int.toNat_natCast, out]
  refine wpAny_bind (wpAny_rule (wpAny_bind (wpAny_setField geti dati (by simp) ?_)))
  refine wpAny_bind (m := newExc (.type "StopIteration") []) ?_
  simp only [newExc, newTuple]
  refine wpAny_bind (wpAny_newObj_type (wpAny_bind (m := firstArgMember _ _) (wpAny_of_eq (a := Value.none) (by first | rfl | (simp only [firstArgMember]; rfl)) (wpAny_newObj_type ?_ (by size_fits)))) (by size_fits))
  have old : ∀ b o, b ≠ it → s.heap.get? b = some o → ∀ f, ((s.heap.update it f).get? b = some o) := fun b o nb e f => (Heap.get?_update_other _ _ (Ne.symm nb)).trans e
  refine raiseNew_hot ⟨hh, o1, v1, Heap.get?_push_of_some _ (Heap.get?_push_of_some _ (old x1 o1 ne get1 _)), dat1, ctx1⟩ (Nat.ne_of_lt (Heap.lt_size (Heap.get?_push_of_some _ (old x1 o1 ne get1 _)))) (Heap.get?_push_size _ rfl) rfl (by first | (simp; done) | (simp; omega)) ?_
  refine wpAny_bind (wpAny_isInstance (T := "StopIteration") (b := true) ⟨_, Heap.get?_update_self _ (Heap.get?_push_size _ rfl) rfl, rfl⟩ isSubtype_stop (wpAny_pure (fin _ fun b o nb e => ?_)))
  rw [Heap.get?_update_other _ _ (Nat.ne_of_gt (Heap.lt_size (Heap.get?_push_of_some _ (old b o nb e _))))]
  exact Heap.get?_push_of_some _ (Heap.get?_push_of_some _ (old b o nb e _))
theorem tup_end_hot {it l x1 : Addr} {i : Nat} {items : Array Value} {Q : Option Value → Shared → Prop} (hot : HotAt A x1 s.heap) (ne : x1 ≠ it) (iter : IsTupIter s.heap it l i) (isl : IsTup s.heap l items) (out : items[i]? = none)
    (fin : ∀ g, Heap.ExtBut it s.heap g → Q none { s with heap := g }) : wpAny (model prog w) A (pyNext (.ref it)) Q E s := by
  obtain ⟨oi, geti, _, dati⟩ := id iter
  obtain ⟨ol, getl, _, nl, datl⟩ := isl
  obtain ⟨hh, o1, v1, get1, dat1, ctx1⟩ := hot
  unfold pyNext
  refine wpAny_bind (wpAny_attempt ?_)
  refine wpAny_callSpecial?_slot (name := Str.ofString "__next__") iter.typeIs slot_tupleiter_next ?_
  refine wpAny_call_entry slot_tupleiter_next iter.typeIs entry_tupleiter_next ?_ (args_tupleiter_next _)
  refine wpAny_bind (m := field (.ref it) 0) (wpAny_field geti dati (x := .ref l) rfl ?_)
  rw [if_neg (show ¬ (Value.ref l == Value.none) = true by simp)]
  refine wpAny_bind (m := field (.ref it) 1) (wpAny_field geti dati (x := .int i 0) rfl ?_)
  refine wpAny_bind (m := seqItems? (.ref l)) (wpAny_seqItems getl datl ?_)
  simp only [Int.toNat_natCast, out]
  refine wpAny_bind (wpAny_rule (wpAny_bind (wpAny_setField geti dati (by simp) ?_)))
  refine wpAny_bind (m := newExc (.type "StopIteration") []) ?_
  simp only [newExc, newTuple]
  refine wpAny_bind (wpAny_newObj_type (wpAny_bind (m := firstArgMember _ _) (wpAny_of_eq (a := Value.none) (by first | rfl | (simp only [firstArgMember]; rfl)) (wpAny_newObj_type ?_ (by size_fits)))) (by size_fits))
  have old : ∀ b o, b ≠ it → s.heap.get? b = some o → ∀ f, ((s.heap.update it f).get? b = some o) := fun b o nb e f => (Heap.get?_update_other _ _ (Ne.symm nb)).trans e
  refine raiseNew_hot ⟨hh, o1, v1, Heap.get?_push_of_some _ (Heap.get?_push_of_some _ (old x1 o1 ne get1 _)), dat1, ctx1⟩ (Nat.ne_of_lt (Heap.lt_size (Heap.get?_push_of_some _ (old x1 o1 ne get1 _)))) (Heap.get?_push_size _ rfl) rfl (by first | (simp; done) | (simp; omega)) ?_
  refine wpAny_bind (wpAny_isInstance (T := "StopIteration") (b := true) ⟨_, Heap.get?_update_self _ (Heap.get?_push_size _ rfl) rfl, rfl⟩ isSubtype_stop (wpAny_pure (fin _ fun b o nb e => ?_)))
  rw [Heap.get?_update_other _ _ (Nat.ne_of_gt (Heap.lt_size (Heap.get?_push_of_some _ (old b o nb e _))))]
  exact Heap.get?_push_of_some _ (Heap.get?_push_of_some _ (old b o nb e _))
/-- a tuple into names, where an exception is handled -/
theorem unpack_hot {t x1 : Addr} {items : Array Value} {Q : List Value → Shared → Prop} (hot : HotAt A x1 s.heap) (isT : IsTup s.heap t items)
    (fin : ∀ g, Heap.ExtBut s.heap.objs.size s.heap g → Q items.toList { s with heap := g }) : wpAny (model prog w) A (unpackItems (.ref t) items.size none) Q E s := by
  obtain ⟨hh, o1, v1, get1, dat1, ctx1⟩ := hot
  have apart : t ≠ s.heap.objs.size := by
    obtain ⟨o, e, _⟩ := isT
    exact Nat.ne_of_lt (Heap.lt_size e)
  have apart1 : x1 ≠ s.heap.objs.size := Nat.ne_of_lt (Heap.lt_size get1)
  unfold unpackItems notIterableAtAll
  refine wpAny_bind (wpAny_bind (wpAny_specialOf isT.typeIs slot_tuple_iter.lookup (wpAny_pure ?_)))
  simp only [Bool.false_eq_true, if_false]
  refine wpAny_bind (wpAny_holding (iter_tuple isT (wpAny_bind (wpAny_holding ?_))))
  refine draw_tuple apart items.size 0 _ _ ⟨_, Heap.get?_push_size _ rfl, rfl, rfl⟩ (isT.push _) (by omega) fun g1 iter1 same1 => ?_
  rw [show List.take items.size (List.drop 0 items.toList) = items.toList by rw [List.drop_zero]; exact List.take_of_length_le (by simp), if_neg (by simp)]
  have get1' : g1.get? x1 = some o1 := same1.extBut x1 o1 apart1 (Heap.get?_push_of_some _ get1)
  refine wpAny_bind (wpAny_holding (tup_end_hot (s := { s with heap := g1 }) ⟨hh, o1, v1, get1', dat1, ctx1⟩ apart1 iter1 ((isT.push _).extBut same1.extBut apart) (by simp) fun g2 ext2 => ?_))
  simp only [Option.isSome_none, Bool.false_eq_true, if_false]
  exact wpAny_pure (fin g2 fun b o nb e => ext2 b o nb (same1.extBut b o nb (Heap.get?_push_of_some _ e)))
theorem assign_hot {env : Env} {elts : List Expr} {k : Nat} {pos : Pos} {t x1 : Addr} {items : Array Value} {Q : Unit → Shared → Prop} (hot : HotAt A x1 s.heap) (isT : IsTup s.heap t items) (many : (assignEach elts env).length = items.size) (noStar : (assignEach elts env).findIdx? (·.1) = none)
    (on : ∀ g, Heap.ExtBut s.heap.objs.size s.heap g → wpAny (model prog w) A (assignInOrder ((assignEach elts env).map (·.2)) items.toList) Q E { s with heap := g }) : wpAny (model prog w) A (assign (.Tuple elts k pos) env (.ref t)) Q E s := by
  rw [assign_Tuple]
  refine wpAny_bind (wpAny_standAt ?_)
  unfold unpack
  rw [many, noStar]
  exact wpAny_bind (wpAny_holding (unpack_hot hot isT on))
end
/-- in X an exception is handled, whose class is one of the program's own and whose context is None -/
def HotO (A : Around) (x1 : Addr) (h : Heap) : Prop := A.handled = some (.ref x1) ∧ ∃ (o : Obj) (vs : Array Value) (C : Addr), h.get? x1 = some o ∧ o.cls = .ref C ∧ o.data = .fields vs ∧ vs[2]? = some .none
theorem HotO.at {A : Around} {x1 : Addr} {h : Heap} (y : HotO A x1 h) : HotAt A x1 h := by
  obtain ⟨a, o, vs, _, e, _, d, c⟩ := y
  exact ⟨a, o, vs, e, d, c⟩
def Warm (X : Cx) : Prop := ∀ (pins : List (Addr × Obj)) (σ : L2.St) (H : Hp) (s : Shared), Inv X pins σ H s → ∃ x1, HotO X.A x1 s.heap
theorem pg_tupH {X : Cx} {es : List Expr} {k n : Nat} {t : TGs} {pos : Pos} (warm : Warm X) (parts : PGs X es t) (many : (assignEach es X.env).length = n := by rfl) (noStar : (assignEach es X.env).findIdx? (·.1) = none := by rfl) : PG X (.Tuple es k pos) (gTup X.K n t) := by
  refine ⟨fun pins s σ H v u Q I rel wish => ?_⟩
  obtain ⟨a, xs, rfl, sq, len, wish⟩ := wish
  cases rel
  obtain ⟨its, rv, isT, hz⟩ := I.tuple sq
  obtain ⟨x1, hot⟩ := warm _ _ _ _ I
  refine assign_hot hot.at isT (by simp [many, ← len, rv.length]) noStar fun g ext => ?_
  have I2 : Inv X pins σ H { s with heap := g } := I.kept (t' := s.toks) fun b o e => ext b o (Nat.ne_of_lt (Heap.lt_size e)) e
  exact parts.run pins _ σ H xs _ Q I2 (by simpa using rv) wish
end FR
set_option maxHeartbeats 2000000
namespace FR
open PySem PySem.Spec PyProof.Rows L2 HotX
/-- the handled exception stands apart from all that X may change -/
def WarmP (X : Cx) : Prop := ∃ (x1 : Addr) (o : Obj), (x1, o) ∈ X.pn ∧ X.A.handled = some (.ref x1) ∧ ∃ (vs : Array Value) (C : Addr), o.cls = .ref C ∧ o.data = .fields vs ∧ vs[2]? = some .none
theorem WarmP.warm {X : Cx} (y : WarmP X) : Warm X := by
  obtain ⟨x1, o, isIn, hh, vs, C, c, d, n⟩ := y
  intro pins σ H s I
  exact ⟨x1, hh, o, vs, C, (I.pin (x1, o) (List.mem_append_left _ isIn)).1, c, d, n⟩
theorem warm_suite {X : Cx} {a C : Addr} {oe : Obj} {d : Option Addr} {pn : List (Addr × Obj)} (z : L2N.Zn (.ref C) d oe) (f : ∃ vs, oe.data = .fields vs) : WarmP (X.suite a ((a, oe) :: pn)) := by
  obtain ⟨vs, f⟩ := f
  exact ⟨a, oe, List.mem_cons_self, rfl, vs, C, z.1, f, z.2.2 vs f⟩
/-- a list's turn where an exception is handled -/
theorem list_item {X : Cx} {pins : List (Addr × Obj)} {σ : L2.St} {H : Hp} {s : Shared} {E : Value → Shared → Prop} {tg : Expr} {a it : Addr} {i : Nat} (I : Inv X pins σ H s) (ap : FpOk X pins H it) (st : s.heap.IsListIter it a i) (go : (Itl X.K a).go i H) :
    wpAny (model X.prog X.w) X.A (pyNext (.ref it)) (fun r s1 => ∃ u, r = some u ∧ wpAny (model X.prog X.w) X.A (letOwnedTupleGo tg (.ref it) u) (fun _ s2 => ∃ x, Inv X pins σ H s2 ∧ RelV x u ∧ (Itl X.K a).yld i H x H ∧ s2.heap.IsListIter it a (i + 1)) E s1) E s := by
  obtain ⟨xs, x, sq, at_⟩ := go
  obtain ⟨its, rv, isl, _⟩ := I.list sq
  obtain ⟨u, atu, ru⟩ := rv.get at_
  obtain ⟨z0, z1, _, z3, z4, z5⟩ := ap
  refine wpAny_pyNext_list_item st isl.isList (x := u) (by simpa using atu) fun g st2 sb => ⟨u, rfl, ?_⟩
  have I2 : Inv X pins σ H { s with heap := g } := I.turned (t' := s.toks) (fun b ob nb e => (sb.2 b nb).trans e) z0 z1 z3 z4 z5
  obtain ⟨ob, e, c, d⟩ := id st2
  exact go_of (s := { s with heap := g }) e c d (by decide) ⟨x, I2, ru, ⟨rfl, fun ys hy => by rw [I.list_inj hy sq]; exact at_⟩, st2⟩
theorem list_done {X : Cx} {pins : List (Addr × Obj)} {σ : L2.St} {H : Hp} {s : Shared} {E : Value → Shared → Prop} {a it : Addr} {i : Nat} (warm : Warm X) (I : Inv X pins σ H s) (ap : FpOk X pins H it) (st : s.heap.IsListIter it a i) (stop : (Itl X.K a).stop i H) :
    wpAny (model X.prog X.w) X.A (pyNext (.ref it)) (fun r s1 => r = none ∧ Inv X pins σ H s1) E s := by
  obtain ⟨xs, sq, len⟩ := stop
  obtain ⟨its, rv, isl, _⟩ := I.list sq
  obtain ⟨z0, z1, _, z3, z4, z5⟩ := ap
  have hl := rv.length
  obtain ⟨x1, hot⟩ := warm _ _ _ _ I
  have ne : x1 ≠ it := by
    rintro rfl
    obtain ⟨_, o, vs, C, e, c, _⟩ := hot
    obtain ⟨ob, e2, c2, _⟩ := st
    rw [e] at e2
    cases e2
    rw [c] at c2
    cases c2
  exact list_end_hot hot.at ne st isl.isList (by simp; omega) fun g ext => ⟨rfl, I.turned (t' := s.toks) (fun b o nb e => ext b o nb e) z0 z1 z3 z4 z5⟩
/-- [elt for target in list if ..] where an exception is handled -/
theorem pe_lcH {X : Cx} {elt tg l : Expr} {ifs : List Expr} {scope : Scope} {own : List (Str × Nat)} {pos : Pos} {tl : TE} {g : TG} {tt : TT} {te : TE} (warm : WarmP X) (stk : X.stack = X.env :: X.outer) (frame : X.env.frame = some X.env.locals) (nd : X.N.Nodup) (hl : PE X l tl)
    (ok : BlkOk X.N X.env.scope scope own) (hg : ∀ (s : Shared) (H : Hp) (C : Addr) (cl : List (Str × Addr)) (fp : List Addr), Warm (X.blk s H scope (compEnvC scope cl C X.env) fp) → PG (X.blk s H scope (compEnvC scope cl C X.env) fp) tg g)
    (ht : ∀ (s : Shared) (H : Hp) (C : Addr) (cl : List (Str × Addr)) (fp : List Addr), PTs (X.blk s H scope (compEnvC scope cl C X.env) fp) ifs tt)
    (he : ∀ (s : Shared) (H : Hp) (C : Addr) (cl : List (Str × Addr)) (fp : List Addr), PE (X.blk s H scope (compEnvC scope cl C X.env) fp) elt te) (fold : ∀ x, foldedSetIterable l X.env x = pure x := by intro _; rfl) :
    PE X (.ListComp elt [⟨tg, l, ifs, 0⟩] scope pos) (tLc (iList X.K tl) g tt te (own.map (·.2))) := by
  refine ⟨fun pins s σ H Q I h => ?_⟩
  rw [eval_ListComp]
  have caught : ∀ y ∈ scope.names, y.2 = .free → ∃ c, X.env.cells.lookup y.1 = some c := by
    intro y hy e
    rcases ok.free y hy e with z | z
    · exact I.ok.has _ (.inl z)
    · exact I.ok.has _ (.inr z)
  refine wpAny_comprehension_free (use := none) rfl fold (closure_ok caught) ok.kind (fun y hy e => (ok.uniq y hy).trans (congrArg some e)) (thn (hl.run pins s σ H _ I h) fun v0 s1 made => ?_)
  obtain ⟨x0, H1, I1, r1, a, rfl, ⟨xs, sq⟩, wish⟩ := made
  cases r1
  obtain ⟨its, rv, isl, _⟩ := I1.list sq
  refine wpAny_pyIter_list isl.isList ?_
  -- the iterator
  generalize hit : s1.heap.objs.size = it
  generalize hs2 : ({ s1 with heap := s1.heap.push _ } : Shared) = s2
  have I2 : Inv X pins σ H1 s2 := by
    rw [← hs2]
    exact I1.kept (t' := s1.toks) fun b o e => Heap.get?_push_of_some _ e
  have st2 : s2.heap.IsListIter it a 0 := by
    rw [← hs2, ← hit]
    exact ⟨_, Heap.get?_push_size _ rfl, rfl, rfl⟩
  have ap2 : FpOk X pins H1 it := I1.fpOk (by rw [hit]; exact Nat.le_refl _) (I1.hok.fresh (by rw [hit]; exact Nat.le_refl _))
  refine wpAny_newObj_type (newEnv_comp ?_) (by show 0 ≤ sizeLine; decide)
  -- the new list
  generalize hD : s2.heap.objs.size = D
  generalize hs3 : ({ s2 with heap := s2.heap.push { cls := .type "list", data := .seq ([] : List Value).toArray } } : Shared) = s3
  have newD : H1 D = none := I2.hok.fresh (Nat.le_of_eq hD)
  obtain ⟨W, ⟨m0, w0⟩, turn⟩ := wish D newD
  have heap3 : s3.heap = s2.heap.push { cls := .type "list", data := .seq ([] : List Value).toArray } := by rw [← hs3]
  have I3 : Inv X pins σ (upd H1 D (.lst [])) s3 := by
    rw [← hs3]
    refine I2.laid (t' := s2.toks) (fun b o e => Heap.get?_push_of_some _ e) (Nat.le_of_eq hD) ⟨Nat.zero_le _, [], 0, .nil, ?_⟩
    rw [← hD]
    exact Heap.get?_push_size _ rfl
  have itLt : it < s2.heap.objs.size := by
    obtain ⟨o, e, _⟩ := st2
    exact Heap.lt_size e
  have itNe : it ≠ D := by
    rw [← hD]
    exact Nat.ne_of_lt itLt
  have ap3 : FpOk X pins (upd H1 D (.lst [])) it := ⟨by rw [upd_ne itNe]; exact ap2.1, ap2.2⟩
  have st3 : s3.heap.IsListIter it a 0 := st2.at fun o e => by
    rw [heap3]
    exact Heap.get?_push_of_some _ e
  have I4 := block_start (fp := [it]) I3 ok nd fun b hb => by
    rw [List.mem_singleton.mp hb]
    exact ⟨ap3, by rw [heap3, Heap.size_push]; exact Nat.lt_succ_of_lt itLt⟩
  -- the handled exception, in the block
  have blkWarm : ∀ ce : Env, Warm (X.blk s3 (upd H1 D (.lst [])) scope ce [it]) := by
    obtain ⟨x1, o, isIn, hh, vs, C, c, d, n⟩ := warm
    intro ce pins' σ' H' s' I'
    obtain ⟨p1, p2, p3, p4, _⟩ := I3.pin (x1, o) (List.mem_append_left _ isIn)
    have offF : x1 ∉ (X.blk s3 (upd H1 D (.lst [])) scope ce [it]).fs := by
      intro z
      obtain ⟨v, hv, e⟩ := List.mem_filterMap.mp z
      have hv' : v ∈ X.env :: X.outer := by
        rw [← stk]
        exact hv
      rcases List.mem_cons.mp hv' with g | g
      · rw [g, frame] at e
        exact p3 (Option.some.inj e).symm
      · exact p4 (List.mem_filterMap.mpr ⟨v, g, e⟩)
    have offI : x1 ∉ [it] := by
      intro z
      have z := List.mem_singleton.mp z
      obtain ⟨ob, e2, c2, _⟩ := st3
      rw [← z] at e2
      have e3 := p1.symm.trans e2
      cases e3
      rw [c] at c2
      cases c2
    exact ⟨x1, hh, o, vs, C, I'.base.keep x1 o p1 p2 offF offI, c, d, n⟩
  have wm := blkWarm (compEnvC scope (cellsFrom (s3.heap.objs.size + 1) scope.names (cloFrom X.env.cells scope.names [])) s3.heap.objs.size X.env)
  have pg := hg s3 (upd H1 D (.lst [])) s3.heap.objs.size (cellsFrom (s3.heap.objs.size + 1) scope.names (cloFrom X.env.cells scope.names [])) [it] wm
  have pt := ht s3 (upd H1 D (.lst [])) s3.heap.objs.size (cellsFrom (s3.heap.objs.size + 1) scope.names (cloFrom X.env.cells scope.names [])) [it]
  have pe := he s3 (upd H1 D (.lst [])) s3.heap.objs.size (cellsFrom (s3.heap.objs.size + 1) scope.names (cloFrom X.env.cells scope.names [])) [it]
  change codeAny _ _ (.compStart (.ListComp elt [⟨tg, l, ifs, 0⟩] scope pos) 0 (.ref it) (.ref D) (compEnvC scope (cellsFrom (s3.heap.objs.size + 1) scope.names (cloFrom X.env.cells scope.names [])) s3.heap.objs.size X.env))
    (compPost (model X.prog X.w) X.A X.xe none (EP X pins σ Q) (.ref D) s3.heap.objs.size) { s3 with heap := pushCells (s3.heap.push { cls := .type "dict", data := .dict #[] }) scope.names }
  generalize hce : compEnvC scope (cellsFrom (s3.heap.objs.size + 1) scope.names (cloFrom X.env.cells scope.names [])) s3.heap.objs.size X.env = ce at I4 pg pt pe wm ⊢
  have ceL : ce.locals = s3.heap.objs.size := by
    subst hce
    rfl
  generalize hs4 : ({ s3 with heap := pushCells (s3.heap.push { cls := .type "dict", data := .dict #[] }) scope.names } : Shared) = s4 at I4 ⊢
  have st4 : s4.heap.IsListIter it a 0 := st3.at fun o e => by
    rw [← hs4]
    exact pushCells_keeps _ _ _ _ (Heap.get?_push_of_some _ e)
  generalize hH3 : upd H1 D (.lst []) = H3 at I3 I4 pg pt pe wm w0 ap3
  have me : it ∈ [it] := List.mem_singleton.mpr rfl
  have apB : ∀ {σ' : L2.St} {H' : Hp} {t : Shared}, Inv (X.blk s3 H3 scope ce [it]) [] σ' H' t → H' it = none → FpOk (X.blk s3 H3 scope ce [it]) [] H' it := fun I' n =>
    ⟨n, (I'.ok.exf it me).1, I'.ok.exfs it me, .inl me, fun x c e => (I'.ok.exf it me).2 x c e, fun p hp => absurd (show p ∈ ([] : List (Addr × Obj)) ++ [] from hp) (by simp)⟩
  have loop : codeAny (model X.prog X.w) X.A (.compLoop (.ListComp elt [⟨tg, l, ifs, 0⟩] scope pos) 0 (.ref it) (.ref D) ce) (compPost (model X.prog X.w) X.A X.xe none (EP X pins σ Q) (.ref D) s3.heap.objs.size) s4 := by
    refine compLoop_any (fun n t => ∃ i H', Inv (X.blk s3 H3 scope ce [it]) [] (wipe σ (own.map (·.2))) H' t ∧ t.heap.IsListIter it a i ∧ H' it = none ∧ W i n H') ?_ m0 ⟨0, H3, I4, st4, ap3.1, w0⟩
    rintro n t5 ⟨i, H5, I5, st5, n5, w5⟩
    rcases turn i n H5 w5 with ⟨stop, q5⟩ | ⟨go, Nx, hNx, step⟩
    · refine thnF (list_done (X := X.blk s3 H3 scope ce [it]) wm I5 (apB I5 n5) st5 stop) fun r t6 ⟨hr, I6⟩ => ?_
      subst hr
      have I7 : Inv X pins σ H5 t6 := I3.call' (ch := [it]) I6.os I6.base I6.hok I6.bare fun b hb => by
        rw [List.mem_singleton.mp hb]
        exact ⟨ap3.2.2.2.1, ap3.2.1, ap3.2.2.2.2.1, ap3.2.2.2.2.2⟩
      have nC : H5 s3.heap.objs.size = none := ceL ▸ (show H5 ce.locals = none from I6.free)
      obtain ⟨m, ns, _⟩ := I6.loc
      have apC := I3.fpOk (H' := H5) (Nat.le_refl _) nC
      refine ⟨m, ceL ▸ (show t6.heap.Ns ce.locals m from ns), fun g sb => ⟨.ref D, H5, ?_, rfl, q5⟩⟩
      exact I7.turned (t' := t6.toks) (fun b o nb e => (sb.2 b nb).trans e) apC.1 apC.2.1 apC.2.2.2.1 apC.2.2.2.2.1 apC.2.2.2.2.2
    · refine thnF (list_item (X := X.blk s3 H3 scope ce [it]) (tg := tg) I5 (apB I5 n5) st5 go) fun r t6 ⟨u, hr, h6⟩ => ?_
      subst hr
      refine thnF h6 fun _ t7 ⟨x, I7, r7, y7, st7⟩ => ?_
      obtain ⟨oi, gi, ci, di⟩ := id st7
      have I7' := I7.pinned (fp := [it]) (fun b hb => by rw [List.mem_singleton.mp hb]; exact apB I7 n5) (fun b hb => by
        rw [List.mem_singleton.mp hb]
        exact ⟨oi, gi, fun v z => by rw [di] at z; cases z⟩)
      refine thnF (pg.run _ t7 _ H5 x u _ I7' r7 (step x H5 y7)) fun _ t8 ⟨σ8, H8, I8, w8, q8⟩ => ?_
      refine thnF (pt.run _ t8 σ8 H8 _ I8 q8) fun b t9 ⟨H9, I9, q9⟩ => ?_
      have fin : ∀ {t' : Shared} {H' : Hp}, Inv (X.blk s3 H3 scope ce [it]) ([] ++ pinsAt [it] t7.heap) σ8 H' t' → Nx H' → ∃ m, m < n ∧ ∃ i H', Inv (X.blk s3 H3 scope ce [it]) [] (wipe σ (own.map (·.2))) H' t' ∧ t'.heap.IsListIter it a i ∧ H' it = none ∧ W i m H' := by
        intro t' H' I' nx
        obtain ⟨m', hm, w'⟩ := hNx H' nx
        obtain ⟨gi', ni', _⟩ := I'.pin (it, oi) (List.mem_append_right _ (List.mem_append_right _ (mem_pinsAt me gi)))
        have len : (wipe σ (own.map (·.2))).length = σ8.length := by rw [← w8, wipe_length]
        refine ⟨m', hm, i + 1, H', (I'.unpinned (pins := [])).weak len (fun j v e => (wipe_some (by rw [w8]; exact e)).1), ?_, ni', w'⟩
        exact st7.at fun o e => by
          rw [gi] at e
          cases e
          exact gi'
      cases b with
      | false => exact fin I9 q9
      | true =>
        refine thnF (pe.run _ t9 σ8 H9 _ I9 q9) fun z t10 ⟨yv, H10, I10, r10, acc, hD10, hz10, nx⟩ => ?_
        exact app_ok (X := X.blk s3 H3 scope ce [it]) I10 hD10 hz10 r10 fun t11 I11 => fin I11 nx
  exact codeAny_compStart_list loop (wpAny_pyIter_listiter st4 loop)
end FR
set_option maxHeartbeats 2000000
namespace FR
open PySem PySem.Spec PyProof.Rows L2 HotX
/-! ### xs[i] op= e -/
def rGetL (K : PySem.W.Frag) : V → V → Hp → VK → Prop := fun o i H Q => ∃ p xs k v, o = .ref p ∧ i = .int k ∧ SqL K H p xs ∧ 0 ≤ k ∧ k < 2 ^ 63 ∧ xs[k.toNat]? = some v ∧ Q v H
theorem get_list {X : Cx} : PGet X (rGetL X.K) := by
  intro pins s σ H o i ov iv Q I ro ri h
  obtain ⟨p, xs, k, v, rfl, rfl, sq, k0, k1, at_, q⟩ := h
  cases ro
  obtain ⟨tk, rfl⟩ := ri
  obtain ⟨its, rv, isl, _⟩ := I.list sq
  obtain ⟨u, atu, ru⟩ := rv.get at_
  exact wpAny_getItem_list isl.isList k0 k1 (by simpa using atu) ⟨v, H, I, ru, q⟩
/-! ### defs that raise -/
structure ExcT (K : PySem.W.Frag) (mg : Str → Option Value) (x : Str) (C : Addr) : Prop where
  g : mg x = some (.ref C)
  ex : PySem.W.excIn K C [.type "ValueError", .type "Exception", .type "BaseException", .type "object"] "ValueError.__new__" = true
  kp : PySem.W.keepIn K (.ref C) = true
  sb : PySem.W.subIn K (.ref C) (.type "BaseException") = some true
  ty : PySem.W.typeIn K (.ref C) = some (.type "type")
theorem ps_raiseX {X : Cx} {x m : Str} {C : Addr} {j : Nat} {W : WX} {p p2 p3 p4 : Pos} (T : ExcT X.K X.mg x C) (tk : L2N.Takes X W) (hg : Gl X x := by rfl) (hc : X.calm = true := by rfl) (hdb : (x == ("__debug__" : Str)) = false := by decide) :
    PS X (.Raise (some (.Call (.Name x p) [.Constant (.str m) j p2] [] p3)) none p4) (fun _ σ H => W (.ref C) none σ H) :=
  L2N.ps_raise hc tk (L2N.pmk_own PySem.F.excBase_ValueError T.ex T.g T.kp (raises_own T.sb T.ty) hg hdb)
theorem okN {P : Program} {w : World} {K : PySem.W.Frag} {mg : Str → Option Value} {base : Heap} {x qual : Str} {st : Stmt} {f : Addr} {fd : FuncData} {N ps : List Str} {k : Nat} {sp : Sp} (F : Fun K x qual st f fd) (S : FnScope N ps (defScope st)) (len : ∀ vs H Q E, sp vs H Q E → vs.length = ps.length)
    (hbody : ∀ (cdv : Value) (A : Around) (outer : List Env) (s : Shared) (H : Hp) (vs : List V) (Q : VK) (E : XK), Room k (A.deeper (envOfC qual (defScope st) s.heap.objs.size f cdv)) → sp vs H Q E →
      ∃ t, PSs (cxOf (L2N.CX P w) P w K mg base N qual (defScope st) f cdv A outer s H E) (defBody st) t ∧ t { nx := fun _ H' => Q .non H', rt := Q } (L2.start N vs) H) : FnOk P w K mg base (L2N.CX P w) (k + 1) f fd ps sp := by
  obtain ⟨oc, od, kV, doc, pm, an, cdv, ct, osl, rfl, lk, hcd⟩ := F.ex
  exact fn_of lk hcd S len fun A outer s H vs Q E room wish => hbody cdv A outer s H vs Q E room wish
structure DefX (P : Program) (w : World) (K : PySem.W.Frag) (mg : Str → Option Value) (base : Heap) (x : Str) (k : Nat) (ps : List Str) (sp : Sp) : Prop where
  ex : ∃ f fd, FnOk P w K mg base (L2N.CX P w) k f fd ps sp ∧ mg x = some (.ref f) ∧ PySem.W.keepIn K (.ref f) = true ∧ Binds K fd ps []
theorem pe_defX {X : Cx} {k j : Nat} {ps : List Str} {sp : Sp} {x : Str} {p pos : Pos} {e : Expr} {es : List Expr} {t : TA} {E : XK} (D : DefX X.prog X.w X.K X.mg X.base x k ps sp) (hr : Room j X.A) (tk : L2N.Takes X (fun cls d _ H => E cls d H)) (ha : PA X (e :: es) t) (hg : Gl X x := by rfl) (hl : k ≤ j := by decide)
    (hdb : (x == ("__debug__" : Str)) = false := by decide) (he : starEach (e :: es) X.env = (false, eval e X.env) :: starEach es X.env := by rfl) (hpl : (backTo pos (starEach es X.env)).any (·.1) = false := by rfl) :
    PE X (.Call (.Name x p) (e :: es) [] pos) (tCall sp [] E t) := by
  obtain ⟨f, fd, F, m, kp, b⟩ := D.ex
  exact pe_call F (hr.mono hl) hg m kp b .nil (L2N.passes_call tk fun _ _ _ _ h => h) ha hdb he hpl
/-- a def as a value: its promise goes with its address -/
structure HeldX (P : Program) (w : World) (K : PySem.W.Frag) (mg : Str → Option Value) (base : Heap) (k : Nat) (f : Addr) (sp : Sp) : Prop where
  ex : ∃ (fd : FuncData) (ps : List Str), FnOk P w K mg base (L2N.CX P w) k f fd ps sp ∧ PySem.W.keepIn K (.ref f) = true ∧ Binds K fd ps []
def tCallV (i : Nat) (S : Addr → Sp → Prop) (W : WX) (t : TA) : TE := fun σ H Q => ∃ f sp, σ[i]? = some (some (.ref f)) ∧ S f sp ∧ t σ H fun vs H1 => sp vs H1 Q (fun cls d H' => W cls d σ H')
theorem pe_callV {X : Cx} {k i : Nat} {x : Str} {p pos : Pos} {e : Expr} {es : List Expr} {t : TA} {W : WX} (hr : Room k X.A) (slot : X.N[i]? = some x) (vis : Vis X.env.scope x) (tk : L2N.Takes X W) (ha : PA X (e :: es) t)
    (hdb : (x == ("__debug__" : Str)) = false := by decide) (hcd : (x == ("__classdict__" : Str)) = false := by decide) (he : starEach (e :: es) X.env = (false, eval e X.env) :: starEach es X.env := by rfl) (hpl : (backTo pos (starEach es X.env)).any (·.1) = false := by rfl) :
    PE X (.Call (.Name x p) (e :: es) [] pos) (tCallV i (HeldX X.prog X.w X.K X.mg X.base k) W t) := by
  refine ⟨fun pins s σ H Q I h => ?_⟩
  obtain ⟨f, sp, at_, ⟨fd, ps, F, kp, b⟩, wish⟩ := h
  refine wpAny_Call_Name_kw (thn ((pe_var (pos := p) slot vis hdb hcd).run pins s σ H (fun v H1 => v = .ref f ∧ H = H1) I ⟨.ref f, at_, rfl, rfl⟩) fun u s1 got => ?_)
  obtain ⟨v, H1, I1, rel, rfl, rfl⟩ := got
  cases rel
  refine PySem.W.callWith_K (h₀ := X.base) I.ok.mod.kin kp (thn (ha.run pos pins s1 σ _ _ I1 wish) fun us s2 got => ?_) he hpl
  obtain ⟨vs, H2, I2, r, q⟩ := got
  exact ⟨I2.kIn, run_fnS (E := fun σ cls d H' => W cls d σ H') F hr b (L2N.passAt tk σ) I2 r q⟩
/-- isinstance(e, c), e the exception that the suite holds: its class is told by the wish -/
def rIsE2 (K : PySem.W.Frag) (cls : Value) (d : Option Addr) (a : Addr) : List V → Hp → VK → Prop := fun xs H Q => ∃ (C : Addr) (c : V) (cv : Value) (b : Bool), cls = .ref C ∧ d = none ∧ ExcC K C ∧ xs = [.ref a, c] ∧ (∀ u, RelV c u → u = cv) ∧ PySem.W.kitOne K (.ref C) cv = some b ∧ Q (.bl b) H
theorem call_isE2 {X : Cx} {a : Addr} {oe : Obj} {cls : Value} {d : Option Addr} {pn : List (Addr × Obj)} (z : L2N.Zn cls d oe) (f : ∃ vs, oe.data = .fields vs) : CallR (X.suite a ((a, oe) :: pn)) (.builtin "isinstance") (rIsE2 X.K cls d a) := by
  intro pins s σ H xs us Q I r h
  obtain ⟨C, c, cv, b, rfl, rfl, ex, rfl, one, e, q⟩ := h
  exact call_isE ex z.zc f pins s σ H _ us Q I r ⟨c, cv, b, rfl, one, e, q⟩
end FR
set_option maxHeartbeats 2000000
namespace FR
open PySem PySem.Spec PyProof.Rows L2
/-! ### rows of deeds -/
def deedD (n : Int) : PyData → Bool
  | .str x => decide (V.str x = V.str "ride")
  | d => withinD 0 (n - 1) d
def rowD (n : Int) : PyData → Bool
  | .list ds => decide (ds.length ≤ 100) && ds.all (deedD n)
  | _ => false
def canB (cs : List Int) (x : Int) (zs : List Int) : V → Bool
  | .str _ => decide (0 < x)
  | .int i => decide (cs.getD i.toNat 0 ≤ zs.getD i.toNat 0)
  | _ => false
theorem can_iff {cs zs : List Int} {x : Int} {v : V} (hl : zs.length = cs.length) (h : DeedV cs.length v) : Can cs x zs v ↔ canB cs x zs v = true := by
  rcases h with rfl | ⟨i, rfl, i0, i1⟩
  · constructor
    · rintro (⟨_, h⟩ | ⟨i, c, z, h, _⟩)
      · exact decide_eq_true h
      · exact nomatch h
    · intro h
      exact .inl ⟨rfl, of_decide_eq_true h⟩
  · obtain ⟨c, _, hc, _⟩ := at_int (ns := cs) (k := i) i0 i1
    obtain ⟨z, _, hz, _⟩ := at_int (ns := zs) (k := i) i0 (by omega)
    have e : canB cs x zs (.int i) = decide (c ≤ z) := by
      show decide (cs.getD i.toNat 0 ≤ zs.getD i.toNat 0) = _
      rw [List.getD_eq_getElem?_getD, List.getD_eq_getElem?_getD, hc, hz]
      rfl
    rw [e, decide_eq_true_eq]
    constructor
    · rintro (⟨h, _⟩ | ⟨i', c', z', h, _, h1, h2, h3⟩)
      · exact nomatch h
      · cases h
        rw [hc] at h1
        rw [hz] at h2
        cases h1
        cases h2
        exact h3
    · intro h
      exact .inr ⟨i, c, z, rfl, i0, hc, hz, h⟩
def stepO (cs : List Int) : Option (Int × List Int) → V → Option (Int × List Int)
  | none, _ => none
  | some (x, zs), v => if canB cs x zs v = true then some (aftX x v, aftS cs zs v) else none
def rowO (cs : List Int) (st : Option (Int × List Int)) (row : List V) : Option (Int × List Int) := row.foldl (stepO cs) st
def PurseO (K : PySem.W.Frag) (cs : List Int) (H : Hp) (v : V) : Option (Int × List Int) → Prop
  | none => v = .non
  | some (x, zs) => ∃ p, v = .ref p ∧ Purse K H p x zs ∧ zs.length = cs.length
def dataO : Option (Int × List Int) → PyData
  | none => .none
  | some (x, zs) => .tuple [.int x, .tuple (zs.map PyData.int)]
theorem PurseO.dp {K : PySem.W.Frag} {cs : List Int} {H : Hp} {v : V} : ∀ {o : Option (Int × List Int)}, PurseO K cs H v o → Dp K H v (dataO o)
  | none, h => (show v = .non from h) ▸ .non
  | some (x, zs), h => by
    obtain ⟨p, rfl, hp, _⟩ := h
    exact hp.dp
theorem dataO_shaped : ∀ o : Option (Int × List Int), SeqAt.shaped (dataO o) = true
  | none => shaped_non
  | some (x, zs) => due_shaped x zs
theorem dataO_eqv : ∀ o : Option (Int × List Int), PyData.eqv (dataO o) (dataO o) = true
  | none => eqv_non
  | some (x, zs) => due_eqv x zs
theorem PurseO.same {K : PySem.W.Frag} {cs : List Int} {H H' : Hp} {v : V} (s : Same H H') : ∀ {o : Option (Int × List Int)}, PurseO K cs H v o → PurseO K cs H' v o
  | none, h => h
  | some (x, zs), ⟨p, e, h, l⟩ => ⟨p, e, h.same s, l⟩
theorem PurseO.kp {K : PySem.W.Frag} {cs : List Int} {H H' : Hp} {v : V} (s : Kp H H') : ∀ {o : Option (Int × List Int)}, PurseO K cs H v o → PurseO K cs H' v o
  | none, h => h
  | some (x, zs), ⟨p, e, h, l⟩ => ⟨p, e, h.kp s, l⟩
theorem aftS_len {cs zs : List Int} {v : V} : (aftS cs zs v).length = zs.length := by
  unfold aftS
  split
  · rw [List.length_map]
  · rw [List.length_set]
  · rfl
theorem rowO_none (cs : List Int) : ∀ row : List V, rowO cs none row = none
  | [] => rfl
  | _ :: r => rowO_none cs r
theorem rowO_snoc {cs : List Int} {st : Option (Int × List Int)} {row : List V} {v : V} : rowO cs st (row ++ [v]) = stepO cs (rowO cs st row) v := by
  unfold rowO
  rw [List.foldl_append]
  rfl
theorem rowD_deeds {K : PySem.W.Frag} {H : Hp} {n : Nat} {ds : List PyData} {xs : List V} (hx : DpAll K H xs ds) (h : ds.all (deedD (n : Int)) = true) : ∀ v ∈ xs, DeedV n v := by
  intro v hv
  obtain ⟨i, hi, e⟩ := List.getElem_of_mem hv
  obtain ⟨d, hd, hp⟩ := dp_get hx (by rw [List.getElem?_eq_getElem hi, e])
  have h1 := List.all_eq_true.mp h d (List.mem_of_getElem? hd)
  cases hp with
  | str x =>
    have := of_decide_eq_true h1
    exact .inl this
  | int j =>
    have h2 : (decide (0 ≤ j) && decide (j ≤ (n : Int) - 1)) = true := h1
    rw [Bool.and_eq_true, decide_eq_true_eq, decide_eq_true_eq] at h2
    exact .inr ⟨j, rfl, h2.1, by omega⟩
  | non => exact nomatch h1
  | bl b => exact nomatch h1
  | lst _ _ => exact nomatch h1
  | tup _ _ => exact nomatch h1
end FR
set_option maxHeartbeats 2000000
namespace FR
open PySem PySem.Spec PyProof.Rows L2
/-! ### who is refused: the words, the classes at C 0, C 1, .. -/
def kinN : Nat → Str
  | 0 => "NoCards" | 1 => "NoPurse" | 2 => "NoStamps" | 3 => "NoRow" | 4 => "NoNumber" | 5 => "NoPurses" | 6 => "NoSeen" | 7 => "NoRide" | 8 => "NoKind" | 9 => "NoLoan" | _ => "NothingLeft"
/-- what is wished may be weakened -/
def MonoSp (sp : Sp) : Prop := ∀ (vs : List V) (H : Hp) (Q Q' : VK) (E E' : XK), sp vs H Q E → (∀ v H', Q v H' → Q' v H') → (∀ c d H', E c d H' → E' c d H') → sp vs H Q' E'
structure Kin (K : PySem.W.Frag) (mg : Str → Option Value) (C : Nat → Addr) (tf rd : Addr) : Prop where
  w : ∀ j, j < 11 → mg (kinN j) = some (.ref (C j))
  tf : mg "TooFew" = some (.ref tf)
  rd : mg "RideError" = some (.ref rd)
structure KinOf (K : PySem.W.Frag) (C : Nat → Addr) (tf rd : Addr) (i : Nat) : Prop where
  lt : i < 11
  ex : ExcC K (C i)
  k : ∀ j, j < 11 → PySem.W.kitOne K (.ref (C i)) (.ref (C j)) = some (decide (i = j))
  v : PySem.W.kitOne K (.ref (C i)) (.type "ValueError") = some true
  n : PySem.W.exmOne K (.ref (C i)) (.ref tf) = some false
  y : PySem.W.exmOne K (.ref (C i)) (.ref rd) = some true
/-- isinstance(e, the j-th class), e in slot 5 -/
def tIs (K : PySem.W.Frag) (C : Nat → Addr) (a : Addr) (cls : Value) (d : Option Addr) (j : Nat) : TE := tCB (rIsE2 K cls d a) (tCons (tVar 5) (tCons (tC (.ref (C j))) tNil))
def tPr (K : PySem.W.Frag) (C : Nat → Addr) (a : Addr) (cls : Value) (d : Option Addr) (x : Str) (j : Nat) : TE := tTup (tCons (tC (.str x)) (tCons (tIs K C a cls d j) tNil))
/-- what the pair of a word is -/
theorem pr_rd {K : PySem.W.Frag} {C : Nat → Addr} {tf rd a : Addr} {i j : Nat} {x : Str} {σ : L2.St} {H : Hp} {Q : VK} (T : KinOf K C tf rd i) (hj : j < 11) (e : σ[5]? = some (some (.ref a))) (q : ∀ t, H t = none → Q (.ref t) (upd H t (.tup [.str x, .bl (decide (i = j))]))) : tPr K C a (.ref (C i)) none x j σ H Q :=
  ⟨_, e, C i, .ref (C j), .ref (C j), _, rfl, rfl, T.ex, rfl, fun _ r => r, T.k j hj, (by show 2 ≤ sizeLine; decide), q⟩
/-- the words, each beside whether it is so -/
def tWords (K : PySem.W.Frag) (C : Nat → Addr) (a : Addr) (cls : Value) (d : Option Addr) (kin : TE) : TS :=
  tSeq (tAsg (tLst (tCons (tPr K C a cls d "NoCards" 0) (tCons (tPr K C a cls d "NoPurse" 1) tNil))) (gName 6))
  (tSeq (tAsg (tOp rCat (tVar 6) (tLst (tCons (tPr K C a cls d "NoStamps" 2) tNil))) (gName 6))
  (tSeq (tAsg (tOp rCat (tVar 6) (tLst (tCons (tPr K C a cls d "NoRow" 3) (tCons (tPr K C a cls d "NoNumber" 4) tNil)))) (gName 6))
  (tSeq (tAsg (tOp rCat (tVar 6) (tLst (tCons (tPr K C a cls d "NoPurses" 5) (tCons (tPr K C a cls d "NoSeen" 6) tNil)))) (gName 6))
  (tSeq (tAsg (tOp rCat (tVar 6) (tLst (tCons (tPr K C a cls d "NoRide" 7) (tCons (tPr K C a cls d "NoKind" 8) tNil)))) (gName 6))
  (tSeq (tAsg (tOp rCat (tVar 6) (tLst (tCons (tPr K C a cls d "NoLoan" 9) tNil))) (gName 6))
  (tSeq (tDrop (tBM K "list" rAppend (tVar 6) (tCons (tPr K C a cls d "NothingLeft" 10) tNil)))
  (tAsg kin (gName 4))))))))
def tLcH (cls : Value) (wi : TI) (g : TG) (tt : TT) (te : TE) (vs : List Nat) : TE := fun σ H Q => (∃ C, cls = .ref C) ∧ tLc wi g tt te vs σ H Q
theorem pe_lcH2 {X : Cx} {a : Addr} {oe : Obj} {cls : Value} {d : Option Addr} {pn : List (Addr × Obj)} {elt tg l : Expr} {ifs : List Expr} {scope : Scope} {own : List (Str × Nat)} {pos : Pos} {tl : TE} {g : TG} {tt : TT} {te : TE} (z : L2N.Zn cls d oe) (f : ∃ vs, oe.data = .fields vs) (stk : X.stack = X.env :: X.outer) (frame : X.env.frame = some X.env.locals) (nd : X.N.Nodup)
    (hl : PE (X.suite a ((a, oe) :: pn)) l tl) (ok : BlkOk X.N X.env.scope scope own) (hg : ∀ (s : Shared) (H : Hp) (C : Addr) (cl : List (Str × Addr)) (fp : List Addr), Warm ((X.suite a ((a, oe) :: pn)).blk s H scope (compEnvC scope cl C X.env) fp) → PG ((X.suite a ((a, oe) :: pn)).blk s H scope (compEnvC scope cl C X.env) fp) tg g)
    (ht : ∀ (s : Shared) (H : Hp) (C : Addr) (cl : List (Str × Addr)) (fp : List Addr), PTs ((X.suite a ((a, oe) :: pn)).blk s H scope (compEnvC scope cl C X.env) fp) ifs tt) (he : ∀ (s : Shared) (H : Hp) (C : Addr) (cl : List (Str × Addr)) (fp : List Addr), PE ((X.suite a ((a, oe) :: pn)).blk s H scope (compEnvC scope cl C X.env) fp) elt te)
    (fold : ∀ x, foldedSetIterable l X.env x = pure x := by intro _; rfl) : PE (X.suite a ((a, oe) :: pn)) (.ListComp elt [⟨tg, l, ifs, 0⟩] scope pos) (tLcH cls (iList X.K tl) g tt te (own.map (·.2))) := by
  refine ⟨fun pins s σ H Q I h => ?_⟩
  obtain ⟨⟨C, rfl⟩, h⟩ := h
  exact (pe_lcH (X := X.suite a ((a, oe) :: pn)) (warm_suite z f) stk frame nd hl ok hg ht he fold).run pins s σ H Q I h
def tKin (K : PySem.W.Frag) (a : Addr) (cls : Value) (d : Option Addr) : TE :=
  tOp rCat (tLcH cls (iList K (tVar 6)) (gTup K 2 (gCons (gName 7) (gCons (gName 8) gNil))) (tB (tVar 8)) (tVar 7) [7, 8]) (tLst (tCons (tCB (rIsE2 K cls d a) (tCons (tVar 5) (tCons (tC (.ty "ValueError")) tNil))) tNil))
end FR
namespace FR
open PySem PySem.Spec PyProof.Rows L2
/-- the words that are so, and whether it is a ValueError -/
theorem kin_rd {K : PySem.W.Frag} {C : Nat → Addr} {tf rd a w : Addr} {i : Nat} {s0 s1 s2 s3 s4 s7 s8 : Option V} {Hf : Hp} {words : List V} {D : Ends} (T : KinOf K C tf rd i) (ew : Hf w = some (.lst words)) (len : words.length = 11)
    (hall : ∀ (k : Nat) (x : V), words[k]? = some x → ∃ t, x = .ref t ∧ Hf t = some (.tup [.str (kinN k), .bl (decide (i = k))]))
    (q : ∀ p H'', Same Hf H'' → H'' p = some (.lst [.str (kinN i), .bl true]) → D.nx [s0, s1, s2, s3, some (.ref p), some (.ref a), some (.ref w), s7, s8] H'') :
    tAsg (tKin K a (.ref (C i)) none) (gName 4) D [s0, s1, s2, s3, s4, some (.ref a), some (.ref w), s7, s8] Hf := by
  have lt := T.lt
  refine ⟨⟨C i, rfl⟩, _, rfl, w, rfl, ⟨_, SqL.of ew⟩, fun L nL => ?_⟩
  refine lc_list (K := K) (a := w) (xs := words) (fun k H' => Same Hf H' ∧ H' L = some (.lst (if i < k then [.str (kinN i)] else []))) ?_ ?_ ?_ ?_
  · exact ⟨same_new (.refl Hf) nL, by rw [upd_same, if_neg (by omega)]⟩
  · rintro k H' hk ⟨sm, e⟩
    exact SqL.of (sm _ _ ew)
  · rintro k x H' hk ⟨sm, e⟩
    obtain ⟨t, rfl, et⟩ := hall k x hk
    refine ⟨t, _, rfl, SqT.of (sm _ _ et), rfl, _, _, rfl, _, _, rfl, rfl, rfl, _, rfl, _, rfl, ite2 (fun c => ?_) (fun c => ?_)⟩
    · have c' := of_decide_eq_true c
      subst c'
      rw [if_neg (by omega)] at e
      refine ⟨_, rfl, _, e, (by show 0 < sizeLine; decide), same_fresh sm nL, ?_⟩
      rw [upd_same, if_pos (by omega)]
      rfl
    · have c' : ¬ i = k := fun z => c (decide_eq_true z)
      refine ⟨sm, ?_⟩
      rw [e]
      by_cases z : i < k
      · rw [if_pos z, if_pos (by omega)]
      · rw [if_neg z, if_neg (by omega)]
  · rintro H' ⟨sm, e⟩
    rw [len, if_pos lt] at e
    refine ⟨_, rfl, C i, .ty "ValueError", .type "ValueError", true, rfl, rfl, T.ex, rfl, fun _ r => r, T.v, (by show 1 ≤ sizeLine; decide), fun v nv => ?_⟩
    have s1 := same_upd (o := .lst [.bl true]) nv
    refine ⟨L, v, _, _, rfl, rfl, s1 _ _ e, upd_same, (by show 2 ≤ sizeLine; decide), fun p np => ?_⟩
    exact q p _ (same_new (sm.trans s1) np) upd_same
end FR
namespace FR
open PySem PySem.Spec PyProof.Rows L2
/-- a def that may raise, called where it is known not to -/
theorem pe_defX0 {X : Cx} {k j : Nat} {ps : List Str} {sp : Sp} {x : Str} {p pos : Pos} {e : Expr} {es : List Expr} {t : TA} (D : DefX X.prog X.w X.K X.mg X.base x k ps sp) (hr : Room j X.A) (ha : PA X (e :: es) t) (hg : Gl X x := by rfl) (hl : k ≤ j := by decide)
    (hdb : (x == ("__debug__" : Str)) = false := by decide) (he : starEach (e :: es) X.env = (false, eval e X.env) :: starEach es X.env := by rfl) (hpl : (backTo pos (starEach es X.env)).any (·.1) = false := by rfl) :
    PE X (.Call (.Name x p) (e :: es) [] pos) (tCall sp [] E0 t) := by
  obtain ⟨f, fd, F, m, kp, b⟩ := D.ex
  refine pe_call F (hr.mono hl) hg m kp b .nil (fun _ _ _ _ _ _ _ h => ?_) ha hdb he hpl
  obtain ⟨_, _, _, _, _, _, _, _, _, _, _, _, z⟩ := h
  exact z.elim
theorem deeds_eqv {n : Nat} {xs : List V} (h : ∀ v ∈ xs, DeedV n v) : PyData.eqv (.list (xs.map dD)) (.list (xs.map dD)) = true := SeqAt.eqv_refl _ (by rw [PyData.canLay0]; exact (deeds_lay h).1)
theorem deeds_row {n : Nat} : ∀ {xs : List V}, (∀ v ∈ xs, DeedV n v) → (xs.map dD).all (deedD (n : Int)) = true
  | [], _ => rfl
  | v :: r, h => by
    have h1 := deeds_row (n := n) (xs := r) (fun x hx => h x (List.mem_cons_of_mem _ hx))
    rw [List.map_cons, List.all_cons, h1, Bool.and_true]
    rcases h v (List.mem_cons_self ..) with rfl | ⟨i, rfl, i0, i1⟩
    · show decide (V.str "ride" = V.str "ride") = true
      exact decide_eq_true rfl
    · show (decide (0 ≤ i) && decide (i ≤ (n : Int) - 1)) = true
      rw [decide_eq_true i0, decide_eq_true (by omega)]
      rfl
theorem rowD_of {n : Nat} {xs : List V} (h : ∀ v ∈ xs, DeedV n v) (l : xs.length ≤ 100) : rowD (n : Int) (.list (xs.map dD)) = true := by
  show (decide ((xs.map dD).length ≤ 100) && (xs.map dD).all (deedD (n : Int))) = true
  rw [List.length_map, decide_eq_true l, deeds_row h]
  rfl
theorem norow_shaped : SeqAt.shaped (.list [.str "NoRow", .bool true]) = true := by
  unfold SeqAt.shaped
  rw [PyData.canLay0, PyData.canLayAll0, PyData.canLayAll0, PyData.canLayAll0, PyData.depth, PyData.depthAll, PyData.depthAll, PyData.depthAll, PyData.canLay0, PyData.canLay0, PyData.depth, PyData.depth]
  decide +kernel
theorem norow_eqv : PyData.eqv (.list [.str "NoRow", .bool true]) (.list [.str "NoRow", .bool true]) = true := SeqAt.eqv_refl _ (by
  have := norow_shaped
  unfold SeqAt.shaped at this
  exact (Bool.and_eq_true_iff.mp this).1)
end FR
namespace FR
open PySem PySem.Spec PyProof.Rows L2
/-- a list is changed: tuples stay -/
theorem sqT_upd {K : PySem.W.Frag} {H : Hp} {a l : Addr} {xs ys : List V} {o : HO} (h : SqT K H a xs) (e : H l = some (.lst ys)) : SqT K (upd H l o) a xs := by
  rcases h with (h | ⟨ob, h⟩) | h
  · exact .inl (.inl (by rw [upd_ne (ne_of h e (fun z => nomatch z))]; exact h))
  · exact .inl (.inr ⟨ob, by rw [upd_ne (ne_of h e (fun z => nomatch z))]; exact h⟩)
  · exact .inr h
theorem PurseO.updL {K : PySem.W.Frag} {cs : List Int} {H : Hp} {l : Addr} {ys : List V} {o : HO} {v : V} (e : H l = some (.lst ys)) : ∀ {u : Option (Int × List Int)}, PurseO K cs H v u → PurseO K cs (upd H l o) v u
  | none, h => h
  | some (x, zs), ⟨p, e1, ⟨s, h1, h2⟩, l'⟩ => ⟨p, e1, ⟨s, sqT_upd h1 e, sqT_upd h2 e⟩, l'⟩
theorem deedsE_none {xs : List V} (h : xs = []) : PyData.eqv (.list (xs.map dD)) (.list []) = true := by
  have := deeds_none h
  rwa [Bool.not_eq_false'] at this
theorem deedsE_some {xs : List V} (h : xs ≠ []) : PyData.eqv (.list (xs.map dD)) (.list []) = false := by
  have := deeds_some h
  rwa [Bool.not_eq_true'] at this
theorem stepO_no {cs zs : List Int} {x : Int} {v : V} (hl : zs.length = cs.length) (h : DeedV cs.length v) (n : ¬ Can cs x zs v) : stepO cs (some (x, zs)) v = none := by
  show (if canB cs x zs v = true then _ else none) = none
  rw [if_neg (fun z => n ((can_iff hl h).mpr z))]
theorem stepO_yes {cs zs : List Int} {x : Int} {v : V} (hl : zs.length = cs.length) (h : DeedV cs.length v) (n : Can cs x zs v) : stepO cs (some (x, zs)) v = some (aftX x v, aftS cs zs v) := by
  show (if canB cs x zs v = true then _ else none) = _
  rw [if_pos ((can_iff hl h).mp n)]
end FR
namespace FR
open PySem PySem.Spec PyProof.Rows L2
/-- what is no row -/
theorem bads_all {K : PySem.W.Frag} {H : Hp} {n : Nat} {t1 t2 t3 t4 t5 t6 t8 t10 t11 : Addr} (e1 : H t1 = some (.tup [.str "ride"])) (e2 : H t2 = some (.lst [.str "Ride"])) (e3 : H t3 = some (.lst [.int (n : Int)])) (e4 : H t4 = some (.lst [.int (-1)])) (e5 : H t5 = some (.lst [.non])) (e6 : H t6 = some (.lst [.bl false]))
    (e8 : H t8 = some (.lst (List.replicate 101 [V.str "ride"]).flatten)) (e10 : H t10 = some (.tup [.str "ride"])) (e11 : H t11 = some (.lst [.ref t10])) : ∀ x ∈ ([.non, .ref t1, .ref t2, .ref t3, .ref t4, .ref t5, .ref t6, .ref t8, .str "ride", .ref t11] : List V), ∃ d, Dp K H x d ∧ rowD (n : Int) d = false := by
  intro x hx
  simp only [List.mem_cons, List.not_mem_nil, or_false] at hx
  rcases hx with rfl | rfl | rfl | rfl | rfl | rfl | rfl | rfl | rfl | rfl
  · exact ⟨_, .non, rfl⟩
  · exact ⟨_, .tup (SqT.of e1) (.cons (.str _) .nil), rfl⟩
  · refine ⟨_, .lst (SqL.of e2) (.cons (.str _) .nil), ?_⟩
    show (decide (1 ≤ 100) && (decide (V.str "Ride" = V.str "ride") && true)) = false
    decide +kernel
  · refine ⟨_, .lst (SqL.of e3) (.cons (.int _) .nil), ?_⟩
    show (decide (1 ≤ 100) && ((decide (0 ≤ (n : Int)) && decide ((n : Int) ≤ (n : Int) - 1)) && true)) = false
    rw [decide_eq_false (show ¬ (n : Int) ≤ (n : Int) - 1 by omega), Bool.and_false, Bool.false_and, Bool.and_false]
  · exact ⟨_, .lst (SqL.of e4) (.cons (.int _) .nil), rfl⟩
  · exact ⟨_, .lst (SqL.of e5) (.cons .non .nil), rfl⟩
  · exact ⟨_, .lst (SqL.of e6) (.cons (.bl _) .nil), rfl⟩
  · refine ⟨_, .lst (SqL.of e8) (deeds_dp (n := n) fun v hv => ?_), ?_⟩
    · obtain ⟨l, hl, hv'⟩ := List.mem_flatten.mp hv
      rw [List.eq_of_mem_replicate hl] at hv'
      exact .inl (List.mem_singleton.mp hv')
    · show (decide (((List.replicate 101 [V.str "ride"]).flatten.map dD).length ≤ 100) && ((List.replicate 101 [V.str "ride"]).flatten.map dD).all (deedD (n : Int))) = false
      rw [List.length_map, decide_eq_false (by decide +kernel), Bool.false_and]
  · exact ⟨_, .str _, rfl⟩
  · exact ⟨_, .lst (SqL.of e11) (.cons (.tup (SqT.of e10) (.cons (.str _) .nil)) .nil), rfl⟩
end FR
set_option maxHeartbeats 2000000
namespace FR
open PySem PySem.Spec PyProof.Rows L2
/-! ### the end: defs that raise, classes -/
theorem FunAt.defX {P : Program} {w : World} {K : PySem.W.Frag} {mg : Str → Option Value} {base : Heap} {x : Str} {st : Stmt} {k : Nat} {ps : List Str} {sp : Sp} (F : FunAt K mg x st) (ok : ∀ f fd, Fun K x x st f fd → FnOk P w K mg base (L2N.CX P w) k f fd ps sp)
    (h : ∀ (kV doc pm : Value) (an : Option Addr) (cdv ct : Value) (us : List Value), us.length = ps.length → bindArgs (PySem.W.fnOf x x (defArgs st) (defBody st) (defScope st) .none kV doc pm an cdv ct) ⟨us, []⟩ = pure (ps.zip us)) : DefX P w K mg base x k ps sp := by
  obtain ⟨f, fd, F, m⟩ := F
  exact ⟨f, fd, ok f fd F, m, F.kp, F.binds h⟩
theorem DefX.held {P : Program} {w : World} {K : PySem.W.Frag} {mg : Str → Option Value} {base : Heap} {x : Str} {k j : Nat} {ps : List Str} {sp : Sp} (D : DefX P w K mg base x k ps sp) (h : k ≤ j) : ∃ f, mg x = some (.ref f) ∧ HeldX P w K mg base j f sp := by
  obtain ⟨f, fd, F, m, kp, b⟩ := D.ex
  exact ⟨f, m, fd, ps, F.mono h, kp, b⟩
def ExcAtX {K : PySem.W.Frag} {h : Heap} (_ : K.In h) (mg : Str → Option Value) (x : Str) : Prop := ∃ C, ExcT K mg x C
theorem excT_mk {K : PySem.W.Frag} {h : Heap} {mg : Str → Option Value} {x : Str} {C : Addr} (X : K.In h) (G : h.Ns mainGlobals mg) (a1 : PySem.W.nsIn K mainGlobals x = some (some (.ref C))) (ex : PySem.W.excIn K C [.type "ValueError", .type "Exception", .type "BaseException", .type "object"] "ValueError.__new__" = true)
    (kp : PySem.W.keepIn K (.ref C) = true) (sb : PySem.W.subIn K (.ref C) (.type "BaseException") = some true) (ty : PySem.W.typeIn K (.ref C) = some (.type "type")) : ExcAtX X mg x := ⟨C, PySem.W.mg_of X G a1, ex, kp, sb, ty⟩
theorem sglob_mk {K : PySem.W.Frag} {h : Heap} {mg : Str → Option Value} {x n : Str} {v : Value} (X : K.In h) (G : h.Ns mainGlobals mg) (z : PySem.W.nsIn K mainGlobals x = some (some v)) (e : ∃ t, v = .str n t) : ∃ t, mg x = some (.str n t) := by
  obtain ⟨t, rfl⟩ := e
  exact ⟨t, PySem.W.mg_of X G z⟩
/-- an own class asked for by isinstance -/
theorem kit_ref {K : PySem.W.Frag} {C D : Addr} {b : Bool} (hd : PySem.W.hasDictIn K C = true) (ht : PySem.W.typeIn K (.ref C) = some (.type "type")) (h : PySem.W.subIn K (.ref D) (.ref C) = some b) (hs : PySem.W.subIn K (.ref D) (.ref D) = some true) : PySem.W.kitOne K (.ref D) (.ref C) = some b := by
  unfold PySem.W.kitOne
  by_cases q : (Value.ref D == Value.ref C) = true
  · have e : D = C := Value.ref.inj (beq_iff_eq.mp q)
    subst e
    rw [if_pos q]
    exact hs.symm.trans h
  · rw [if_neg q]
    obtain ⟨cd, hc, _⟩ := PySem.W.any_some hd
    show (if ((PySem.W.clsIn K C).isSome && PySem.W.typeIn K (.ref C) == some (.type "type")) = true then PySem.W.subIn K (.ref D) (.ref C) else none) = some b
    have e2 : ((PySem.W.clsIn K C).isSome && PySem.W.typeIn K (.ref C) == some (.type "type")) = true := by rw [hc, ht] <;> rfl
    rw [if_pos e2]
    exact h
def cOf (c0 c1 c2 c3 c4 c5 c6 c7 c8 c9 c10 : Addr) : Nat → Addr
  | 0 => c0 | 1 => c1 | 2 => c2 | 3 => c3 | 4 => c4 | 5 => c5 | 6 => c6 | 7 => c7 | 8 => c8 | 9 => c9 | _ => c10
theorem kin_mk {K : PySem.W.Frag} {h : Heap} {mg : Str → Option Value} {c0 c1 c2 c3 c4 c5 c6 c7 c8 c9 c10 tf rd : Addr} (X : K.In h) (G : h.Ns mainGlobals mg)
    (a0 : PySem.W.nsIn K mainGlobals "NoCards" = some (some (.ref c0)))
    (a1 : PySem.W.nsIn K mainGlobals "NoPurse" = some (some (.ref c1)))
    (a2 : PySem.W.nsIn K mainGlobals "NoStamps" = some (some (.ref c2)))
    (a3 : PySem.W.nsIn K mainGlobals "NoRow" = some (some (.ref c3)))
    (a4 : PySem.W.nsIn K mainGlobals "NoNumber" = some (some (.ref c4)))
    (a5 : PySem.W.nsIn K mainGlobals "NoPurses" = some (some (.ref c5)))
    (a6 : PySem.W.nsIn K mainGlobals "NoSeen" = some (some (.ref c6)))
    (a7 : PySem.W.nsIn K mainGlobals "NoRide" = some (some (.ref c7)))
    (a8 : PySem.W.nsIn K mainGlobals "NoKind" = some (some (.ref c8)))
    (a9 : PySem.W.nsIn K mainGlobals "NoLoan" = some (some (.ref c9)))
    (a10 : PySem.W.nsIn K mainGlobals "NothingLeft" = some (some (.ref c10)))
    (atf : PySem.W.nsIn K mainGlobals "TooFew" = some (some (.ref tf))) (ard : PySem.W.nsIn K mainGlobals "RideError" = some (some (.ref rd))) : Kin K mg (cOf c0 c1 c2 c3 c4 c5 c6 c7 c8 c9 c10) tf rd := by
  refine ⟨fun j hj => ?_, PySem.W.mg_of X G atf, PySem.W.mg_of X G ard⟩
  match j, hj with
  | 0, _ => exact PySem.W.mg_of X G a0
  | 1, _ => exact PySem.W.mg_of X G a1
  | 2, _ => exact PySem.W.mg_of X G a2
  | 3, _ => exact PySem.W.mg_of X G a3
  | 4, _ => exact PySem.W.mg_of X G a4
  | 5, _ => exact PySem.W.mg_of X G a5
  | 6, _ => exact PySem.W.mg_of X G a6
  | 7, _ => exact PySem.W.mg_of X G a7
  | 8, _ => exact PySem.W.mg_of X G a8
  | 9, _ => exact PySem.W.mg_of X G a9
  | 10, _ => exact PySem.W.mg_of X G a10
theorem kinOf_mk {K : PySem.W.Frag} {c0 c1 c2 c3 c4 c5 c6 c7 c8 c9 c10 tf rd ci : Addr} {i : Nat} (lt : i < 11) (hc : cOf c0 c1 c2 c3 c4 c5 c6 c7 c8 c9 c10 i = ci)
    (hg : PySem.W.findIn K (.ref ci) "__getattribute__" = some (some (.builtin "BaseException.__getattribute__"))) (hk : PySem.W.findIn K (.ref ci) "__getattr__" = some none) (hs : PySem.W.subIn K (.ref ci) (.type "BaseException") = some true) (hd : PySem.W.hasDictIn K ci = true)
    (ha : PySem.W.findIn K (.ref ci) "__class__" = some (some (.builtin "object.__class__"))) (hn : PySem.W.specialIn K (.builtin "object.__class__") "__get__" = some (some (.builtin "getset_descriptor.__get__"))) (ht : PySem.W.takesIn K (.builtin "object.__class__") = some true) (hm : PySem.W.mroIn K ci (.type "object") = some true)
    (me : PySem.W.subIn K (.ref ci) (.ref ci) = some true) (sv : PySem.W.subIn K (.ref ci) (.type "ValueError") = some true)
    (d0 : PySem.W.hasDictIn K c0 = true) (t0 : PySem.W.typeIn K (.ref c0) = some (.type "type")) (s0 : PySem.W.subIn K (.ref ci) (.ref c0) = some (decide (i = 0)))
    (d1 : PySem.W.hasDictIn K c1 = true) (t1 : PySem.W.typeIn K (.ref c1) = some (.type "type")) (s1 : PySem.W.subIn K (.ref ci) (.ref c1) = some (decide (i = 1)))
    (d2 : PySem.W.hasDictIn K c2 = true) (t2 : PySem.W.typeIn K (.ref c2) = some (.type "type")) (s2 : PySem.W.subIn K (.ref ci) (.ref c2) = some (decide (i = 2)))
    (d3 : PySem.W.hasDictIn K c3 = true) (t3 : PySem.W.typeIn K (.ref c3) = some (.type "type")) (s3 : PySem.W.subIn K (.ref ci) (.ref c3) = some (decide (i = 3)))
    (d4 : PySem.W.hasDictIn K c4 = true) (t4 : PySem.W.typeIn K (.ref c4) = some (.type "type")) (s4 : PySem.W.subIn K (.ref ci) (.ref c4) = some (decide (i = 4)))
    (d5 : PySem.W.hasDictIn K c5 = true) (t5 : PySem.W.typeIn K (.ref c5) = some (.type "type")) (s5 : PySem.W.subIn K (.ref ci) (.ref c5) = some (decide (i = 5)))
    (d6 : PySem.W.hasDictIn K c6 = true) (t6 : PySem.W.typeIn K (.ref c6) = some (.type "type")) (s6 : PySem.W.subIn K (.ref ci) (.ref c6) = some (decide (i = 6)))
    (d7 : PySem.W.hasDictIn K c7 = true) (t7 : PySem.W.typeIn K (.ref c7) = some (.type "type")) (s7 : PySem.W.subIn K (.ref ci) (.ref c7) = some (decide (i = 7)))
    (d8 : PySem.W.hasDictIn K c8 = true) (t8 : PySem.W.typeIn K (.ref c8) = some (.type "type")) (s8 : PySem.W.subIn K (.ref ci) (.ref c8) = some (decide (i = 8)))
    (d9 : PySem.W.hasDictIn K c9 = true) (t9 : PySem.W.typeIn K (.ref c9) = some (.type "type")) (s9 : PySem.W.subIn K (.ref ci) (.ref c9) = some (decide (i = 9)))
    (d10 : PySem.W.hasDictIn K c10 = true) (t10 : PySem.W.typeIn K (.ref c10) = some (.type "type")) (s10 : PySem.W.subIn K (.ref ci) (.ref c10) = some (decide (i = 10)))
    (dtf : PySem.W.hasDictIn K tf = true) (ttf : PySem.W.typeIn K (.ref tf) = some (.type "type")) (btf : PySem.W.subIn K (.ref tf) (.type "BaseException") = some true) (stf : PySem.W.subIn K (.ref ci) (.ref tf) = some false)
    (drd : PySem.W.hasDictIn K rd = true) (trd : PySem.W.typeIn K (.ref rd) = some (.type "type")) (brd : PySem.W.subIn K (.ref rd) (.type "BaseException") = some true) (srd : PySem.W.subIn K (.ref ci) (.ref rd) = some true) : KinOf K (cOf c0 c1 c2 c3 c4 c5 c6 c7 c8 c9 c10) tf rd i := by
  subst hc
  refine ⟨lt, ⟨hg, hk, hs, hd, ha, hn, ht, hm⟩, fun j hj => ?_, ?_, PySem.W.exm_ref btf dtf ttf stf, PySem.W.exm_ref brd drd trd srd⟩
  · match j, hj with
    | 0, _ => exact kit_ref d0 t0 s0 me
    | 1, _ => exact kit_ref d1 t1 s1 me
    | 2, _ => exact kit_ref d2 t2 s2 me
    | 3, _ => exact kit_ref d3 t3 s3 me
    | 4, _ => exact kit_ref d4 t4 s4 me
    | 5, _ => exact kit_ref d5 t5 s5 me
    | 6, _ => exact kit_ref d6 t6 s6 me
    | 7, _ => exact kit_ref d7 t7 s7 me
    | 8, _ => exact kit_ref d8 t8 s8 me
    | 9, _ => exact kit_ref d9 t9 s9 me
    | 10, _ => exact kit_ref d10 t10 s10 me
  · unfold PySem.W.kitOne
    rw [if_neg (by intro q; exact nomatch beq_iff_eq.mp q)]
    unfold PySem.W.kitCls
    dsimp only
    rw [if_pos (by decide +kernel)]
    exact sv
def KinL (K : PySem.W.Frag) (C : Nat → Addr) (tf rd : Addr) : List Nat → Prop
  | [] => True
  | i :: is => KinOf K C tf rd i ∧ KinL K C tf rd is
theorem kinL_nil {K : PySem.W.Frag} {C : Nat → Addr} {tf rd : Addr} : KinL K C tf rd [] := trivial
theorem kinL_cons {K : PySem.W.Frag} {C : Nat → Addr} {tf rd : Addr} {i : Nat} {is : List Nat} (h : KinOf K C tf rd i) (t : KinL K C tf rd is) : KinL K C tf rd (i :: is) := ⟨h, t⟩
def KinAtX {K : PySem.W.Frag} {h : Heap} (_ : K.In h) (mg : Str → Option Value) (is : List Nat) : Prop := ∃ C tf rd, Kin K mg C tf rd ∧ KinL K C tf rd is
theorem kinAt_mk {K : PySem.W.Frag} {h : Heap} {mg : Str → Option Value} {is : List Nat} {C : Nat → Addr} {tf rd : Addr} (X : K.In h) (a : Kin K mg C tf rd) (b : KinL K C tf rd is) : KinAtX X mg is := ⟨C, tf, rd, a, b⟩
end FR
set_option maxHeartbeats 2000000
namespace FR
open PySem PySem.Spec PyProof.Rows L2 LamX NdefX
/-! ### lambdas with parameters, which capture nothing -/
/-- at f stands a lambda: F tells its words, b its body -/
def LamO (f : Addr) (F : NF) (b : Expr) : HO := .ext fun h => ∃ (od : Option Addr) (sl : Array (Option Value)) (pm ctv : Value), h.get? f = some (⟨.type "function", od, .func (PySem.W.kla_fn "<lambda>" F.qual F.params b F.scope F.cl pm (.ref F.c) ctv), sl⟩ : Obj)
theorem lamO_ne {f : Addr} {F : NF} {b : Expr} (ps : Array Value) : LamO f F b ≠ .tbl ps := by
  intro z
  unfold LamO at z
  exact nomatch z
theorem lamO_get {P : Program} {w : World} {H : Hp} {h : Heap} {f : Addr} {F : NF} {b : Expr} (ok : HOk P w H h) (e : H f = some (LamO f F b)) : ∃ (od : Option Addr) (sl : Array (Option Value)) (pm ctv : Value), h.get? f = some (⟨.type "function", od, .func (PySem.W.kla_fn "<lambda>" F.qual F.params b F.scope F.cl pm (.ref F.c) ctv), sl⟩ : Obj) :=
  (ok f _ e).1
theorem inv_lamO {X : Cx} {pins : List (Addr × Obj)} {σ : L2.St} {H : Hp} {s : Shared} {F : NF} {b : Expr} {tk : Nat} {pm ctv : Value} (I : Inv X pins σ H s) :
    Inv X pins σ (upd H s.heap.objs.size (LamO s.heap.objs.size F b)) { s with heap := s.heap.push (PySem.W.kla_obj "<lambda>" F.qual F.params b F.scope F.cl pm F.c ctv), toks := tk } := by
  have at_ : (s.heap.push (PySem.W.kla_obj "<lambda>" F.qual F.params b F.scope F.cl pm F.c ctv)).get? s.heap.objs.size = some (PySem.W.kla_obj "<lambda>" F.qual F.params b F.scope F.cl pm F.c ctv) := Heap.get?_push_size _ rfl
  refine I.laid (a := s.heap.objs.size) (fun _ _ e => Heap.get?_push_of_some _ e) (Nat.le_refl _) ⟨⟨_, _, pm, ctv, at_⟩, ⟨_, at_⟩, ?_⟩
  rintro h1 h2 ⟨od, sl, p', t', z⟩ st
  exact ⟨od, sl, p', t', st _ z⟩
theorem clo_nil {cells : List (Str × Addr)} {names : List (Str × NameKind)} (nf : ∀ y ∈ names, y.2 ≠ .free) : cloFrom cells names [] = [] := by
  refine List.eq_nil_iff_forall_not_mem.mpr ?_
  rintro ⟨n, c⟩ hm
  rcases cloFrom_mem hm with z | ⟨z, _⟩
  · exact nomatch z
  · exact nf _ z rfl
/-- what a lambda's making leaves -/
theorem lam_lay {X : Cx} {pins : List (Addr × Obj)} {σ : L2.St} {H : Hp} {s : Shared} {T : List (Addr × Str)} {c P : Addr} {params : Arguments} {b : Expr} {scope : Scope} {pos : Pos} {E : Value → Shared → Prop} {Q : Value → Shared → Prop} (I : Inv X pins σ H s) (TB : TabB X.base X.mg c P) (code : X.env.code = .ref c)
    (mem : (P, X.env.qual ++ "<lambda>") ∈ T) (one : ∀ p ∈ T, p.1 = P → p.2 = X.env.qual ++ "<lambda>") (tabs : Tabs T H) (dflt : defaultsOf params X.env = ([], [])) (nf : ∀ y ∈ scope.names, y.2 ≠ .free)
    (go : ∀ (f c' : Addr) (H1 : Hp) (s' : Shared), Inv X pins σ H1 s' → ExtN H H1 → Tabs T H1 → H f = none → H1 f = some (LamO f ⟨"<lambda>", X.env.qual ++ "<lambda>", params, [], scope, [], c'⟩ b) → H1 c' = some (CodeO c' (X.env.qual ++ "<lambda>")) → Q (.ref f) s') :
    wpAny (model X.prog X.w) X.A (eval (.Lambda params b scope pos) X.env) Q E s := by
  obtain ⟨ps, eP, tri, among⟩ := tabs _ mem
  have hcl : closureFor scope X.env = pure [] := by
    have z := closure_ok (scope := scope) (env := X.env) (fun y hy e => absurd e (nf y hy))
    rw [clo_nil nf] at z
    exact z
  have getP : s.heap.get? P = some { cls := .none, data := .fields ps } := I.hok P _ eP
  have blt : s.heap.BuiltinsAt X.mg P := TB.bm.keeps I.bk
  refine PySem.W.kla_eval dflt ?_
  rcases hc : codeAmong pos ps.toList with _ | cv
  · refine PySem.W.kla_makeFunction (clos := []) (mg := X.mg) (c := c) (P := P) (ps := ps) hcl I.ok.glob (I.mod.glob.keeps I.bk) code (TB.code.keeps I.bk) getP tri hc TB.gP blt ?_
    intro c' ctv h' tk keep ge lt rec tab
    obtain ⟨c2, oc, vs, t, e2, hoc, hdat, hq⟩ := rec
    cases e2
    have nC : H c' = none := I.hok.fresh ge
    have I1 := inv_table (t' := tk) (more := #[rawInt pos.line, rawInt pos.col, .ref c']) (h' := h') I eP (fun d o n e => keep d o n e) tab ge ⟨oc, vs, t, hoc, hdat, hq⟩
    have ext : ExtN H (upd (upd H P (.tbl (ps ++ #[rawInt pos.line, rawInt pos.col, .ref c']))) c' (CodeO c' (X.env.qual ++ "<lambda>"))) := by
      intro d o e n
      have d1 : d ≠ c' := ne_of_none e nC
      have d2 : d ≠ P := by
        rintro rfl
        rw [eP] at e
        exact n ps (Option.some.inj e).symm
      rw [upd_ne d1, upd_ne d2]
      exact e
    have toL : (ps ++ #[rawInt pos.line, rawInt pos.col, .ref c']).toList = ps.toList ++ [rawInt pos.line, rawInt pos.col, .ref c'] := by simp
    have tabs1 : Tabs T (upd (upd H P (.tbl (ps ++ #[rawInt pos.line, rawInt pos.col, .ref c']))) c' (CodeO c' (X.env.qual ++ "<lambda>"))) := by
      intro p hp
      by_cases q : p.1 = P
      · rw [one p hp q, q]
        refine ⟨_, (upd_ne (ne_of_none eP nC)).trans upd_same, toL ▸ PySem.TriplesOk_snoc _ _ _ _ tri, ?_⟩
        intro p' cv hcv
        rw [toL] at hcv
        rcases among_app _ tri hcv with z | z
        · obtain ⟨c0, e1, e2⟩ := among p' cv z
          exact ⟨c0, e1, ext _ _ e2 codeO_ne⟩
        · exact ⟨c', z, upd_same⟩
      · obtain ⟨ps', a1, a2, a3⟩ := tabs p hp
        refine ⟨ps', (upd_ne (ne_of_none a1 nC)).trans ((upd_ne q).trans a1), a2, ?_⟩
        intro p' cv hcv
        obtain ⟨c0, e1, e2⟩ := a3 p' cv hcv
        exact ⟨c0, e1, ext _ _ e2 codeO_ne⟩
    have nF := I1.hok.fresh (Nat.le_refl _)
    have I2 := inv_lamO (F := ⟨"<lambda>", X.env.qual ++ "<lambda>", params, [], scope, [], c'⟩) (b := b) (tk := tk) (pm := (X.mg "__name__").getD .none) (ctv := ctv) I1
    refine go h'.objs.size c' _ _ I2 ?_ (tabs1.ext ?_) (I.hok.fresh (Nat.le_trans ge (Nat.le_of_lt lt))) upd_same ((upd_ne (Nat.ne_of_lt lt)).trans upd_same)
    · intro d o e n
      have e1 := ext d o e n
      exact (upd_ne (ne_of_none e1 nF)).trans e1
    · intro d o e
      exact (upd_ne (ne_of_none e nF)).trans e
  · obtain ⟨c', rfl, hco⟩ := among pos cv hc
    refine PySem.W.kla_makeFunctionHit (clos := []) (mg := X.mg) (c := c) (P := P) (ps := ps) hcl I.ok.glob (I.mod.glob.keeps I.bk) code (TB.code.keeps I.bk) getP tri hc blt ?_
    intro ctv h' tk keep ge
    have I1 : Inv X pins σ H { s with heap := h', toks := tk } := I.kept keep
    have nF : H h'.objs.size = none := I1.hok.fresh (Nat.le_refl _)
    have I2 := inv_lamO (F := ⟨"<lambda>", X.env.qual ++ "<lambda>", params, [], scope, [], c'⟩) (b := b) (tk := tk) (pm := (X.mg "__name__").getD .none) (ctv := ctv) I1
    have ext : ∀ d o, H d = some o → upd H h'.objs.size (LamO h'.objs.size ⟨"<lambda>", X.env.qual ++ "<lambda>", params, [], scope, [], c'⟩ b) d = some o := fun d o e => (upd_ne (ne_of_none e nF)).trans e
    exact go h'.objs.size c' _ _ I2 (fun d o e _ => ext d o e) (tabs.ext ext) nF upd_same (ext _ _ hco)
/-- the reading of a lambda -/
def tLamV (T : List (Addr × Str)) (mk : Addr → NF) (b : Expr) : TE := fun _ H Q => Tabs T H ∧ ∀ (f c' : Addr) (H1 : Hp), ExtN H H1 → Tabs T H1 → H f = none → H1 f = some (LamO f (mk c') b) → H1 c' = some (CodeO c' (mk c').qual) → Q (.ref f) H1
theorem pe_lamV {X : Cx} {T : List (Addr × Str)} {c P : Addr} {params : Arguments} {b : Expr} {scope : Scope} {pos : Pos} (TB : TabB X.base X.mg c P) (code : X.env.code = .ref c) (mem : (P, X.env.qual ++ "<lambda>") ∈ T) (one : ∀ p ∈ T, p.1 = P → p.2 = X.env.qual ++ "<lambda>")
    (dflt : defaultsOf params X.env = ([], [])) (nf : ∀ y ∈ scope.names, y.2 ≠ .free) : PE X (.Lambda params b scope pos) (tLamV T (fun c' => ⟨"<lambda>", X.env.qual ++ "<lambda>", params, [], scope, [], c'⟩) b) := by
  refine ⟨fun pins s σ H Q I h => ?_⟩
  obtain ⟨tabs, h⟩ := h
  exact lam_lay I TB code mem one tabs dflt nf fun f c' H1 s' I1 ext t1 n0 e1 e2 => ⟨.ref f, H1, I1, rfl, h f c' H1 ext t1 n0 e1 e2⟩
/-- a lambda's promise -/
structure LOk (P : Program) (w : World) (K : PySem.W.Frag) (mg : Str → Option Value) (base : Heap) (k : Nat) (f : Addr) (F : NF) (b : Expr) (sp : Sp) : Prop where
  run : ∀ (A : Around) (outer : List Env) (s : Shared) (H : Hp) (us : List Value) (vs : List V) (Q : VK) (E : XK), Room k A → Env0 P w K mg base A outer s H → H f = some (LamO f F b) → H F.c = some (CodeO F.c F.qual) → Vals vs us → sp vs H Q E →
    codeAny (model P w) A (.call (.ref f) ⟨us, []⟩) (CR (L2N.CX P w) outer P w H s Q E) s
theorem LOk.mono {P : Program} {w : World} {K : PySem.W.Frag} {mg : Str → Option Value} {base : Heap} {j k : Nat} {f : Addr} {F : NF} {b : Expr} {sp : Sp} (o : LOk P w K mg base j f F b sp) (h : j ≤ k) : LOk P w K mg base k f F b sp :=
  ⟨fun A outer s H us vs Q E hr => o.run A outer s H us vs Q E (hr.mono h)⟩
theorem lok_of {P : Program} {w : World} {K : PySem.W.Frag} {mg : Str → Option Value} {base : Heap} {k : Nat} {f : Addr} {F : NF} {b : Expr} {N ps : List Str} {sp : Sp} (S : NScope N ps [] F.scope) (cl : F.cl = [])
    (bind : ∀ (pm ctv : Value) (us : List Value), us.length = ps.length → bindArgs (PySem.W.kla_fn "<lambda>" F.qual F.params b F.scope F.cl pm (.ref F.c) ctv) ⟨us, []⟩ = pure (ps.zip us)) (len : ∀ vs H Q E, sp vs H Q E → vs.length = ps.length)
    (body : ∀ (A : Around) (outer : List Env) (s : Shared) (H : Hp) (vs : List V) (Q : VK) (E : XK), Room k (A.deeper (envF F f s.heap.objs.size)) → sp vs H Q E → ∃ t, PE (ncx (L2N.CX P w) P w K mg base N F f A outer s H E) b t ∧ t (startF N vs []) H Q) : LOk P w K mg base (k + 1) f F b sp := by
  refine ⟨fun A outer s H us vs Q E hr e0 ef ec r wish => ?_⟩
  have hl := len _ _ _ _ wish
  have lim : s.heap.NoLimit := e0.mod.nolimit.keeps fun d o e => (e0.bs d o e).1
  have cells : CellsAt F.cl [] [] s.heap H := by
    rw [cl]
    exact ⟨rfl, fun y c e => (nomatch e), fun x y c e => (nomatch e), fun i y e => (nomatch e)⟩
  obtain ⟨od, sl, pm, ctv, ho⟩ := lamO_get e0.hok ef
  refine PySem.W.kla_callFunE hr.depth ho rfl S.co S.gen rfl (codeO_at e0.hok ec) ?_
  rw [bind pm ctv us (by rw [← r.length]; exact hl)]
  refine wpAny_pure (wpAny_newFunctionEnv S.nocell (fun y hy => S.par y.1 (List.of_mem_zip (show (y.1, y.2) ∈ ps.zip us from hy)).1) (fun h1 ns sb => ⟨lim.fresh _ sb, ?_⟩) S.kind)
  have keep : ∀ d o, s.heap.get? d = some o → h1.get? d = some o := fun d o e => sb.extBut d o (Nat.ne_of_lt (Heap.lt_size e)) (Heap.get?_push_of_some _ e)
  obtain ⟨t, pe, wish'⟩ := body A outer s H vs Q E (hr.deeper _) wish
  have I : Inv (ncx (L2N.CX P w) P w K mg base N F f A outer s H E) [] (startF N vs []) H { s with heap := h1, toks := s.toks + (ps.zip us).length } := inv_startN S hr.hd e0 hl r cells ns keep
  show codeAny _ _ (.expr b (envF F f s.heap.objs.size)) _ _
  refine PySem.W.kla_codeExpr (wpAny_mono (pe.run [] _ _ H Q I wish') ?_ fun e s' hs => hs)
  rintro v s' ⟨v', H', J, rv, q⟩
  exact ⟨v', H', J.os, J.bare, J.base, J.hok, rv, q⟩
/-- what may be called: a def of the program's, or a lambda that stands in H -/
def HeldH (P : Program) (w : World) (K : PySem.W.Frag) (mg : Str → Option Value) (base : Heap) (k : Nat) (f : Addr) (sp : Sp) (H : Hp) : Prop :=
  HeldX P w K mg base k f sp ∨ ∃ F b, LOk P w K mg base k f F b sp ∧ H f = some (LamO f F b) ∧ H F.c = some (CodeO F.c F.qual)
theorem HeldH.same {P : Program} {w : World} {K : PySem.W.Frag} {mg : Str → Option Value} {base : Heap} {k : Nat} {f : Addr} {sp : Sp} {H H' : Hp} (h : HeldH P w K mg base k f sp H) (s : Same H H') : HeldH P w K mg base k f sp H' := by
  rcases h with h | ⟨F, b, o, e1, e2⟩
  · exact .inl h
  · exact .inr ⟨F, b, o, s _ _ e1, s _ _ e2⟩
def tCallH (i : Nat) (P : Program) (w : World) (K : PySem.W.Frag) (mg : Str → Option Value) (base : Heap) (k : Nat) (W : WX) (t : TA) : TE := fun σ H Q => ∃ f sp, σ[i]? = some (some (.ref f)) ∧ ((HeldX P w K mg base k f sp ∧ t σ H fun vs H1 => sp vs H1 Q (fun cls d H' => W cls d σ H')) ∨
  ∃ F b, LOk P w K mg base k f F b sp ∧ H f = some (LamO f F b) ∧ t σ H fun vs H1 => H1 f = some (LamO f F b) ∧ H1 F.c = some (CodeO F.c F.qual) ∧ sp vs H1 Q (fun cls d H' => W cls d σ H'))
theorem pe_callH {X : Cx} {k i : Nat} {x : Str} {p pos : Pos} {e : Expr} {es : List Expr} {t : TA} {W : WX} (hr : Room k X.A) (slot : X.N[i]? = some x) (vis : Vis X.env.scope x) (tk : L2N.Takes X W) (ha : PA X (e :: es) t)
    (hdb : (x == ("__debug__" : Str)) = false := by decide) (hcd : (x == ("__classdict__" : Str)) = false := by decide) (he : starEach (e :: es) X.env = (false, eval e X.env) :: starEach es X.env := by rfl) (hpl : (backTo pos (starEach es X.env)).any (·.1) = false := by rfl) :
    PE X (.Call (.Name x p) (e :: es) [] pos) (tCallH i X.prog X.w X.K X.mg X.base k W t) := by
  refine ⟨fun pins s σ H Q I h => ?_⟩
  obtain ⟨f, sp, at_, h⟩ := h
  rcases h with ⟨hx, wish⟩ | ⟨F, b, lk, ef, wish⟩
  · exact (pe_callV (k := k) (i := i) hr slot vis tk ha hdb hcd he hpl).run pins s σ H Q I ⟨f, sp, at_, hx, wish⟩
  · refine wpAny_Call_Name_kw (thn ((pe_var (pos := p) slot vis hdb hcd).run pins s σ H (fun v H1 => v = .ref f ∧ H = H1) I ⟨.ref f, at_, rfl, rfl⟩) fun u s1 got => ?_)
    obtain ⟨v, H1, I1, rel, rfl, rfl⟩ := got
    cases rel
    have fa : ∀ {pins : List (Addr × Obj)} {σ : L2.St} {H : Hp} {s : Shared}, Inv X pins σ H s → H f = some (LamO f F b) → PySem.W.FnAt f s.heap := by
      intro pins σ H s J e
      obtain ⟨od, sl, pm, ctv, ho⟩ := lamO_get J.hok e
      exact ⟨_, od, _, sl, ho⟩
    refine PySem.W.callWith_F (first := []) (fa I1 ef) (thn (ha.run pos pins s1 σ _ _ I1 wish) fun us s2 got => ?_) he hpl
    obtain ⟨vs, H2, I2, r, e1, e2, q⟩ := got
    refine ⟨fa I2 e1, ?_⟩
    show wpAny _ _ (call (.ref f) us) _ _ _
    refine wpAny_call (codeAny_mono (lk.run X.A X.stack s2 H2 us vs Q (fun cls d H' => W cls d σ H') hr I2.env0 e1 e2 r q) ?_)
    intro r s' hq
    match r, hq with
    | .error e, hq => exact L2N.passAt tk σ pins H2 s2 e s' I2 hq
    | .ok (.ret u), hq => exact I2.after hq
    | .ok .next, hq => exact hq.elim
    | .ok .brk, hq => exact hq.elim
    | .ok .cont, hq => exact hq.elim
end FR
namespace FR
open PySem PySem.Spec PyProof.Rows L2 LamX NdefX
theorem held3 {P : Program} {w : World} {K : PySem.W.Frag} {mg : Str → Option Value} {base : Heap} {k : Nat} {f : Addr} {sp : Sp} {σ : L2.St} {H : Hp} {Q : VK} {W : WX} {x y z : V} (h : HeldH P w K mg base k f sp H) (e1 : σ[1]? = some (some x)) (e2 : σ[2]? = some (some y)) (e3 : σ[3]? = some (some z)) (q : sp [x, y, z] H Q (fun cls d H' => W cls d σ H')) :
    (HeldX P w K mg base k f sp ∧ tCons (tVar 1) (tCons (tVar 2) (tCons (tVar 3) tNil)) σ H fun vs H1 => sp vs H1 Q (fun cls d H' => W cls d σ H')) ∨
      ∃ F b, LOk P w K mg base k f F b sp ∧ H f = some (LamO f F b) ∧ tCons (tVar 1) (tCons (tVar 2) (tCons (tVar 3) tNil)) σ H fun vs H1 => H1 f = some (LamO f F b) ∧ H1 F.c = some (CodeO F.c F.qual) ∧ sp vs H1 Q (fun cls d H' => W cls d σ H') := by
  rcases h with h | ⟨F, b, lk, a1, a2⟩
  · exact .inl ⟨h, x, e1, y, e2, z, e3, q⟩
  · exact .inr ⟨F, b, lk, a1, x, e1, y, e2, z, e3, a1, a2, q⟩
end FR
set_option maxHeartbeats 2000000
namespace FR
open PySem PySem.Spec PyProof.Rows L2 LamX
theorem call_repr_bl {X : Cx} : CallR X (.builtin "repr") (fun xs H Q => ∃ b : Bool, xs = [.bl b] ∧ Q (.str (if b then "True" else "False")) H) := by
  intro pins s σ H xs us Q I r h
  obtain ⟨b, rfl, q⟩ := h
  obtain ⟨u, rfl, rx⟩ := vals1 r
  cases rx
  exact PySem.P.repr_of_bool ⟨.str _, H, I.tok _, ⟨_, rfl⟩, q⟩
/-- a def whose code object is told -/
theorem okC {P : Program} {w : World} {K : PySem.W.Frag} {mg : Str → Option Value} {base : Heap} {x qual : Str} {st : Stmt} {f : Addr} {fd : FuncData} {N ps : List Str} {k : Nat} {sp : Sp} (F : Fun K x qual st f fd) (S : FnScope N ps (defScope st)) (len : ∀ vs H Q E, sp vs H Q E → vs.length = ps.length)
    (body : ∀ (A : Around) (outer : List Env) (s : Shared) (H : Hp) (vs : List V) (Q : VK) (E : XK), Room k (A.deeper (envOfC qual (defScope st) s.heap.objs.size f fd.code)) → sp vs H Q E →
      ∃ t, PSs (cxOf CX0 P w K mg base N qual (defScope st) f fd.code A outer s H E).nox (defBody st) t ∧ t { nx := fun _ H' => Q .non H', rt := Q } (L2.start N vs) H) : FnOk P w K mg base CX0 (k + 1) f fd ps sp := by
  obtain ⟨oc, od, kV, doc, pm, an, cdv, ct, osl, rfl, lk, hcd⟩ := F.ex
  refine fn_of lk hcd S len fun A outer s H vs Q E room wish => ?_
  obtain ⟨t, pt, q⟩ := body A outer s H vs Q E room wish
  exact ⟨t, pt.nox, q⟩
/-! ### data of bounded width and depth -/
def Sz (m : Nat) : Nat → PyData → Prop
  | 0, .list _ => False
  | 0, .tuple _ => False
  | n + 1, .list ds => ds.length ≤ m ∧ ∀ d ∈ ds, Sz m n d
  | n + 1, .tuple ds => ds.length ≤ m ∧ ∀ d ∈ ds, Sz m n d
  | _, _ => True
theorem Sz.mono {m m' : Nat} (hm : m ≤ m') : ∀ {n n' : Nat} {d : PyData}, n ≤ n' → Sz m n d → Sz m' n' d
  | 0, n', d, hn, h => by
    cases d <;> first | exact h.elim | (cases n' <;> exact True.intro)
  | n + 1, 0, d, hn, h => by omega
  | n + 1, n' + 1, d, hn, h => by
    cases d with
    | list ds => exact ⟨Nat.le_trans h.1 hm, fun e he => Sz.mono hm (by omega) (h.2 e he)⟩
    | tuple ds => exact ⟨Nat.le_trans h.1 hm, fun e he => Sz.mono hm (by omega) (h.2 e he)⟩
    | _ => exact True.intro
def AllD (K : PySem.W.Frag) (H : Hp) (m n : Nat) (xs : List V) : Prop := ∀ x ∈ xs, ∃ d, Dp K H x d ∧ Sz m n d
section
variable {K : PySem.W.Frag} {H H' : Hp} {m m' n n' : Nat} {xs ys : List V} {x : V} {d : PyData}
theorem AllD.same (h : AllD K H m n xs) (s : Same H H') : AllD K H' m n xs := by
  intro x hx
  obtain ⟨d, h1, h2⟩ := h x hx
  exact ⟨d, Same.dp s h1, h2⟩
theorem AllD.mono (h : AllD K H m n xs) (hm : m ≤ m') (hn : n ≤ n') : AllD K H m' n' xs := by
  intro x hx
  obtain ⟨d, h1, h2⟩ := h x hx
  exact ⟨d, h1, h2.mono hm hn⟩
theorem AllD.nil : AllD K H m n [] := fun x hx => nomatch hx
theorem AllD.cons (h : Dp K H x d) (z : Sz m n d) (t : AllD K H m n xs) : AllD K H m n (x :: xs) := by
  intro y hy
  rcases List.mem_cons.mp hy with rfl | g
  · exact ⟨d, h, z⟩
  · exact t y g
theorem AllD.app (h : AllD K H m n xs) (t : AllD K H m n ys) : AllD K H m n (xs ++ ys) := by
  intro y hy
  rcases List.mem_append.mp hy with g | g
  · exact h y g
  · exact t y g
theorem AllD.sub (h : AllD K H m n xs) (s : ∀ y ∈ ys, y ∈ xs) : AllD K H m n ys := fun y hy => h y (s y hy)
theorem cut_mem {lo hi : Option Int} : ∀ y ∈ cutV xs lo hi, y ∈ xs := fun _ hy => List.mem_of_mem_drop (List.mem_of_mem_take hy)
theorem AllD.of {ds : List PyData} (h : DpAll K H xs ds) (z : ∀ d ∈ ds, Sz m n d) : AllD K H m n xs := by
  intro x hx
  obtain ⟨i, hi, e⟩ := List.getElem_of_mem hx
  obtain ⟨d, hd, hp⟩ := dp_get h (by rw [List.getElem?_eq_getElem hi, e])
  exact ⟨d, hp, z d (List.mem_of_getElem? hd)⟩
theorem AllD.all : ∀ {xs : List V}, AllD K H m n xs → ∃ ds, DpAll K H xs ds ∧ ds.length = xs.length ∧ ∀ d ∈ ds, Sz m n d
  | [], _ => ⟨[], .nil, rfl, fun d hd => nomatch hd⟩
  | x :: xs, h => by
    obtain ⟨d, h1, h2⟩ := h x (List.mem_cons_self ..)
    obtain ⟨ds, g1, g2, g3⟩ := AllD.all (xs := xs) (fun y hy => h y (List.mem_cons_of_mem _ hy))
    refine ⟨d :: ds, .cons h1 g1, congrArg (· + 1) g2, fun e he => ?_⟩
    rcases List.mem_cons.mp he with rfl | g
    · exact h2
    · exact g3 e g
theorem AllD.lst {a : Addr} (h : AllD K H m n xs) (l : xs.length ≤ m) (e : H a = some (.lst xs)) : ∃ d, Dp K H (.ref a) d ∧ Sz m (n + 1) d := by
  obtain ⟨ds, g1, g2, g3⟩ := h.all
  exact ⟨.list ds, .lst (SqL.of e) g1, by rw [g2]; exact l, g3⟩
theorem AllD.tup {a : Addr} (h : AllD K H m n xs) (l : xs.length ≤ m) (e : SqT K H a xs) : ∃ d, Dp K H (.ref a) d ∧ Sz m (n + 1) d := by
  obtain ⟨ds, g1, g2, g3⟩ := h.all
  exact ⟨.tuple ds, .tup e g1, by rw [g2]; exact l, g3⟩
end
/-! ### all but the tables of code objects is kept -/
theorem ext_same {H H' : Hp} (s : Same H H') : ExtN H H' := fun b o e _ => s b o e
theorem ntbl_lst {xs : List V} (ps : Array Value) : HO.lst xs ≠ .tbl ps := fun z => nomatch z
theorem ntbl_tup {xs : List V} (ps : Array Value) : HO.tup xs ≠ .tbl ps := fun z => nomatch z
theorem ntbl_frz {o : Obj} {u : HO} (ps : Array Value) : HO.frz o u ≠ .tbl ps := fun z => nomatch z
theorem ext_seqT {K : PySem.W.Frag} {H H' : Hp} {a : Addr} {xs : List V} (e : ExtN H H') (h : SqT K H a xs) : SqT K H' a xs := by
  rcases h with (h | ⟨o, h⟩) | h
  · exact .inl (.inl (e _ _ h ntbl_tup))
  · exact .inl (.inr ⟨o, e _ _ h ntbl_frz⟩)
  · exact .inr h
theorem ext_seqL {K : PySem.W.Frag} {H H' : Hp} {a : Addr} {xs : List V} (e : ExtN H H') (h : SqL K H a xs) : SqL K H' a xs := by
  rcases h with (h | ⟨o, h⟩) | h
  · exact .inl (.inl (e _ _ h ntbl_lst))
  · exact .inl (.inr ⟨o, e _ _ h ntbl_frz⟩)
  · exact .inr h
mutual
theorem ext_dp {K : PySem.W.Frag} {H H' : Hp} (e : ExtN H H') : ∀ {x : V} {d : PyData}, Dp K H x d → Dp K H' x d
  | _, _, .non => .non
  | _, _, .bl b => .bl b
  | _, _, .int b => .int b
  | _, _, .str b => .str b
  | _, _, .lst s t => .lst (ext_seqL e s) (ext_dpa e t)
  | _, _, .tup s t => .tup (ext_seqT e s) (ext_dpa e t)
theorem ext_dpa {K : PySem.W.Frag} {H H' : Hp} (e : ExtN H H') : ∀ {x : List V} {d : List PyData}, DpAll K H x d → DpAll K H' x d
  | _, _, .nil => .nil
  | _, _, .cons h t => .cons (ext_dp e h) (ext_dpa e t)
end
theorem ext_purse {K : PySem.W.Frag} {H H' : Hp} {p : Addr} {r : Int} {ss : List Int} (e : ExtN H H') (h : Purse K H p r ss) : Purse K H' p r ss := by
  obtain ⟨sA, h1, h2⟩ := h
  exact ⟨sA, ext_seqT e h1, ext_seqT e h2⟩
/-- all but the bags' places and the tables -/
structure Kq (H H' : Hp) : Prop where
  keep : ∀ a o, H a = some o → ¬ BagSh o → (∀ ps, o ≠ .tbl ps) → H' a = some o
  bag : ∀ a d c, H a = some (.lst [.ref d, .int c]) → ∃ c', H' a = some (.lst [.ref d, .int c'])
theorem Kq.of {H H' : Hp} (k : Kp H H') : Kq H H' := ⟨fun a o e n _ => k.keep a o e n, k.bag⟩
theorem Kq.ext {H H' : Hp} (k : ExtN H H') : Kq H H' := ⟨fun a o e _ n => k a o e n, fun a d c e => ⟨c, k _ _ e ntbl_lst⟩⟩
theorem Kq.trans {H H1 H2 : Hp} (x : Kq H H1) (y : Kq H1 H2) : Kq H H2 := by
  refine ⟨fun a o e n t => y.keep a o (x.keep a o e n t) n t, fun a d c e => ?_⟩
  obtain ⟨c1, e1⟩ := x.bag a d c e
  exact y.bag a d c1 e1
theorem Kq.bags {H H' : Hp} {b : Addr} (x : Kq H H') (h : Bag H b) : Bag H' b := by
  obtain ⟨d, c, ds, h1, h2, h3⟩ := h
  obtain ⟨c', e⟩ := x.bag b d c h1
  exact ⟨d, c', ds, e, x.keep _ _ h2 nint ntbl_lst, h3⟩
theorem Kp.tabs {T : List (Addr × Str)} {H H' : Hp} (k : Kp H H') (t : Tabs T H) : Tabs T H' := by
  intro p hp
  obtain ⟨ps, h1, h2, h3⟩ := t p hp
  refine ⟨ps, k.keep _ _ h1 (fun ⟨_, _, z⟩ => nomatch z), h2, fun pos cv hc => ?_⟩
  obtain ⟨c, e1, e2⟩ := h3 pos cv hc
  exact ⟨c, e1, k.keep _ _ e2 (fun ⟨_, _, z⟩ => by unfold CodeO at z; exact nomatch z)⟩
theorem same_tabs {T : List (Addr × Str)} {H H' : Hp} (s : Same H H') (t : Tabs T H) : Tabs T H' := t.ext s
/-- a list display's or a slice's ints -/
theorem rd_slI {K : PySem.W.Frag} {H : Hp} {Q : VK} {a : Addr} {ns : List Int} {k : Int} (h0 : 0 ≤ k) (h : SqL K H a (ns.map V.int)) (q : ∀ p, H p = none → Q (.ref p) (upd H p (.lst ((ns.drop k.toNat).map V.int)))) : rSlL K (.ref a) (some k) none H Q := by
  refine ⟨a, _, rfl, h, fun p np => ?_⟩
  rw [cut_from h0]
  exact q p np
end FR
namespace FR
open PySem PySem.Spec PyProof.Rows L2
def oddL (t1 t2 t3 t4 t5 t6 t7 t8 t9 t11 t13 t15 t16 : Addr) : List V := (([.non, .bl true, .bl false, .int (-1), .int 0, .int 1, .int 2, .int 20, .int 21, .int (10 ^ (Int.toNat 18)), .int (10 ^ (Int.toNat 18) + 1), .int (10 ^ (Int.toNat 30)), .str "", .str "ride", .str "a"] : List V) ++ [.ref t1, .ref t2, .ref t3, .ref t4, .ref t5, .ref t6, .ref t7]) ++ [.ref t8, .ref t9, .ref t11, .ref t13, .ref t15, .ref t16, .str "rides"]
theorem odd_all {K : PySem.W.Frag} {H : Hp} {t1 t2 t3 t4 t5 t6 t7 t8 t9 t10 t11 t12 t13 t14 t15 t16 : Addr} (e1 : H t1 = some (.tup [])) (e2 : H t2 = some (.lst [])) (e3 : H t3 = some (.tup [.int 0])) (e4 : H t4 = some (.tup [.int 2])) (e5 : H t5 = some (.lst [.int 2])) (e6 : H t6 = some (.tup [.int 2, .int 2])) (e7 : H t7 = some (.tup [.int 1, .int 2])) (e8 : H t8 = some (.tup [.int 21])) (e9 : H t9 = some (.tup [.int 2, .int 3, .int 4, .int 5]))
    (e10 : H t10 = some (.tup [.int 0])) (e11 : H t11 = some (.tup [.int 0, .ref t10])) (e12 : H t12 = some (.tup [])) (e13 : H t13 = some (.tup [.int 0, .ref t12])) (e14 : H t14 = some (.tup [.int 0])) (e15 : H t15 = some (.lst [.int 0, .ref t14])) (e16 : H t16 = some (.tup [.non])) : AllD K H 4 2 (oddL t1 t2 t3 t4 t5 t6 t7 t8 t9 t11 t13 t15 t16) := by
  have iz : ∀ {n : Nat} {i : Int}, Sz 4 n (.int i) := fun {n i} => by cases n <;> exact True.intro
  have A0 : ∀ {ns : List Int}, AllD K H 4 0 (ns.map V.int) := fun {ns} => .of (dp_ints ns) (fun d hd => by obtain ⟨i, _, rfl⟩ := List.mem_map.mp hd; exact iz)
  have sq : ∀ {t : Addr} {ns : List Int}, ns.length ≤ 4 → (H t = some (.tup (ns.map V.int)) ∨ H t = some (.lst (ns.map V.int))) → ∃ d, Dp K H (.ref t) d ∧ Sz 4 2 d := by
    intro t ns l h
    rcases h with h | h
    · obtain ⟨d, g1, g2⟩ := (A0 (ns := ns)).tup (by rw [List.length_map]; exact l) (SqT.of h)
      exact ⟨d, g1, g2.mono (Nat.le_refl _) (by decide)⟩
    · obtain ⟨d, g1, g2⟩ := (A0 (ns := ns)).lst (by rw [List.length_map]; exact l) h
      exact ⟨d, g1, g2.mono (Nat.le_refl _) (by decide)⟩
  have two : ∀ {t u : Addr} {ns : List Int}, ns.length ≤ 4 → H u = some (.tup (ns.map V.int)) → (H t = some (.tup [.int 0, .ref u]) ∨ H t = some (.lst [.int 0, .ref u])) → ∃ d, Dp K H (.ref t) d ∧ Sz 4 2 d := by
    intro t u ns l hu h
    obtain ⟨d, g1, g2⟩ := (A0 (ns := ns)).tup (by rw [List.length_map]; exact l) (SqT.of hu)
    have A1 : AllD K H 4 1 [.int 0, .ref u] := .cons (.int 0) iz (.cons g1 g2 .nil)
    rcases h with h | h
    · exact A1.tup (show 2 ≤ 4 by decide) (SqT.of h)
    · exact A1.lst (show 2 ≤ 4 by decide) h
  intro x hx
  unfold oddL at hx
  simp only [List.cons_append, List.nil_append, List.mem_cons, List.not_mem_nil, or_false] at hx
  rcases hx with rfl | rfl | rfl | rfl | rfl | rfl | rfl | rfl | rfl | rfl | rfl | rfl | rfl | rfl | rfl | rfl | rfl | rfl | rfl | rfl | rfl | rfl | rfl | rfl | rfl | rfl | rfl | rfl | rfl
  · exact ⟨_, .non, True.intro⟩
  · exact ⟨_, .bl _, True.intro⟩
  · exact ⟨_, .bl _, True.intro⟩
  iterate 9 exact ⟨_, .int _, True.intro⟩
  iterate 3 exact ⟨_, .str _, True.intro⟩
  · exact sq (ns := []) (by decide) (.inl e1)
  · exact sq (ns := []) (by decide) (.inr e2)
  · exact sq (ns := [0]) (by decide) (.inl e3)
  · exact sq (ns := [2]) (by decide) (.inl e4)
  · exact sq (ns := [2]) (by decide) (.inr e5)
  · exact sq (ns := [2, 2]) (by decide) (.inl e6)
  · exact sq (ns := [1, 2]) (by decide) (.inl e7)
  · exact sq (ns := [21]) (by decide) (.inl e8)
  · exact sq (ns := [2, 3, 4, 5]) (by decide) (.inl e9)
  · exact two (ns := [0]) (by decide) e10 (.inl e11)
  · exact two (ns := []) (by decide) e12 (.inl e13)
  · exact two (ns := [0]) (by decide) e14 (.inr e15)
  · refine ⟨_, .tup (SqT.of e16) (.cons .non .nil), ?_⟩
    exact ⟨by decide, fun d hd => by rw [List.mem_singleton.mp hd]; exact True.intro⟩
  · exact ⟨_, .str _, True.intro⟩
end FR
namespace FR
open PySem PySem.Spec PyProof.Rows L2
theorem kit2 {K : PySem.W.Frag} {a : String} {b1 b2 : Bool} (h1 : kitB a "tuple" = some b1) (h2 : kitB a "list" = some b2) : PySem.W.kitAny K (.type a) [.type "tuple", .type "list"] = some (b1 || b2) := by
  refine kitAny_cons (b := b1) (kit_ty h1) (fun e => ?_) (fun e => by rw [e]; rfl)
  rw [e, Bool.false_or]
  exact kitAny_cons (b := b2) (kit_ty h2) (fun e => by rw [e]; exact kitAny_nil) (fun e => e)
theorem clsTL : Paired ClsV [.ty "tuple", .ty "list"] [.type "tuple", .type "list"] := .cons (.ty "tuple") (.cons (.ty "list") .nil)
/-- which class data has -/
def tyN : PyData → String
  | .none => "NoneType"
  | .bool _ => "bool"
  | .int _ => "int"
  | .str _ => "str"
  | .list _ => "list"
  | .tuple _ => "tuple"
  | _ => "object"
theorem ty_dp {K : PySem.W.Frag} {H : Hp} {x : V} {d : PyData} (h : Dp K H x d) : TyX K H x (.type (tyN d)) := by
  cases h with
  | non => exact .base .non
  | bl b => exact .base (.bl b)
  | int b => exact .base (.int b)
  | str b => exact .base (.str b)
  | lst s _ => exact tyL s
  | tup s _ => exact tyT s
end FR
namespace FR
open PySem PySem.Spec PyProof.Rows L2
theorem seq_of {K : PySem.W.Frag} {H : Hp} {x : V} {d : PyData} {m n : Nat} (hd : Dp K H x d) (hz : Sz m n d) : (kitB (tyN d) "tuple" = some false ∧ kitB (tyN d) "list" = some false) ∨
    ∃ a xs n' b, x = .ref a ∧ n = n' + 1 ∧ (SqL K H a xs ∨ SqT K H a xs) ∧ AllD K H m n' xs ∧ xs.length ≤ m ∧ kitB (tyN d) "tuple" = some b ∧ kitB (tyN d) "list" = some (!b) := by
  cases hd with
  | non => exact .inl ⟨show kitB "NoneType" "tuple" = _ by decide +kernel, show kitB "NoneType" "list" = _ by decide +kernel⟩
  | bl b => exact .inl ⟨show kitB "bool" "tuple" = _ by decide +kernel, show kitB "bool" "list" = _ by decide +kernel⟩
  | int b => exact .inl ⟨show kitB "int" "tuple" = _ by decide +kernel, show kitB "int" "list" = _ by decide +kernel⟩
  | str b => exact .inl ⟨show kitB "str" "tuple" = _ by decide +kernel, show kitB "str" "list" = _ by decide +kernel⟩
  | lst s t =>
    cases n with
    | zero => exact hz.elim
    | succ n => exact .inr ⟨_, _, n, false, rfl, rfl, .inl s, .of t hz.2, by rw [dp_len t]; exact hz.1, show kitB "list" "tuple" = _ by decide +kernel, show kitB "list" "list" = _ by decide +kernel⟩
  | tup s t =>
    cases n with
    | zero => exact hz.elim
    | succ n => exact .inr ⟨_, _, n, true, rfl, rfl, .inr s, .of t hz.2, by rw [dp_len t]; exact hz.1, show kitB "tuple" "tuple" = _ by decide +kernel, show kitB "tuple" "list" = _ by decide +kernel⟩
end FR
namespace FR
open PySem PySem.Spec PyProof.Rows L2
/-! ### a heap of which some is hidden -/
def hidS (S : Addr → Bool) (H : Hp) : Hp := fun a => if S a = true then none else H a
theorem hid_sub {S : Addr → Bool} {H : Hp} : Same (hidS S H) H := fun a o e => by
  unfold hidS at e
  split at e
  · exact nomatch e
  · exact e
theorem hid_same {S : Addr → Bool} {H H' : Hp} (s : Same H H') : Same (hidS S H) (hidS S H') := fun a o e => by
  unfold hidS at e ⊢
  split at e
  · exact nomatch e
  · rename_i q
    rw [if_neg q]
    exact s a o e
theorem hid_new {S : Addr → Bool} {H H' : Hp} {t : Addr} {o : HO} (c : ∀ a, S a = true → H a ≠ none) (n : H t = none) (e : H' t = some o) : hidS S H' t = some o := by
  unfold hidS
  rw [if_neg (fun z => c t z n)]
  exact e
theorem hid_grow {S : Addr → Bool} {H H1 : Hp} {p : Addr} (n : H p = none) (s : Same H H1) : Same (hidS S H) (hidS (fun a => S a || decide (a = p)) H1) := fun a o e => by
  have e' := hid_sub a o e
  have ne : a ≠ p := ne_of_none e' n
  unfold hidS at e ⊢
  split at e
  · exact nomatch e
  · rename_i q
    rw [if_neg (by show ¬ (S a || decide (a = p)) = true; rw [decide_eq_false ne, Bool.or_false]; exact q)]
    exact s a o e
theorem hid_back {S : Addr → Bool} {H : Hp} {p : Addr} {o : HO} : Same (hidS (fun a => S a || decide (a = p)) H) (hidS S (upd H p o)) := fun a u e => by
  unfold hidS at e ⊢
  split at e
  · exact nomatch e
  · rename_i q
    have q' : ¬ (S a || decide (a = p)) = true := q
    rw [Bool.or_eq_true, decide_eq_true_eq, not_or] at q'
    have q := q'
    rw [if_neg q.1, upd_ne q.2]
    exact e
theorem hid_none {H : Hp} : hidS (fun _ => false) H = H := by
  funext a
  unfold hidS
  rw [if_neg (fun z => nomatch z)]
theorem cutG_to {xs : List V} {k : Int} (h0 : 0 ≤ k) : cutV xs none (some k) = xs.take k.toNat := by
  unfold cutV
  obtain ⟨n, rfl⟩ : ∃ n : Nat, k = (n : Int) := ⟨k.toNat, by omega⟩
  rw [HT.sIx_none, HT.sIx_nat, List.drop_zero, Nat.sub_zero]
  by_cases c : n ≤ xs.length
  · rw [Nat.min_eq_left c]
    rfl
  · rw [Nat.min_eq_right (by omega), List.take_length]
    exact (List.take_of_length_le (by show xs.length ≤ n; omega)).symm
theorem cutG_from {xs : List V} {k : Int} (h0 : 0 ≤ k) : cutV xs (some k) none = xs.drop k.toNat := by
  unfold cutV
  obtain ⟨n, rfl⟩ : ∃ n : Nat, k = (n : Int) := ⟨k.toNat, by omega⟩
  rw [HT.sIx_none, HT.sIx_nat]
  by_cases c : n ≤ xs.length
  · rw [Nat.min_eq_left c, List.take_of_length_le (by rw [List.length_drop]; exact Nat.le_refl _)]
    rfl
  · rw [Nat.min_eq_right (by omega), List.drop_eq_nil_of_le (Nat.le_refl _), List.take_nil]
    exact (List.drop_eq_nil_of_le (by show xs.length ≤ n; omega)).symm
end FR
namespace FR
open PySem PySem.Spec PyProof.Rows L2
theorem upd_at {H : Hp} {p : Addr} {o : HO} (_ : H p = none) : upd H p o p = some o := upd_same
theorem ixN_of {n : Nat} {k : Int} (h0 : 0 ≤ k) (h1 : k < (n : Int)) : ixN n k = some k.toNat := by
  unfold ixN
  rw [if_pos h0, if_pos (by omega)]
end FR
namespace FR
open PySem PySem.Spec PyProof.Rows L2 LamX
theorem sz_int {m n : Nat} {i : Int} : Sz m n (.int i) := by cases n <;> exact True.intro
theorem sz_ints {m n : Nat} {ns : List Int} (h : ns.length ≤ m) : Sz m (n + 1) (.tuple (ns.map PyData.int)) := by
  refine ⟨by rw [List.length_map]; exact h, fun d hd => ?_⟩
  obtain ⟨i, _, rfl⟩ := List.mem_map.mp hd
  exact sz_int
theorem sz_purse {m n : Nat} {r : Int} {ns : List Int} (h : ns.length ≤ m) (h2 : 2 ≤ m) : Sz m (n + 2) (.tuple [.int r, .tuple (ns.map PyData.int)]) := by
  refine ⟨h2, fun d hd => ?_⟩
  rcases List.mem_cons.mp hd with rfl | hd
  · exact sz_int
  · rw [List.mem_singleton.mp hd]
    exact sz_ints h
def HD (K : PySem.W.Frag) (H : Hp) (xs : List V) : Prop := ∀ x ∈ xs, ∃ d, Dp K H x d
section
variable {K : PySem.W.Frag} {H H' : Hp} {xs ys : List V} {x : V} {d : PyData}
theorem HD.same (h : HD K H xs) (s : Same H H') : HD K H' xs := fun x hx => let ⟨d, g⟩ := h x hx; ⟨d, Same.dp s g⟩
theorem HD.ext (h : HD K H xs) (s : ExtN H H') : HD K H' xs := fun x hx => let ⟨d, g⟩ := h x hx; ⟨d, ext_dp s g⟩
theorem HD.nil : HD K H [] := fun x hx => nomatch hx
theorem HD.cons (h : Dp K H x d) (t : HD K H xs) : HD K H (x :: xs) := fun y hy => by
  rcases List.mem_cons.mp hy with rfl | g
  · exact ⟨d, h⟩
  · exact t y g
theorem HD.app (h : HD K H xs) (t : HD K H ys) : HD K H (xs ++ ys) := fun y hy => by
  rcases List.mem_append.mp hy with g | g
  · exact h y g
  · exact t y g
theorem dpa_app : ∀ {xs ys : List V} {ds es : List PyData}, DpAll K H xs ds → DpAll K H ys es → DpAll K H (xs ++ ys) (ds ++ es)
  | _, _, _, _, .nil, h => h
  | _, _, _, _, .cons a t, h => .cons a (dpa_app t h)
end
def nums : List V := [.int 0, .int 1, .int 2, .int 20, .int 21, .int (-1), .bl true, .non, .int (10 ^ (Int.toNat 18)), .int (10 ^ (Int.toNat 18) + 1)]
theorem num_dp {K : PySem.W.Frag} {x : V} (h : x ∈ nums) : ∃ d, ∀ H : Hp, Dp K H x d := by
  unfold nums at h
  simp only [List.mem_cons, List.not_mem_nil, or_false] at h
  rcases h with rfl | rfl | rfl | rfl | rfl | rfl | rfl | rfl | rfl | rfl
  iterate 6 exact ⟨_, fun H => .int _⟩
  · exact ⟨_, fun H => .bl _⟩
  · exact ⟨_, fun H => .non⟩
  iterate 2 exact ⟨_, fun H => .int _⟩
theorem nocards_shaped : SeqAt.shaped (.list [.str "NoCards", .bool true]) = true := by
  unfold SeqAt.shaped
  rw [PyData.canLay0, PyData.canLayAll0, PyData.canLayAll0, PyData.canLayAll0, PyData.depth, PyData.depthAll, PyData.depthAll, PyData.depthAll, PyData.canLay0, PyData.canLay0, PyData.depth, PyData.depth]
  decide +kernel
theorem nocards_eqv : PyData.eqv (.list [.str "NoCards", .bool true]) (.list [.str "NoCards", .bool true]) = true := SeqAt.eqv_refl _ (by
  have := nocards_shaped
  unfold SeqAt.shaped at this
  exact (Bool.and_eq_true_iff.mp this).1)
theorem nil_eqv : PyData.eqv (.list []) (.list []) = true := SeqAt.eqv_refl _ (by
  have := shaped_nil
  unfold SeqAt.shaped at this
  exact (Bool.and_eq_true_iff.mp this).1)
end FR
namespace FR
open PySem PySem.Spec PyProof.Rows L2 LamX
theorem hid_in {K : PySem.W.Frag} {H : Hp} {x : V} {d : PyData} (h : Dp K H x d) : Dp K (hidS (fun _ => false) H) x d := by
  rw [hid_none]
  exact h
theorem hid_out {K : PySem.W.Frag} {H : Hp} {x : V} {d : PyData} (h : Dp K (hidS (fun _ => false) H) x d) : Dp K H x d := by
  rw [hid_none] at h
  exact h
theorem no_hid {H : Hp} : ∀ a : Addr, (fun _ : Addr => false) a = true → H a ≠ none := fun _ h => nomatch h
theorem cut_at {H : Hp} {p : Addr} {ns : List Int} {k : Int} (h0 : 0 ≤ k) : upd H p (.lst (cutV (ns.map V.int) (some k) none)) p = some (.lst ((ns.drop k.toNat).map V.int)) := by
  rw [upd_same, cut_from h0]
end FR
set_option maxHeartbeats 2000000
namespace FR
open PySem PySem.Spec PyProof.Rows L2 LamX
/-- a def that makes lambdas: its code object at c, that one's table at P -/
structure TabAt (K : PySem.W.Frag) (mg : Str → Option Value) (h : Heap) (x : Str) (st : Stmt) (c P : Addr) : Prop where
  fn : ∃ f fd, Fun K x x st f fd ∧ mg x = some (.ref f) ∧ fd.code = .ref c
  tab : h.get? P = some { cls := .none, data := .fields #[] }
  out : K.lookup P = none
  hd : PySem.W.CodeHd h c P
def TabAtX {K : PySem.W.Frag} {h : Heap} (_ : K.In h) (mg : Str → Option Value) (x : Str) (st : Stmt) : Prop := ∃ c P, TabAt K mg h x st c P
theorem tabAt_mk {K : PySem.W.Frag} {h : Heap} {mg : Str → Option Value} {x : Str} {st : Stmt} {f c P : Addr} {od od2 an : Option Addr} {sl sl2 : Array (Option Value)} {oc oc2 kV dc pm ct : Value} {vs : Array Value} {ts : List Addr} (X : K.In h) (G : h.Ns mainGlobals mg)
    (hT : ∀ P ∈ ts, h.get? P = some (PySem.W.tabObj #[]))
    (a1 : PySem.W.nsIn K mainGlobals x = some (some (.ref f))) (l1 : K.lookup f = some ⟨oc, od, .func (PySem.W.fnOf x x (defArgs st) (defBody st) (defScope st) .none kV dc pm an (.ref c) ct), sl⟩) (c1 : PySem.W.codeIn K (.ref c) x = true) (k1 : PySem.W.keepIn K (.ref f) = true)
    (lc : K.lookup c = some ⟨oc2, od2, .fields vs, sl2⟩) (vP : vs[11]? = some (.ref P)) (hc : PySem.W.codeHdIn K c P = true) (hn : K.lookup P = none) (mem : P ∈ ts) : TabAtX X mg x st :=
  ⟨c, P, ⟨f, _, fun_mk (st := st) l1 c1 k1, PySem.W.mg_of X G a1, rfl⟩, hT P mem, hn, PySem.W.codeHd_of_K X hc⟩
end FR
namespace FR
open PySem PySem.Spec PyProof.Rows L2
def topS (i : Nat) : Stmt := PySem.Challenge.pw_freerides_k01_cards_and_purses_known.main.body.getD i (.Pass ⟨0, 0, 0, 0⟩)
/-! ### _law_draws -/
abbrev s_l_draws : Stmt := topS 27
theorem sc_l_draws : FnScope ["cell", "many", "size", "found", "rest", "stirred", "k"] ["cell", "many", "size"] (defScope s_l_draws) := ⟨rfl, rfl, rfl, by decide +kernel, rfl, by decide +kernel, by decide +kernel⟩
def sp_l_draws (K : PySem.W.Frag) : Sp := fun vs H Q E => ∃ (cell : Int), vs = [.int cell, .int 400, .int 1000] ∧ ∀ (p : Addr) (ds : List Int) (H' : Hp), Kp H H' → H p = none → H' p = some (.lst (ds.map V.int)) → ds.length = 400 → (∀ x ∈ ds, (0 : Int) ≤ x ∧ x < 1000) → Q (.ref p) H'
/-! ### _law_cell_at -/
abbrev s_l_cell_at : Stmt := topS 26
theorem sc_l_cell_at : FnScope ["script", "k"] ["script", "k"] (defScope s_l_cell_at) := ⟨rfl, rfl, rfl, by decide +kernel, rfl, by decide +kernel, by decide +kernel⟩
def sp_l_cell_at (K : PySem.W.Frag) : Sp := fun vs H Q E => ∃ (a : Addr) (ns : List Int) (k : Int), vs = [.ref a, .int k] ∧ SqL K H a (ns.map V.int) ∧ 0 ≤ k ∧ ∀ v, Q (.int v) H
/-! ### _law_bag -/
abbrev s_l_bag : Stmt := topS 30
theorem sc_l_bag : FnScope ["script", "k"] ["script", "k"] (defScope s_l_bag) := ⟨rfl, rfl, rfl, by decide +kernel, rfl, by decide +kernel, by decide +kernel⟩
def sp_l_bag (K : PySem.W.Frag) : Sp := fun vs H Q E => ∃ (a : Addr) (ns : List Int) (k : Int), vs = [.ref a, .int k] ∧ SqL K H a (ns.map V.int) ∧ 0 ≤ k ∧ ∀ (p : Addr) (H' : Hp), Kp H H' → Bag H' p → H p = none → Q (.ref p) H'
/-! ### _law_bags -/
abbrev s_l_bags : Stmt := topS 31
theorem sc_l_bags : FnScope ["script", "limit", "k"] ["script", "limit"] (defScope s_l_bags) := ⟨rfl, rfl, rfl, by decide +kernel, rfl, by decide +kernel, by decide +kernel⟩
def sp_l_bags (K : PySem.W.Frag) : Sp := fun vs H Q E => ∃ (a : Addr) (ns : List Int) (m : Int), vs = [.ref a, .int m] ∧ SqL K H a (ns.map V.int) ∧ ns.length ≤ 63 ∧ 0 < m ∧ m ≤ 1000 ∧ ∀ (p : Addr) (bs : List Addr) (H' : Hp), Kp H H' → H p = none → H' p = some (.lst (bs.map V.ref)) → bs.length ≤ 1000 → (∀ b ∈ bs, Bag H' b) → Q (.ref p) H'
/-! ### _law_take -/
abbrev s_l_take : Stmt := topS 32
theorem sc_l_take : FnScope ["bag", "many"] ["bag", "many"] (defScope s_l_take) := ⟨rfl, rfl, rfl, by decide +kernel, rfl, by decide +kernel, by decide +kernel⟩
def sp_l_take (K : PySem.W.Frag) : Sp := fun vs H Q E => ∃ (b : Addr) (m : Int), vs = [.ref b, .int m] ∧ Bag H b ∧ 0 < m ∧ ∀ (r : Int) (H' : Hp), 0 ≤ r → r < m → Kp H H' → Q (.int r) H'
/-! ### _law_kinds -/
abbrev s_l_kinds : Stmt := topS 35
theorem sc_l_kinds : FnScope ["bag", "far", "found", "turn"] ["bag", "far"] (defScope s_l_kinds) := ⟨rfl, rfl, rfl, by decide +kernel, rfl, by decide +kernel, by decide +kernel⟩
def sp_l_kinds (K : PySem.W.Frag) : Sp := fun vs H Q E => ∃ (b : Addr) (fr : Int), vs = [.ref b, .int fr] ∧ Bag H b ∧ 2 ≤ fr ∧ ∀ (p : Addr) (cs : List Int) (H' : Hp), Kp H H' → H' p = some (.tup (cs.map V.int)) → 1 ≤ cs.length → cs.length ≤ 3 → (∀ c ∈ cs, 2 ≤ c ∧ c ≤ fr) → Q (.ref p) H'
/-! ### _law_far_draw -/
abbrev s_l_far_draw : Stmt := topS 33
theorem sc_l_far_draw : FnScope ["bag", "many", "found", "much"] ["bag", "many"] (defScope s_l_far_draw) := ⟨rfl, rfl, rfl, by decide +kernel, rfl, by decide +kernel, by decide +kernel⟩
def sp_l_far_draw (K : PySem.W.Frag) : Sp := fun vs H Q E => ∃ (b : Addr) (m : Int), vs = [.ref b, .int m] ∧ Bag H b ∧ 0 < m ∧ ∀ (r : Int) (H' : Hp), 0 ≤ r → r < m → Kp H H' → Q (.int r) H'
/-! ### _law_stamps_for -/
abbrev s_l_stamps_for : Stmt := topS 36
theorem sc_l_stamps_for : FnScope ["bag", "kinds", "far", "one"] ["bag", "kinds", "far"] (defScope s_l_stamps_for) := ⟨rfl, rfl, rfl, by decide +kernel, rfl, by decide +kernel, by decide +kernel⟩
def sp_l_stamps_for (K : PySem.W.Frag) : Sp := fun vs H Q E => ∃ (b kA : Addr) (cs : List Int) (fr : Int), vs = [.ref b, .ref kA, .int fr] ∧ Bag H b ∧ SqT K H kA (cs.map V.int) ∧ cs.length ≤ 3 ∧ 0 ≤ fr ∧ ∀ (p : Addr) (ss : List Int) (H' : Hp), Kp H H' → H' p = some (.tup (ss.map V.int)) → ss.length = cs.length → (∀ x ∈ ss, 0 ≤ x ∧ x ≤ fr) → Q (.ref p) H'
/-! ### _law_had -/
abbrev s_l_had : Stmt := topS 37
theorem sc_l_had : FnScope ["bag", "kinds", "far"] ["bag", "kinds", "far"] (defScope s_l_had) := ⟨rfl, rfl, rfl, by decide +kernel, rfl, by decide +kernel, by decide +kernel⟩
def sp_l_had (K : PySem.W.Frag) : Sp := fun vs H Q E => ∃ (b kA : Addr) (cs : List Int) (fr : Int), vs = [.ref b, .ref kA, .int fr] ∧ Bag H b ∧ SqT K H kA (cs.map V.int) ∧ cs.length ≤ 3 ∧ 0 ≤ fr ∧ ∀ (p sA : Addr) (r : Int) (ss : List Int) (H' : Hp), Kp H H' → H' p = some (.tup [.int r, .ref sA]) → H' sA = some (.tup (ss.map V.int)) → 0 ≤ r → r ≤ fr → ss.length = cs.length → (∀ x ∈ ss, 0 ≤ x ∧ x ≤ fr) → Q (.ref p) H'
/-! ### _law_odd -/
abbrev s_l_odd : Stmt := topS 34
theorem sc_l_odd : FnScope ["picks", "odd"] ["picks"] (defScope s_l_odd) := ⟨rfl, rfl, rfl, by decide +kernel, rfl, by decide +kernel, by decide +kernel⟩
def sp_l_odd (K : PySem.W.Frag) : Sp := fun vs H Q E => ∃ (pA : Addr) (ns : List Int), vs = [.ref pA] ∧ SqL K H pA (ns.map V.int) ∧ 2 ≤ ns.length ∧ ∀ v H', Same H H' → (∀ S : Addr → Bool, (∀ a, S a = true → H a ≠ none) → ∃ d, Dp K (hidS S H') v d ∧ Sz 4 2 d) → Q v H'
/-! ### _law_spoilt -/
abbrev s_l_spoilt : Stmt := topS 28
theorem sc_l_spoilt : FnScope ["thing", "picks", "pieces", "at", "turn_by"] ["thing", "picks"] (defScope s_l_spoilt) := ⟨rfl, rfl, rfl, by decide +kernel, rfl, by decide +kernel, by decide +kernel⟩
def sp_l_spoilt (K : PySem.W.Frag) (n : Nat) : Sp := fun vs H Q E => match n with | 0 => False | n + 1 => ∃ (x : V) (d : PyData) (pA : Addr) (ns : List Int) (m : Nat) (S : Addr → Bool) (k : Nat), k ≤ n ∧ vs = [x, .ref pA] ∧ (∀ a, S a = true → H a ≠ none) ∧ Dp K (hidS S H) x d ∧ Sz m k d ∧ 4 ≤ m ∧ m ≤ 50 ∧ SqL K H pA (ns.map V.int) ∧ 5 ≤ ns.length ∧ ∀ v d' H', Same H H' → Dp K (hidS S H') v d' → Sz (m + 1) (k + 2) d' → Q v H'
/-! ### is_within -/
abbrev s_p_is_within : Stmt := topS 19
theorem sc_p_is_within : FnScope ["thing", "least", "most"] ["thing", "least", "most"] (defScope s_p_is_within) := ⟨rfl, rfl, rfl, by decide +kernel, rfl, by decide +kernel, by decide +kernel⟩
def sp_p_is_within (K : PySem.W.Frag) : Sp := fun vs H Q E => ∃ (x : V) (d : PyData) (lo hi : Int), vs = [x, .int lo, .int hi] ∧ Dp K H x d ∧ Q (.bl (withinD lo hi d)) H
/-! ### are_cards -/
abbrev s_p_are_cards : Stmt := topS 20
theorem sc_p_are_cards : FnScope ["thing", "full"] ["thing"] (defScope s_p_are_cards) := ⟨rfl, rfl, rfl, by decide +kernel, rfl, by decide +kernel, by decide +kernel⟩
def sp_p_are_cards (K : PySem.W.Frag) : Sp := fun vs H Q E => ∃ (x : V) (d : PyData), vs = [x] ∧ Dp K H x d ∧ ∀ H', Same H H' → Q (.bl (cardsD d)) H'
/-! ### _law_from -/
abbrev s_l_from : Stmt := topS 29
theorem sc_l_from : FnScope ["thing", "least", "top"] ["thing", "least", "top"] (defScope s_l_from) := ⟨rfl, rfl, rfl, by decide +kernel, rfl, by decide +kernel, by decide +kernel⟩
def sp_l_from (K : PySem.W.Frag) : Sp := fun vs H Q E => ∃ (x : V) (d : PyData) (lo hi : Int), vs = [x, .int lo, .int hi] ∧ Dp K H x d ∧ Q (.bl (withinD lo hi d)) H
/-! ### _law_are_cards -/
abbrev s_l_are_cards : Stmt := topS 39
theorem sc_l_are_cards : FnScope ["thing", "one"] ["thing"] (defScope s_l_are_cards) := ⟨rfl, rfl, rfl, by decide +kernel, rfl, by decide +kernel, by decide +kernel⟩
def sp_l_are_cards (K : PySem.W.Frag) : Sp := fun vs H Q E => ∃ (x : V) (d : PyData), vs = [x] ∧ Dp K H x d ∧ ∀ H', Same H H' → Q (.bl (cardsD d)) H'
/-! ### refuse_no_cards -/
abbrev s_p_refuse_no_cards : Stmt := topS 24
theorem sc_p_refuse_no_cards : FnScope ["thing"] ["thing"] (defScope s_p_refuse_no_cards) := ⟨rfl, rfl, rfl, by decide +kernel, rfl, by decide +kernel, by decide +kernel⟩
def sp_p_refuse_no_cards (mg : Str → Option Value) (K : PySem.W.Frag) : Sp := fun vs H Q E => ∃ (x : V) (d : PyData), vs = [x] ∧ Dp K H x d ∧ (cardsD d = true → ∀ H', Same H H' → Q .non H') ∧ (cardsD d = false → ∀ H' C, Same H H' → mg "NoCards" = some (.ref C) → E (.ref C) none H')
/-! ### are_stamps -/
abbrev s_p_are_stamps : Stmt := topS 21
theorem sc_p_are_stamps : FnScope ["cards", "thing", "many"] ["cards", "thing"] (defScope s_p_are_stamps) := ⟨rfl, rfl, rfl, by decide +kernel, rfl, by decide +kernel, by decide +kernel⟩
def sp_p_are_stamps (K : PySem.W.Frag) : Sp := fun vs H Q E => ∃ (cA : Addr) (cs : List V) (x : V) (d : PyData), vs = [.ref cA, x] ∧ SqT K H cA cs ∧ cs.length ≤ 3 ∧ Dp K H x d ∧ ∀ H', Same H H' → Q (.bl (stampsD cs.length d)) H'
/-! ### purse_fits -/
abbrev s_p_purse_fits : Stmt := topS 22
theorem sc_p_purse_fits : FnScope ["cards", "thing", "rides", "stamps"] ["cards", "thing"] (defScope s_p_purse_fits) := ⟨rfl, rfl, rfl, by decide +kernel, rfl, by decide +kernel, by decide +kernel⟩
def sp_p_purse_fits (K : PySem.W.Frag) : Sp := fun vs H Q E => ∃ (cA : Addr) (cs : List V) (x : V) (d : PyData), vs = [.ref cA, x] ∧ SqT K H cA cs ∧ cs.length ≤ 3 ∧ Dp K H x d ∧ ∀ H', Same H H' → Q (.bl (purseD cs.length d)) H'
/-! ### is_purse -/
abbrev s_p_is_purse : Stmt := topS 23
theorem sc_p_is_purse : FnScope ["cards", "thing"] ["cards", "thing"] (defScope s_p_is_purse) := ⟨rfl, rfl, rfl, by decide +kernel, rfl, by decide +kernel, by decide +kernel⟩
def sp_p_is_purse (mg : Str → Option Value) (K : PySem.W.Frag) : Sp := fun vs H Q E => ∃ (x y : V) (d e : PyData), vs = [x, y] ∧ Dp K H x d ∧ Dp K H y e ∧ (cardsD d = true → ∀ n, (∀ ds, d = .tuple ds → ds.length = n) → ∀ H', Same H H' → Q (.bl (purseD n e)) H') ∧ (cardsD d = false → ∀ H' C, Same H H' → mg "NoCards" = some (.ref C) → E (.ref C) none H')
/-! ### _law_is_purse -/
abbrev s_l_is_purse : Stmt := topS 40
theorem sc_l_is_purse : FnScope ["kinds", "thing", "one"] ["kinds", "thing"] (defScope s_l_is_purse) := ⟨rfl, rfl, rfl, by decide +kernel, rfl, by decide +kernel, by decide +kernel⟩
def sp_l_is_purse (K : PySem.W.Frag) : Sp := fun vs H Q E => ∃ (cA : Addr) (cs : List V) (x : V) (d : PyData), vs = [.ref cA, x] ∧ SqT K H cA cs ∧ cs.length ≤ 3 ∧ Dp K H x d ∧ ∀ H', Same H H' → Q (.bl (purseD cs.length d)) H'
/-! ### _law_refused -/
abbrev s_l_refused : Stmt := topS 38
theorem sc_l_refused : FnScope ["call", "one", "two", "three", "kin", "e", "words", "word", "there"] ["call", "one", "two", "three"] (defScope s_l_refused) := ⟨rfl, rfl, rfl, by decide +kernel, rfl, by decide +kernel, by decide +kernel⟩
def sp_l_refused (P : Program) (w : World) (K : PySem.W.Frag) (mg : Str → Option Value) (base : Heap) : Sp := fun vs H Q E => ∃ (f : Addr) (x y z : V) (sp : Sp) (C : Nat → Addr) (tf rd : Addr), vs = [.ref f, x, y, z] ∧ Kin K mg C tf rd ∧ HeldH P w K mg base 12 f sp H ∧ MonoSp sp ∧ ∀ H1, Same H H1 → sp [x, y, z] H1 (fun _ H' => Same H1 H' ∧ ∀ p H'', Same H' H'' → H'' p = some (.lst []) → Q (.ref p) H'') (fun cls d H' => Same H1 H' ∧ ∃ i, cls = .ref (C i) ∧ d = none ∧ KinOf K C tf rd i ∧ ∀ p H'', Same H' H'' → H'' p = some (.lst [.str (kinN i), .bl true]) → Q (.ref p) H'')
/-! ### law -/
abbrev s_l_law : Stmt := topS 41
theorem sc_l_law : FnScope ["script", "bag", "kinds", "had", "once", "bent", "things", "number", "thing", "kin"] ["script"] (defScope s_l_law) := ⟨rfl, rfl, rfl, by decide +kernel, rfl, by decide +kernel, by decide +kernel⟩
def sp_lam01 (mg : Str → Option Value) (K : PySem.W.Frag) : Sp := fun vs H Q E => ∃ x y z, vs = [x, y, z] ∧ sp_p_is_purse mg K [x, y] H Q E
theorem mono_lam01 {mg : Str → Option Value} {K : PySem.W.Frag} : MonoSp (sp_lam01 mg K) := by
  rintro vs H Q Q' E E' ⟨x, y, z, e, x', y', d, e', h1, hd, he, q1, q2⟩ hq hx
  exact ⟨x, y, z, e, x', y', d, e', h1, hd, he, fun h n hn H' s => hq _ _ (q1 h n hn H' s), fun h H' C s g => hx _ _ _ (q2 h H' C s g)⟩

abbrev T_l_law (P0 : Addr) : List (Addr × Str) := [(P0, Str.ofString "law.<locals>." ++ "<lambda>")]
def sp_l_law (K : PySem.W.Frag) (P0 : Addr) : Sp := fun vs H Q E => ∃ (a : Addr) (ns : List Int), vs = [.ref a] ∧ SqL K H a (ns.map V.int) ∧ ns.length ≤ 63 ∧ LamX.Tabs (T_l_law P0) H ∧ ∀ H', Q (.bl true) H'
set_option maxHeartbeats 4000000 in
theorem ok_l_draws {P : Program} {w : World} {K : PySem.W.Frag} {mg : Str → Option Value} {base : Heap} {f : Addr} {fd : FuncData} (F : Fun K "_law_draws" "_law_draws" s_l_draws f fd) (b_int : mg "int" = none) (b_range : mg "range" = none) :
    FnOk P w K mg base CX0 1 f fd ["cell", "many", "size"] (sp_l_draws K) := by
  refine F.ok sc_l_draws (fun vs H Q E h => ?_) (fun cdv A outer s H vs Q E hr h => ?_)
  · obtain ⟨cell, rfl, q⟩ := h
    rfl
  obtain ⟨cell, rfl, q⟩ := h
  refine ⟨_, (pss_cons (ps_set (i := 3) sc_l_draws.nd rfl (Or.inl rfl) (pe_lst pa_nil))
        (pss_cons (ps_set (i := 4) sc_l_draws.nd rfl (Or.inl rfl) (pe_op op_mul (pv 0) (pe_callTy call_int1 (by rfl) b_int PyProof.Rows.boot_int (pa_cons (pe_cmpR op_ge (pv 0) (pe_op op_pow pe_int pe_int) (nomark _)) pa_nil))))
        (pss_cons (ps_set (i := 5) sc_l_draws.nd rfl (Or.inl rfl) (pe_op op_mod (pv 0) pe_int))
        (pss_cons (ps_for PassesOwn.never rfl (pi_range1 rfl b_range (pa_cons (pe_op op_add (pv 1) pe_int) pa_nil)) (pg_name (i := 6) sc_l_draws.nd rfl (Or.inl rfl)) (pss_cons (ps_set (i := 5) sc_l_draws.nd rfl (Or.inl rfl) (pe_op op_mod (pe_op op_add (pe_op op_add (pe_op op_add (pe_op op_mul (pv 5) (pv 5)) (pe_op op_mul pe_int (pv 5))) (pv 6)) pe_int) pe_int))
        (pss_one (ps_if (PW.pt (pw_and (pt_cmpR op_gt (pv 6) pe_int (nomark _)) (pw_and1 (pt_cmpR op_gt (pv 4) pe_int (nomark _))))) (pss_cons (ps_expr (pe_bm PySem.F.plainAttrs_list PySem.F.slot_list_append PySem.F.type_list_append mt_append (pv 3) (pa_cons (pe_op op_mod (pv 4) (pv 2)) pa_nil)))
        (pss_one (ps_set (i := 4) sc_l_draws.nd rfl (Or.inl rfl) (pe_op op_fdiv (pv 4) (pv 2))))) (pss_one (ps_if (pt_cmpR op_gt (pv 6) pe_int (nomark _)) (pss_one (ps_expr (pe_bm PySem.F.plainAttrs_list PySem.F.slot_list_append PySem.F.type_list_append mt_append (pv 3) (pa_cons (pe_op op_mod (pe_op op_fdiv (pv 5) pe_int) (pv 2)) pa_nil)))) pss_nil))))))
        (pss_one (ps_ret (pv 3))))))), ?_⟩
  refine ⟨Nat.zero_le _, fun p np => ?_⟩
  refine ⟨_, rfl, _, rfl, _, _, rfl, rfl, ⟨by decide, by decide, by decide⟩, _, _, rfl, rfl, .inr ⟨_, rfl, _, _, rfl, rfl, .inr ?_, ?_⟩⟩
  · split <;> decide
  refine ⟨_, rfl, _, _, rfl, rfl, p0, ?_⟩
  refine ⟨_, rfl, _, _, rfl, rfl, _, rfl, by decide, by decide, ?_⟩
  refine for_range (lo := 0) (n := 403) (fun i σ H' => ∃ (r st : Int) (ds : List Int) (y : Option V), σ = [some (.int cell), some (.int 400), some (.int 1000), some (.ref p), some (.int r), some (.int st), y] ∧ Kp H H' ∧ H' p = some (.lst (ds.map V.int)) ∧ ds.length = i - 3 ∧ (∀ x ∈ ds, (0 : Int) ≤ x ∧ x < 1000) ∧ 0 ≤ st ∧ st < 2305843009213693951) ?_ ?_ ?_
  · exact ⟨_, _, [], _, rfl, .new (.refl H) np, upd_same, rfl, (fun x hx => nomatch hx), Int.emod_nonneg _ (by decide), Int.emod_lt_of_pos _ (by decide)⟩
  · rintro i σ H' hi ⟨r, st, ds, y, rfl, sm, e, hl, hd, h0, h1⟩
    refine ⟨_, rfl, _, rfl, _, _, rfl, rfl, .inl ⟨by omega, by omega⟩, _, rfl, _, _, rfl, rfl, .inl ⟨by decide, by decide⟩, _, _, rfl, rfl, _, rfl, _, _, rfl, rfl, _, _, rfl, rfl, _, _, rfl, rfl, p0, ?_⟩
    have hz : ∀ z : Int, 0 ≤ z % 2305843009213693951 ∧ z % 2305843009213693951 < 2305843009213693951 := fun z => ⟨Int.emod_nonneg _ (by decide), Int.emod_lt_of_pos _ (by decide)⟩
    have hx : ∀ z : Int, ∀ x ∈ ds ++ [z % 1000], (0 : Int) ≤ x ∧ x < 1000 := fun z x hx => by
      rcases List.mem_append.mp hx with g | g
      · exact hd x g
      · rw [List.mem_singleton.mp g]
        exact ⟨Int.emod_nonneg _ (by decide), Int.emod_lt_of_pos _ (by decide)⟩
    have hb : (ds.map V.int).length < sizeLine := by
      rw [List.length_map]
      exact small1000 (by omega)
    refine ⟨_, rfl, _, _, rfl, rfl, _, rfl, ite2 (fun c => ?_) (fun c => ?_)⟩
    · have c' := of_decide_eq_true c
      refine ⟨_, rfl, _, _, rfl, rfl, _, rfl, ite2 (fun c2 => ?_) (fun c2 => ?_)⟩
      · refine ⟨_, rfl, .inl ⟨rfl, _, SqL.of e⟩, _, rfl, _, rfl, _, _, rfl, rfl, p0, p, _, _, rfl, rfl, e, hb, ?_⟩
        refine ⟨_, rfl, _, rfl, _, _, rfl, rfl, ⟨by decide, by decide⟩, ?_⟩
        refine ⟨_, _, ds ++ [r % 1000], _, rfl, sm.fresh np, ?_, ?_, hx _, (hz _).1, (hz _).2⟩
        · rw [upd_same, List.map_append]
          rfl
        · rw [List.length_append, List.length_singleton]
          omega
      · refine ⟨_, rfl, _, _, rfl, rfl, _, rfl, ite2 (fun c3 => ?_) (fun c3 => absurd c c3)⟩
        refine ⟨_, rfl, .inl ⟨rfl, _, SqL.of e⟩, _, rfl, _, _, rfl, rfl, ⟨by decide, by decide⟩, _, rfl, _, _, rfl, rfl, p0, p, _, _, rfl, rfl, e, hb, ?_⟩
        refine ⟨_, _, ds ++ [(st * st + 48271 * st + (0 + (i : Int)) + 1) % 2305843009213693951 / 4096 % 1000], _, rfl, sm.fresh np, ?_, ?_, hx _, (hz _).1, (hz _).2⟩
        · rw [upd_same, List.map_append]
          rfl
        · rw [List.length_append, List.length_singleton]
          omega
    · refine iteF ⟨_, rfl, _, _, rfl, rfl, _, rfl, ite2 (fun c3 => absurd c3 c) (fun c3 => ?_)⟩
      have c' : ¬ ((2 : Int) < 0 + (i : Int)) := fun z => c (decide_eq_true z)
      exact ⟨_, _, ds, _, rfl, sm, e, by omega, hd, (hz _).1, (hz _).2⟩
  · rintro σ H' ⟨r, st, ds, y, rfl, sm, e, hl, hd, h0, h1⟩
    exact ⟨_, rfl, q p ds H' sm np e hl hd⟩
set_option maxHeartbeats 4000000 in
theorem ok_l_cell_at {P : Program} {w : World} {K : PySem.W.Frag} {mg : Str → Option Value} {base : Heap} {f : Addr} {fd : FuncData} (F : Fun K "_law_cell_at" "_law_cell_at" s_l_cell_at f fd) (b_len : mg "len" = none) :
    FnOk P w K mg base CX0 1 f fd ["script", "k"] (sp_l_cell_at K) := by
  refine F.ok sc_l_cell_at (fun vs H Q E h => ?_) (fun cdv A outer s H vs Q E hr h => ?_)
  · obtain ⟨a, ns, k, rfl, hS, h0, q⟩ := h
    rfl
  obtain ⟨a, ns, k, rfl, hS, h0, q⟩ := h
  refine ⟨_, (pss_cons (ps_if (pt_cmpR op_lt (pv 1) (pe_callB call_len_seq (by rfl) b_len PySem.boot_len (pa_cons (pv 0) pa_nil)) (nomark _)) (pss_one (ps_ret (pe_ix ix_list (pv 0) (pv 1) (fun _ _ => rfl)))) pss_nil)
        (pss_one (ps_ret pe_int))), ?_⟩
  refine ⟨_, rfl, _, rfl, a, _, rfl, .inl hS, _, _, rfl, rfl, _, rfl, ite2 (fun c => ?_) (fun c => ?_)⟩
  · have c' := of_decide_eq_true c
    rw [List.length_map] at c'
    obtain ⟨v, _, _, hv⟩ := at_int h0 c'
    exact ⟨_, rfl, _, rfl, a, _, _, _, rfl, rfl, hS, hv, q v⟩
  · exact q 0
set_option maxHeartbeats 4000000 in
theorem ok_l_bag {P : Program} {w : World} {K : PySem.W.Frag} {mg : Str → Option Value} {base : Heap} {f : Addr} {fd : FuncData} (F : Fun K "_law_bag" "_law_bag" s_l_bag f fd) (D_l_draws : Def P w K mg base "_law_draws" 1 ["cell", "many", "size"] (sp_l_draws K)) (D_l_cell_at : Def P w K mg base "_law_cell_at" 1 ["script", "k"] (sp_l_cell_at K)) :
    FnOk P w K mg base CX0 2 f fd ["script", "k"] (sp_l_bag K) := by
  refine F.ok sc_l_bag (fun vs H Q E h => ?_) (fun cdv A outer s H vs Q E hr h => ?_)
  · obtain ⟨a, ns, k, rfl, hS, h0, q⟩ := h
    rfl
  obtain ⟨a, ns, k, rfl, hS, h0, q⟩ := h
  refine ⟨_, (pss_one (ps_ret (pe_lst (pa_cons (pe_def D_l_draws hr (pa_cons (pe_def D_l_cell_at hr (pa_cons (pv 0) (pa_cons (pv 1) pa_nil))) (pa_cons pe_int (pa_cons pe_int pa_nil)))) (pa_cons pe_int pa_nil))))), ?_⟩
  refine ⟨_, rfl, _, rfl, a, ns, k, rfl, hS, h0, fun v => ?_⟩
  refine ⟨v, rfl, fun d ds H1 k1 nd e hl hd => ?_⟩
  refine ⟨(by show 2 ≤ sizeLine; decide), fun p np => ?_⟩
  refine q p _ (k1.new np) ⟨d, 0, ds, upd_same, ?_, hl, hd⟩ (k1.none np)
  rw [upd_ne (ne_of_none e np)]
  exact e
set_option maxHeartbeats 4000000 in
theorem ok_l_bags {P : Program} {w : World} {K : PySem.W.Frag} {mg : Str → Option Value} {base : Heap} {f : Addr} {fd : FuncData} (F : Fun K "_law_bags" "_law_bags" s_l_bags f fd) (D_l_bag : Def P w K mg base "_law_bag" 2 ["script", "k"] (sp_l_bag K)) (b_range : mg "range" = none) (b_max : mg "max" = none) (b_min : mg "min" = none) (b_len : mg "len" = none) :
    FnOk P w K mg base CX0 3 f fd ["script", "limit"] (sp_l_bags K) := by
  refine F.ok sc_l_bags (fun vs H Q E h => ?_) (fun cdv A outer s H vs Q E hr h => ?_)
  · obtain ⟨a, ns, m, rfl, hS, h63, m0, m1, q⟩ := h
    rfl
  obtain ⟨a, ns, m, rfl, hS, h63, m0, m1, q⟩ := h
  refine ⟨_, (pss_one (ps_ret (pe_lc (own := [("k", 2)]) (g := gName 2) (tt := tYes) rfl sc_l_bags.nd (pi_range1 rfl b_range (pa_cons (pe_callB (call_max2 rfl) (by rfl) b_max PyProof.Rows.boot_max (pa_cons pe_int (pa_cons (pe_callB (call_min2 rfl) (by rfl) b_min PyProof.Rows.boot_min (pa_cons (pv 1) (pa_cons (pe_callB call_len_seq (by rfl) b_len PySem.boot_len (pa_cons (pv 0) pa_nil)) pa_nil))) pa_nil))) pa_nil)) (blkOk_by (own := [("k", 2)]) (N := ["script", "limit", "k"]) (sc := defScope s_l_bags) (by decide +kernel)) (fun _ _ _ _ _ => (pg_name (i := 2) sc_l_bags.nd rfl (Or.inl rfl))) (fun _ _ _ _ _ => pts_nil) (fun _ _ _ _ _ => (pe_def D_l_bag hr (pa_cons (pv 0) (pa_cons (pv 2) pa_nil))))))), ?_⟩
  refine ⟨_, rfl, _, rfl, a, _, rfl, .inl hS, _, _, rfl, _, _, rfl, _, rfl, ?_⟩
  generalize hn : (if (if (((ns.map V.int).length : Nat) : Int) < m then (((ns.map V.int).length : Nat) : Int) else m) > 1 then (if (((ns.map V.int).length : Nat) : Int) < m then (((ns.map V.int).length : Nat) : Int) else m) else 1) = n
  have h1 : 1 ≤ n ∧ n ≤ 1000 := by
    rw [List.length_map] at hn
    split at hn <;> split at hn <;> omega
  refine ⟨by omega, by omega, fun D nD => ?_⟩
  refine lc_range (lo := 0) (n := n.toNat) (fun i H' => ∃ bs : List Addr, bs.length = i ∧ Kp H H' ∧ H' D = some (.lst (bs.map V.ref)) ∧ ∀ b ∈ bs, Bag H' b) ?_ ?_ ?_
  · exact ⟨[], rfl, .new (.refl H) nD, upd_same, fun b hb => nomatch hb⟩
  · rintro i H1 hi ⟨bs, hl, k1, e, hb⟩
    refine ⟨rfl, _, rfl, _, rfl, a, ns, _, rfl, k1.ints hS, by omega, fun p H2 k2 hp np => ?_⟩
    have e2 : H2 D = some (.lst (bs.map V.ref)) := k2.keep _ _ e nrefs
    refine ⟨_, e2, ?_, bs ++ [p], ?_, (k1.trans k2).fresh nD, ?_, fun b hm => ?_⟩
    · rw [List.length_map]
      exact small1000 (by omega)
    · rw [List.length_append, List.length_singleton, hl]
    · rw [upd_same, List.map_append]
      rfl
    · have hg : Bag H2 b := by
        rcases List.mem_append.mp hm with g | g
        · exact k2.bags (hb b g)
        · rw [List.mem_singleton.mp g]
          exact hp
      exact bag_upd hg e2
  · rintro H1 ⟨bs, hl, k1, e, hb⟩
    exact q D bs H1 k1 nD e (by omega) hb
set_option maxHeartbeats 4000000 in
theorem ok_l_take {P : Program} {w : World} {K : PySem.W.Frag} {mg : Str → Option Value} {base : Heap} {f : Addr} {fd : FuncData} (F : Fun K "_law_take" "_law_take" s_l_take f fd) (b_len : mg "len" = none) :
    FnOk P w K mg base CX0 1 f fd ["bag", "many"] (sp_l_take K) := by
  refine F.ok sc_l_take (fun vs H Q E h => ?_) (fun cdv A outer s H vs Q E hr h => ?_)
  · obtain ⟨b, m, rfl, hB, hm, q⟩ := h
    rfl
  obtain ⟨b, m, rfl, hB, hm, q⟩ := h
  refine ⟨_, (pss_cons (ps_asg (pe_op op_add (pe_ix ix_list (pv 0) pe_int (fun _ _ => rfl)) pe_int) (pg_sub (pv 0) pe_int set_list))
        (pss_one (ps_ret (pe_op op_mod (pe_ix ix_list (pe_ix ix_list (pv 0) pe_int (fun _ _ => rfl)) (pe_op op_mod (pe_ix ix_list (pv 0) pe_int (fun _ _ => rfl)) (pe_callB call_len_seq (by rfl) b_len PySem.boot_len (pa_cons (pe_ix ix_list (pv 0) pe_int (fun _ _ => rfl)) pa_nil))) (fun _ _ => rfl)) (pv 1))))), ?_⟩
  obtain ⟨d, c, ds, h1, h2, h3, h4⟩ := hB
  refine ⟨_, rfl, b, _, _, _, rfl, rfl, SqL.of h1, atI_nat (j := 1) rfl, _, _, rfl, rfl, _, rfl, b, _, _, 1, rfl, rfl, h1, rfl, ?_⟩
  have e1 : (upd H b (.lst [.ref d, .int (c + 1)])) b = some (.lst [.ref d, .int (c + 1)]) := upd_same
  have nd : d ≠ b := ne_of h2 h1 (by
    intro z
    exact nint (ns := ds) ⟨d, c, z⟩)
  have e2 : (upd H b (.lst [.ref d, .int (c + 1)])) d = some (.lst (ds.map V.int)) := by
    rw [upd_ne nd]
    exact h2
  have hl : (((ds.map V.int).length : Nat) : Int) = 400 := by
    rw [List.length_map, h3]
    rfl
  obtain ⟨v, _, _, hv⟩ := at_int (ns := ds) (k := (c + 1) % (((ds.map V.int).length : Nat) : Int)) (by rw [hl]; exact Int.emod_nonneg _ (by decide)) (by rw [hl, h3]; exact Int.emod_lt_of_pos _ (by decide))
  refine ⟨_, rfl, b, _, _, _, rfl, rfl, SqL.of e1, atI_nat (j := 0) rfl, _, rfl, b, _, _, _, rfl, rfl, SqL.of e1, atI_nat (j := 1) rfl, _, rfl, b, _, _, _, rfl, rfl, SqL.of e1, atI_nat (j := 0) rfl, d, _, rfl, .inl (SqL.of e2), _, _, rfl, rfl, (by rw [hl]; exact p0), d, _, _, _, rfl, rfl, SqL.of e2, hv, _, rfl, _, _, rfl, rfl, hm, ?_⟩
  exact q _ _ (Int.emod_nonneg _ (by omega)) (Int.emod_lt_of_pos _ hm) (.bump h1)
set_option maxHeartbeats 4000000 in
theorem ok_l_kinds {P : Program} {w : World} {K : PySem.W.Frag} {mg : Str → Option Value} {base : Heap} {f : Addr} {fd : FuncData} (F : Fun K "_law_kinds" "_law_kinds" s_l_kinds f fd) (D_l_take : Def P w K mg base "_law_take" 1 ["bag", "many"] (sp_l_take K)) (b_range : mg "range" = none) (b_min : mg "min" = none) (b_tuple : mg "tuple" = none) :
    FnOk P w K mg base CX0 2 f fd ["bag", "far"] (sp_l_kinds K) := by
  refine F.ok sc_l_kinds (fun vs H Q E h => ?_) (fun cdv A outer s H vs Q E hr h => ?_)
  · obtain ⟨b, fr, rfl, hB, hf, q⟩ := h
    rfl
  obtain ⟨b, fr, rfl, hB, hf, q⟩ := h
  refine ⟨_, (pss_cons (ps_set (i := 2) sc_l_kinds.nd rfl (Or.inl rfl) (pe_lst pa_nil))
        (pss_cons (ps_for PassesOwn.never rfl (pi_range1 rfl b_range (pa_cons (pe_op op_add pe_int (pe_def D_l_take hr (pa_cons (pv 0) (pa_cons pe_int pa_nil)))) pa_nil)) (pg_name (i := 3) sc_l_kinds.nd rfl (Or.inl rfl)) (pss_one (ps_expr (pe_bm PySem.F.plainAttrs_list PySem.F.slot_list_append PySem.F.type_list_append mt_append (pv 2) (pa_cons (pe_op op_add pe_int (pe_ix ix_list (pe_lst (pa_cons (pe_def D_l_take hr (pa_cons (pv 0) (pa_cons (pe_callB (call_min2 rfl) (by rfl) b_min PyProof.Rows.boot_min (pa_cons pe_int (pa_cons (pe_op op_sub (pv 1) pe_int) pa_nil))) pa_nil))) (pa_cons (pe_def D_l_take hr (pa_cons (pv 0) (pa_cons (pe_op op_sub (pv 1) pe_int) pa_nil))) pa_nil))) (pe_def D_l_take hr (pa_cons (pv 0) (pa_cons pe_int pa_nil))) (fun _ _ => rfl))) pa_nil)))))
        (pss_one (ps_ret (pe_callTy call_tuple_of (by rfl) b_tuple PyProof.Rows.boot_tuple (pa_cons (pv 2) pa_nil)))))), ?_⟩
  refine ⟨Nat.zero_le _, fun p np => ?_⟩
  have kp := (Kp.refl H).new (o := .lst []) np
  refine ⟨_, rfl, b, _, rfl, kp.bags hB, p0, fun r H1 r0 r1 k0 => ?_⟩
  refine ⟨_, _, rfl, rfl, _, rfl, by omega, by omega, ?_⟩
  refine for_range (lo := 0) (n := (1 + r).toNat) (fun i σ H' => ∃ (cs : List Int) (y : Option V), σ = [some (.ref b), some (.int fr), some (.ref p), y] ∧ Kp H H' ∧ H' p = some (.lst (cs.map V.int)) ∧ cs.length = i ∧ ∀ c ∈ cs, 2 ≤ c ∧ c ≤ fr) ?_ ?_ ?_
  · exact ⟨[], _, rfl, kp.trans k0, k0.keep _ _ upd_same (nint (ns := [])), rfl, fun c hc => nomatch hc⟩
  · rintro i σ H' hi ⟨cs, y, rfl, k1, e, hl, hc⟩
    refine ⟨_, rfl, .inl ⟨rfl, _, SqL.of e⟩, _, rfl, _, rfl, _, _, rfl, rfl, _, _, rfl, b, _, rfl, k1.bags hB, ?_, fun r1' H2 a0 a1 k2 => ?_⟩
    · split <;> omega
    refine ⟨_, rfl, _, rfl, _, _, rfl, rfl, b, _, rfl, (k1.trans k2).bags hB, by omega, fun r2 H3 b0 b1 k3 => ?_⟩
    refine ⟨(by show 2 ≤ sizeLine; decide), fun l nl => ?_⟩
    have k4 := ((k1.trans k2).trans k3).new (o := .lst (([r1', r2] : List Int).map V.int)) nl
    refine ⟨_, rfl, b, _, rfl, k4.bags hB, p0, fun r3 H4 c0 c1 k5 => ?_⟩
    have el : H4 l = some (.lst (([r1', r2] : List Int).map V.int)) := k5.keep _ _ upd_same nint
    obtain ⟨v, hv, _, ha⟩ := at_int (ns := [r1', r2]) (k := r3) c0 c1
    have e3 : H3 p = some (.lst (cs.map V.int)) := k3.keep _ _ (k2.keep _ _ e nint) nint
    have e4 : H4 p = some (.lst (cs.map V.int)) := k5.keep _ _ (by rw [upd_ne (ne_of_none e3 nl)]; exact e3) nint
    refine ⟨l, _, _, _, rfl, rfl, SqL.of el, ha, _, _, rfl, rfl, p, _, _, rfl, rfl, e4, ?_, cs ++ [2 + v], _, rfl, (k4.trans k5).fresh np, ?_, ?_, fun c hm => ?_⟩
    · rw [List.length_map]
      exact small1000 (by omega)
    · rw [upd_same, List.map_append]
      rfl
    · rw [List.length_append, List.length_singleton, hl]
    · rcases List.mem_append.mp hm with g | g
      · exact hc c g
      · rw [List.mem_singleton.mp g]
        simp only [List.mem_cons, List.not_mem_nil, or_false] at hv
        have a2 : r1' ≤ fr - 2 := by
          split at a1 <;> omega
        omega
  · rintro σ H' ⟨cs, y, rfl, k1, e, hl, hc⟩
    refine ⟨_, rfl, p, _, rfl, .inl ⟨SqL.of e, fun t nt => ?_⟩⟩
    exact q t cs _ (k1.new nt) upd_same (by omega) (by omega) hc
set_option maxHeartbeats 4000000 in
theorem ok_l_far_draw {P : Program} {w : World} {K : PySem.W.Frag} {mg : Str → Option Value} {base : Heap} {f : Addr} {fd : FuncData} (F : Fun K "_law_far_draw" "_law_far_draw" s_l_far_draw f fd) (D_l_take : Def P w K mg base "_law_take" 1 ["bag", "many"] (sp_l_take K)) :
    FnOk P w K mg base CX0 2 f fd ["bag", "many"] (sp_l_far_draw K) := by
  refine F.ok sc_l_far_draw (fun vs H Q E h => ?_) (fun cdv A outer s H vs Q E hr h => ?_)
  · obtain ⟨b, m, rfl, hB, hm, q⟩ := h
    rfl
  obtain ⟨b, m, rfl, hB, hm, q⟩ := h
  refine ⟨_, (pss_cons (ps_par (i := 2) (j := 3) rfl sc_l_far_draw.nd rfl rfl (by decide) rfl rfl (pa_cons pe_int (pa_cons (pv 1) pa_nil)) (by rfl))
        (pss_cons (ps_while PassesOwn.never (pt_cmpR op_gt (pv 3) pe_int (nomark _)) (pss_one (ps_par (i := 2) (j := 3) rfl sc_l_far_draw.nd rfl rfl (by decide) rfl rfl (pa_cons (pe_op op_add (pe_op op_mul pe_int (pv 2)) (pe_def D_l_take hr (pa_cons (pv 0) (pa_cons pe_int pa_nil)))) (pa_cons (pe_op op_fdiv (pv 3) pe_int) pa_nil)) (by rfl))))
        (pss_one (ps_ret (pe_ix ix_list (pe_lst (pa_cons (pe_op op_mod (pv 2) (pv 1)) (pa_cons pe_int (pa_cons (pe_op op_sub (pv 1) pe_int) (pa_cons (pe_op op_mod (pv 2) (pv 1)) pa_nil))))) (pe_def D_l_take hr (pa_cons (pv 0) (pa_cons pe_int pa_nil))) (fun _ _ => rfl)))))), ?_⟩
  refine ⟨_, rfl, _, _, rfl, ?_⟩
  refine while_by (fun σ H' => ∃ (fo mu : Int), σ = [some (.ref b), some (.int m), some (.int fo), some (.int mu)] ∧ 0 ≤ mu ∧ Kp H H') (fun (σ : L2.St) (_ : Hp) => match σ[3]? with | some (some (V.int k)) => k.toNat | _ => 0) ?_ ?_ ?_
  · exact ⟨_, _, rfl, by omega, .refl H⟩
  · rintro σ H' ⟨fo, mu, rfl, hm0, k1⟩
    refine ⟨_, rfl, _, _, rfl, rfl, _, rfl, ite2 (fun c => ?_) (fun c => ?_)⟩
    · have c' := of_decide_eq_true c
      refine ⟨_, rfl, _, _, rfl, rfl, .inl ⟨by decide, by decide⟩, _, rfl, b, _, rfl, k1.bags hB, p0, fun r H2 h0 h1 k2 => ?_⟩
      refine ⟨_, _, rfl, rfl, _, rfl, _, _, rfl, rfl, ⟨by decide, by decide⟩, _, _, rfl, ⟨_, _, rfl, by omega, k1.trans k2⟩, ?_⟩
      show (mu / 1000).toNat < mu.toNat
      omega
    · refine ⟨_, rfl, _, rfl, _, _, rfl, rfl, hm, _, rfl, _, _, rfl, rfl, _, rfl, _, rfl, _, _, rfl, rfl, hm, (by show 4 ≤ sizeLine; decide), fun p np => ?_⟩
      have k2 := k1.new (o := .lst (([fo % m, 0, m - 1, fo % m] : List Int).map V.int)) np
      refine ⟨_, rfl, b, _, rfl, k2.bags hB, p0, fun r H2 h0 h1 k3 => ?_⟩
      have e : H2 p = some (.lst (([fo % m, 0, m - 1, fo % m] : List Int).map V.int)) := k3.keep _ _ upd_same nint
      obtain ⟨v, hv, _, ha⟩ := at_int (ns := [fo % m, 0, m - 1, fo % m]) (k := r) h0 h1
      refine ⟨p, _, _, _, rfl, rfl, SqL.of e, ha, ?_⟩
      have z1 := Int.emod_nonneg fo (show m ≠ 0 by omega)
      have z2 := Int.emod_lt_of_pos fo hm
      have hb : 0 ≤ v ∧ v < m := by
        simp only [List.mem_cons, List.not_mem_nil, or_false] at hv
        omega
      exact q v H2 hb.1 hb.2 (k2.trans k3)
  · rintro σ H' Q1 Q2 hq ⟨v, e, i, j, e1, e2, k, e3, h⟩
    exact ⟨v, e, i, j, e1, e2, k, e3, hq _ _ h⟩
set_option maxHeartbeats 4000000 in
theorem ok_l_stamps_for {P : Program} {w : World} {K : PySem.W.Frag} {mg : Str → Option Value} {base : Heap} {f : Addr} {fd : FuncData} (F : Fun K "_law_stamps_for" "_law_stamps_for" s_l_stamps_for f fd) (D_l_far_draw : Def P w K mg base "_law_far_draw" 2 ["bag", "many"] (sp_l_far_draw K)) (D_l_take : Def P w K mg base "_law_take" 1 ["bag", "many"] (sp_l_take K)) (b_tuple : mg "tuple" = none) :
    FnOk P w K mg base CX0 3 f fd ["bag", "kinds", "far"] (sp_l_stamps_for K) := by
  refine F.ok sc_l_stamps_for (fun vs H Q E h => ?_) (fun cdv A outer s H vs Q E hr h => ?_)
  · obtain ⟨b, kA, cs, fr, rfl, hB, hK, h3, hf, q⟩ := h
    rfl
  obtain ⟨b, kA, cs, fr, rfl, hB, hK, h3, hf, q⟩ := h
  refine ⟨_, (pss_one (ps_ret (pe_callTy call_tuple_of (by rfl) b_tuple PyProof.Rows.boot_tuple (pa_cons (pe_lc (own := [("one", 3)]) (g := gName 3) (tt := tYes) rfl sc_l_stamps_for.nd (pi_tup (pv 1)) (blkOk_by (own := [("one", 3)]) (N := ["bag", "kinds", "far", "one"]) (sc := defScope s_l_stamps_for) (by decide +kernel)) (fun _ _ _ _ _ => (pg_name (i := 3) sc_l_stamps_for.nd rfl (Or.inl rfl))) (fun _ _ _ _ _ => pts_nil) (fun _ _ _ _ _ => (pe_ix (ix_listK K) (pe_lst (pa_cons pe_int (pa_cons (pe_def D_l_far_draw hr (pa_cons (pv 0) (pa_cons (pe_op op_add (pv 2) pe_int) pa_nil))) pa_nil))) (pe_def D_l_take hr (pa_cons (pv 0) (pa_cons pe_int pa_nil))) (fun _ _ => rfl)))) pa_nil)))), ?_⟩
  refine ⟨_, rfl, kA, rfl, ⟨_, hK⟩, fun D nD => ?_⟩
  refine lc_tup (K := K) (a := kA) (xs := cs.map V.int) (fun i H' => ∃ ss : List Int, ss.length = i ∧ Kp H H' ∧ H' D = some (.lst (ss.map V.int)) ∧ ∀ x ∈ ss, 0 ≤ x ∧ x ≤ fr) ?_ ?_ ?_ ?_
  · exact ⟨[], rfl, .new (.refl H) nD, upd_same, fun c hc => nomatch hc⟩
  · rintro i H' hi ⟨ss, hl, k1, e, hs⟩
    exact k1.tup hK
  · rintro i x H1 hi ⟨ss, hl, k1, e, hs⟩
    have hi' : i < 3 := by
      have := (List.getElem?_eq_some_iff.mp hi).1
      rw [List.length_map] at this
      omega
    refine ⟨rfl, _, rfl, _, rfl, _, _, rfl, rfl, b, _, rfl, k1.bags hB, by omega, fun r1 H2 a0 a1 k2 => ?_⟩
    refine ⟨(by show 2 ≤ sizeLine; decide), fun l nl => ?_⟩
    have k4 := (k1.trans k2).new (o := .lst (([0, r1] : List Int).map V.int)) nl
    refine ⟨_, rfl, b, _, rfl, k4.bags hB, p0, fun r3 H4 c0 c1 k5 => ?_⟩
    have el : H4 l = some (.lst (([0, r1] : List Int).map V.int)) := k5.keep _ _ upd_same nint
    obtain ⟨v, hv, _, ha⟩ := at_int (ns := [0, r1]) (k := r3) c0 c1
    have e3 : H2 D = some (.lst (ss.map V.int)) := k2.keep _ _ e nint
    have e4 : H4 D = some (.lst (ss.map V.int)) := k5.keep _ _ (by rw [upd_ne (ne_of_none e3 nl)]; exact e3) nint
    refine ⟨l, _, _, _, rfl, rfl, SqL.of el, ha, _, e4, ?_, ss ++ [v], ?_, (k4.trans k5).fresh nD, ?_, fun c hm => ?_⟩
    · rw [List.length_map]
      exact small1000 (by omega)
    · rw [List.length_append, List.length_singleton, hl]
    · rw [upd_same, List.map_append]
      rfl
    · rcases List.mem_append.mp hm with g | g
      · exact hs c g
      · rw [List.mem_singleton.mp g]
        simp only [List.mem_cons, List.not_mem_nil, or_false] at hv
        omega
  · rintro H1 ⟨ss, hl, k1, e, hs⟩
    refine ⟨D, _, rfl, .inl ⟨SqL.of e, fun t nt => ?_⟩⟩
    exact q t ss _ (k1.new nt) upd_same (by rw [hl, List.length_map]) hs
set_option maxHeartbeats 4000000 in
theorem ok_l_had {P : Program} {w : World} {K : PySem.W.Frag} {mg : Str → Option Value} {base : Heap} {f : Addr} {fd : FuncData} (F : Fun K "_law_had" "_law_had" s_l_had f fd) (D_l_stamps_for : Def P w K mg base "_law_stamps_for" 3 ["bag", "kinds", "far"] (sp_l_stamps_for K)) (D_l_far_draw : Def P w K mg base "_law_far_draw" 2 ["bag", "many"] (sp_l_far_draw K)) :
    FnOk P w K mg base CX0 4 f fd ["bag", "kinds", "far"] (sp_l_had K) := by
  refine F.ok sc_l_had (fun vs H Q E h => ?_) (fun cdv A outer s H vs Q E hr h => ?_)
  · obtain ⟨b, kA, cs, fr, rfl, hB, hK, h3, hf, q⟩ := h
    rfl
  obtain ⟨b, kA, cs, fr, rfl, hB, hK, h3, hf, q⟩ := h
  refine ⟨_, (pss_one (ps_ret (pe_tup (pa_cons (pe_def D_l_far_draw hr (pa_cons (pv 0) (pa_cons (pe_op op_add (pv 2) pe_int) pa_nil))) (pa_cons (pe_def D_l_stamps_for hr (pa_cons (pv 0) (pa_cons (pv 1) (pa_cons (pv 2) pa_nil)))) pa_nil))))), ?_⟩
  refine ⟨_, rfl, _, rfl, _, _, rfl, rfl, b, _, rfl, hB, by omega, fun r H1 a0 a1 k1 => ?_⟩
  refine ⟨_, rfl, _, rfl, _, rfl, b, kA, cs, fr, rfl, k1.bags hB, k1.tup hK, h3, hf, fun sA ss H2 k2 e hl hs => ?_⟩
  refine ⟨(by show 2 ≤ sizeLine; decide), fun p np => ?_⟩
  exact q p sA r ss _ ((k1.trans k2).new np) upd_same (by rw [upd_ne (ne_of_none e np)]; exact e) a0 (by omega) hl hs
set_option maxHeartbeats 4000000 in
theorem ok_l_odd {P : Program} {w : World} {K : PySem.W.Frag} {mg : Str → Option Value} {base : Heap} {f : Addr} {fd : FuncData} (F : Fun K "_law_odd" "_law_odd" s_l_odd f fd) (b_len : mg "len" = none) :
    FnOk P w K mg base CX0 1 f fd ["picks"] (sp_l_odd K) := by
  refine F.ok sc_l_odd (fun vs H Q E h => ?_) (fun cdv A outer s H vs Q E hr h => ?_)
  · obtain ⟨pA, ns, rfl, hS, h2, q⟩ := h
    rfl
  obtain ⟨pA, ns, rfl, hS, h2, q⟩ := h
  refine ⟨_, (pss_cons (ps_set (i := 1) sc_l_odd.nd rfl (Or.inl rfl) (pe_lst (pa_cons pe_non (pa_cons pe_bl (pa_cons pe_bl (pa_cons (pe_un un_neg pe_int) (pa_cons pe_int (pa_cons pe_int (pa_cons pe_int (pa_cons pe_int (pa_cons pe_int (pa_cons (pe_op op_pow pe_int pe_int) (pa_cons (pe_op op_add (pe_op op_pow pe_int pe_int) pe_int) (pa_cons (pe_op op_pow pe_int pe_int) (pa_cons pe_str (pa_cons pe_str (pa_cons pe_str pa_nil)))))))))))))))))
        (pss_cons (ps_set (i := 1) sc_l_odd.nd rfl (Or.inl rfl) (pe_op op_cat (pv 1) (pe_lst (pa_cons (pe_tup pa_nil) (pa_cons (pe_lst pa_nil) (pa_cons (pe_tup (pa_cons pe_int pa_nil)) (pa_cons (pe_tup (pa_cons pe_int pa_nil)) (pa_cons (pe_lst (pa_cons pe_int pa_nil)) (pa_cons (pe_tup (pa_cons pe_int (pa_cons pe_int pa_nil))) (pa_cons (pe_tup (pa_cons pe_int (pa_cons pe_int pa_nil))) pa_nil))))))))))
        (pss_cons (ps_set (i := 1) sc_l_odd.nd rfl (Or.inl rfl) (pe_op op_cat (pv 1) (pe_lst (pa_cons (pe_tup (pa_cons pe_int pa_nil)) (pa_cons (pe_tup (pa_cons pe_int (pa_cons pe_int (pa_cons pe_int (pa_cons pe_int pa_nil))))) (pa_cons (pe_tup (pa_cons pe_int (pa_cons (pe_tup (pa_cons pe_int pa_nil)) pa_nil))) (pa_cons (pe_tup (pa_cons pe_int (pa_cons (pe_tup pa_nil) pa_nil))) (pa_cons (pe_lst (pa_cons pe_int (pa_cons (pe_tup (pa_cons pe_int pa_nil)) pa_nil))) (pa_cons (pe_tup (pa_cons pe_non pa_nil)) (pa_cons pe_str pa_nil))))))))))
        (pss_one (ps_ret (pe_ix ix_list (pv 1) (pe_op op_mod (pe_op op_add (pe_ix ix_list (pv 0) pe_int (fun _ _ => rfl)) (pe_op op_mul pe_int (pe_ix ix_list (pv 0) pe_int (fun _ _ => rfl)))) (pe_callB call_len_seq (by rfl) b_len PySem.boot_len (pa_cons (pv 1) pa_nil))) (fun _ _ => rfl))))))), ?_⟩
  have cp : ∀ {j : Int}, 0 ≤ j → j ≤ 1000000 → CPow 10 j := fun h1 h2 => ⟨h1, h2, by decide⟩
  refine ⟨_, rfl, 10, 18, rfl, rfl, cp (by decide) (by decide), 10, 18, rfl, rfl, cp (by decide) (by decide), _, _, rfl, rfl, 10, 30, rfl, rfl, cp (by decide) (by decide), (by show 15 ≤ sizeLine; decide), fun o1 m1 => ?_⟩
  have w0 := (Same.refl H).trans (same_upd (o := .lst [.non, .bl true, .bl false, .int (-1), .int 0, .int 1, .int 2, .int 20, .int 21, .int (10 ^ (Int.toNat 18)), .int (10 ^ (Int.toNat 18) + 1), .int (10 ^ (Int.toNat 30)), .str "", .str "ride", .str "a"]) m1)
  refine ⟨_, rfl, (by show 0 ≤ sizeLine; decide), fun t1 n1 => ?_⟩
  have u1 := same_upd (o := .tup []) n1
  refine ⟨(by show 0 ≤ sizeLine; decide), fun t2 n2 => ?_⟩
  have u2 := same_upd (o := .lst []) n2
  refine ⟨(by show 1 ≤ sizeLine; decide), fun t3 n3 => ?_⟩
  have u3 := same_upd (o := .tup [.int 0]) n3
  refine ⟨(by show 1 ≤ sizeLine; decide), fun t4 n4 => ?_⟩
  have u4 := same_upd (o := .tup [.int 2]) n4
  refine ⟨(by show 1 ≤ sizeLine; decide), fun t5 n5 => ?_⟩
  have u5 := same_upd (o := .lst [.int 2]) n5
  refine ⟨(by show 2 ≤ sizeLine; decide), fun t6 n6 => ?_⟩
  have u6 := same_upd (o := .tup [.int 2, .int 2]) n6
  refine ⟨(by show 2 ≤ sizeLine; decide), fun t7 n7 => ?_⟩
  have u7 := same_upd (o := .tup [.int 1, .int 2]) n7
  refine ⟨(by show 7 ≤ sizeLine; decide), fun o2 m2 => ?_⟩
  have v2 := same_upd (o := .lst [.ref t1, .ref t2, .ref t3, .ref t4, .ref t5, .ref t6, .ref t7]) m2
  have x1 := (((((((u1.trans u2).trans u3).trans u4).trans u5).trans u6).trans u7).trans v2)
  refine ⟨o1, o2, _, _, rfl, rfl, x1 _ _ upd_same, upd_same, (by show 22 ≤ sizeLine; decide), fun o3 m3 => ?_⟩
  have v3 := same_upd (o := .lst (([.non, .bl true, .bl false, .int (-1), .int 0, .int 1, .int 2, .int 20, .int 21, .int (10 ^ (Int.toNat 18)), .int (10 ^ (Int.toNat 18) + 1), .int (10 ^ (Int.toNat 30)), .str "", .str "ride", .str "a"] : List V) ++ [.ref t1, .ref t2, .ref t3, .ref t4, .ref t5, .ref t6, .ref t7])) m3
  refine ⟨_, rfl, (by show 1 ≤ sizeLine; decide), fun t8 n8 => ?_⟩
  have u8 := same_upd (o := .tup [.int 21]) n8
  refine ⟨(by show 4 ≤ sizeLine; decide), fun t9 n9 => ?_⟩
  have u9 := same_upd (o := .tup [.int 2, .int 3, .int 4, .int 5]) n9
  refine ⟨(by show 1 ≤ sizeLine; decide), fun t10 n10 => ?_⟩
  have u10 := same_upd (o := .tup [.int 0]) n10
  refine ⟨(by show 2 ≤ sizeLine; decide), fun t11 n11 => ?_⟩
  have u11 := same_upd (o := .tup [.int 0, .ref t10]) n11
  refine ⟨(by show 0 ≤ sizeLine; decide), fun t12 n12 => ?_⟩
  have u12 := same_upd (o := .tup []) n12
  refine ⟨(by show 2 ≤ sizeLine; decide), fun t13 n13 => ?_⟩
  have u13 := same_upd (o := .tup [.int 0, .ref t12]) n13
  refine ⟨(by show 1 ≤ sizeLine; decide), fun t14 n14 => ?_⟩
  have u14 := same_upd (o := .tup [.int 0]) n14
  refine ⟨(by show 2 ≤ sizeLine; decide), fun t15 n15 => ?_⟩
  have u15 := same_upd (o := .lst [.int 0, .ref t14]) n15
  refine ⟨(by show 1 ≤ sizeLine; decide), fun t16 n16 => ?_⟩
  have u16 := same_upd (o := .tup [.non]) n16
  refine ⟨(by show 7 ≤ sizeLine; decide), fun o4 m4 => ?_⟩
  have v4 := same_upd (o := .lst [.ref t8, .ref t9, .ref t11, .ref t13, .ref t15, .ref t16, .str "rides"]) m4
  have x2 := (((((((((u8.trans u9).trans u10).trans u11).trans u12).trans u13).trans u14).trans u15).trans u16).trans v4)
  refine ⟨o3, o4, _, _, rfl, rfl, x2 _ _ upd_same, upd_same, (by show 29 ≤ sizeLine; decide), fun o5 m5 => ?_⟩
  have v5 := same_upd (o := .lst ((([.non, .bl true, .bl false, .int (-1), .int 0, .int 1, .int 2, .int 20, .int 21, .int (10 ^ (Int.toNat 18)), .int (10 ^ (Int.toNat 18) + 1), .int (10 ^ (Int.toNat 30)), .str "", .str "ride", .str "a"] : List V) ++ [.ref t1, .ref t2, .ref t3, .ref t4, .ref t5, .ref t6, .ref t7]) ++ [.ref t8, .ref t9, .ref t11, .ref t13, .ref t15, .ref t16, .str "rides"])) m5
  have y16 := v4.trans v5
  have y15 := u16.trans y16
  have y14 := u15.trans y15
  have y13 := u14.trans y14
  have y12 := u13.trans y13
  have y11 := u12.trans y12
  have y10 := u11.trans y11
  have y9 := u10.trans y10
  have y8 := u9.trans y9
  have y7 := v2.trans (v3.trans (u8.trans y8))
  have y6 := u7.trans y7
  have y5 := u6.trans y6
  have y4 := u5.trans y5
  have y3 := u4.trans y4
  have y2 := u3.trans y3
  have y1 := u2.trans y2
  have yH := w0.trans (u1.trans y1)
  have f1 := w0.free n1
  have f2 := (w0.trans u1).free n2
  have f3 := ((w0.trans u1).trans u2).free n3
  have f4 := (((w0.trans u1).trans u2).trans u3).free n4
  have f5 := ((((w0.trans u1).trans u2).trans u3).trans u4).free n5
  have f6 := (((((w0.trans u1).trans u2).trans u3).trans u4).trans u5).free n6
  have f7 := ((((((w0.trans u1).trans u2).trans u3).trans u4).trans u5).trans u6).free n7
  have f8 := (((((((((w0.trans u1).trans u2).trans u3).trans u4).trans u5).trans u6).trans u7).trans v2).trans v3).free n8
  have f9 := ((((((((((w0.trans u1).trans u2).trans u3).trans u4).trans u5).trans u6).trans u7).trans v2).trans v3).trans u8).free n9
  have f10 := (((((((((((w0.trans u1).trans u2).trans u3).trans u4).trans u5).trans u6).trans u7).trans v2).trans v3).trans u8).trans u9).free n10
  have f11 := ((((((((((((w0.trans u1).trans u2).trans u3).trans u4).trans u5).trans u6).trans u7).trans v2).trans v3).trans u8).trans u9).trans u10).free n11
  have f12 := (((((((((((((w0.trans u1).trans u2).trans u3).trans u4).trans u5).trans u6).trans u7).trans v2).trans v3).trans u8).trans u9).trans u10).trans u11).free n12
  have f13 := ((((((((((((((w0.trans u1).trans u2).trans u3).trans u4).trans u5).trans u6).trans u7).trans v2).trans v3).trans u8).trans u9).trans u10).trans u11).trans u12).free n13
  have f14 := (((((((((((((((w0.trans u1).trans u2).trans u3).trans u4).trans u5).trans u6).trans u7).trans v2).trans v3).trans u8).trans u9).trans u10).trans u11).trans u12).trans u13).free n14
  have f15 := ((((((((((((((((w0.trans u1).trans u2).trans u3).trans u4).trans u5).trans u6).trans u7).trans v2).trans v3).trans u8).trans u9).trans u10).trans u11).trans u12).trans u13).trans u14).free n15
  have f16 := (((((((((((((((((w0.trans u1).trans u2).trans u3).trans u4).trans u5).trans u6).trans u7).trans v2).trans v3).trans u8).trans u9).trans u10).trans u11).trans u12).trans u13).trans u14).trans u15).free n16
  have AD : ∀ S : Addr → Bool, (∀ a, S a = true → H a ≠ none) → AllD K (hidS S _) 4 2 (oddL t1 t2 t3 t4 t5 t6 t7 t8 t9 t11 t13 t15 t16) := fun S hS0 => odd_all (K := K) (hid_new hS0 f1 (y1 _ _ upd_same)) (hid_new hS0 f2 (y2 _ _ upd_same)) (hid_new hS0 f3 (y3 _ _ upd_same)) (hid_new hS0 f4 (y4 _ _ upd_same)) (hid_new hS0 f5 (y5 _ _ upd_same)) (hid_new hS0 f6 (y6 _ _ upd_same)) (hid_new hS0 f7 (y7 _ _ upd_same)) (hid_new hS0 f8 (y8 _ _ upd_same)) (hid_new hS0 f9 (y9 _ _ upd_same)) (hid_new hS0 f10 (y10 _ _ upd_same)) (hid_new hS0 f11 (y11 _ _ upd_same)) (hid_new hS0 f12 (y12 _ _ upd_same)) (hid_new hS0 f13 (y13 _ _ upd_same)) (hid_new hS0 f14 (y14 _ _ upd_same)) (hid_new hS0 f15 (y15 _ _ upd_same)) (hid_new hS0 f16 (y16 _ _ upd_same))
  have hS' := L2.Same.seq yH hS
  obtain ⟨a0, _, _, h0⟩ := at_int (ns := ns) (k := 0) (by omega) (by omega)
  obtain ⟨a1, _, _, h1⟩ := at_int (ns := ns) (k := 1) (by omega) (by omega)
  obtain ⟨v, hv, hat⟩ := at_any (xs := oddL t1 t2 t3 t4 t5 t6 t7 t8 t9 t11 t13 t15 t16) (k := (a0 + 7 * a1) % 29) (Int.emod_nonneg _ (by decide)) (Int.emod_lt_of_pos _ (by decide))
  refine ⟨_, rfl, _, rfl, pA, _, _, _, rfl, rfl, hS', h0, _, rfl, pA, _, _, _, rfl, rfl, hS', h1, _, _, rfl, rfl, .inl ⟨by decide, by decide⟩, _, _, rfl, rfl, _, rfl, o5, _, rfl, .inl (SqL.of upd_same), _, _, rfl, rfl, (by show (0 : Int) < 29; decide), o5, _, _, _, rfl, rfl, SqL.of upd_same, hat, ?_⟩
  exact q v _ yH (fun S hS0 => AD S hS0 v hv)
set_option maxHeartbeats 4000000 in
theorem ok_l_spoilt {P : Program} {w : World} {K : PySem.W.Frag} {mg : Str → Option Value} {base : Heap} {f : Addr} {fd : FuncData} (F : Fun K "_law_spoilt" "_law_spoilt" s_l_spoilt f fd) {n : Nat} (D_l_spoilt : Def P w K mg base "_law_spoilt" (n + 2) ["thing", "picks"] (sp_l_spoilt K n)) (D_l_odd : Def P w K mg base "_law_odd" 1 ["picks"] (sp_l_odd K)) (b_len : mg "len" = none) (b_isinstance : mg "isinstance" = none) (b_list : mg "list" = none) (b_tuple : mg "tuple" = none) :
    FnOk P w K mg base CX0 (n + 3) f fd ["thing", "picks"] (sp_l_spoilt K (n + 1)) := by
  refine F.ok sc_l_spoilt (fun vs H Q E h => ?_) (fun cdv A outer s H vs Q E hr h => ?_)
  · obtain ⟨x, d, pA, ns, m, S, k, hk, rfl, hS0, hd, hz, m4, m50, hS, h5, q⟩ := h
    rfl
  obtain ⟨x, d, pA, ns, m, S, k, hk, rfl, hS0, hd, hz, m4, m50, hS, h5, q⟩ := h
  refine ⟨_, (pss_cons (ps_if (PW.pt (pw_or (pt_not (pt_val (pe_callB call_isiT (by rfl) b_isinstance PyProof.Rows.boot_isinstance (pa_cons (pv 0) (pa_cons (pe_tup (pa_cons (pe_bltn (v := .ty "tuple") rfl b_tuple PyProof.Rows.boot_tuple rfl) (pa_cons (pe_bltn (v := .ty "list") rfl b_list PyProof.Rows.boot_list rfl) pa_nil))) pa_nil))))) (pw_or (pt_cmpR op_eq (pe_callB call_len_seq (by rfl) b_len PySem.boot_len (pa_cons (pv 0) pa_nil)) pe_int (nomark _)) (pw_or (pt_cmpR op_lt (pe_callB call_len_seq (by rfl) b_len PySem.boot_len (pa_cons (pv 1) pa_nil)) pe_int (nomark _)) (pw_or1 (pt_cmpR op_eq (pe_op op_mod (pe_ix ix_list (pv 1) pe_int (fun _ _ => rfl)) pe_int) pe_int (nomark _))))))) (pss_one (ps_ret (pe_def D_l_odd hr (pa_cons (pe_slice sl_list (pv 1) (po_some pe_int) po_none) pa_nil) (hl := by omega)))) pss_nil)
        (pss_cons (ps_set (i := 2) sc_l_spoilt.nd rfl (Or.inl rfl) (pe_callTy call_list_of (by rfl) b_list PyProof.Rows.boot_list (pa_cons (pv 0) pa_nil)))
        (pss_cons (ps_set (i := 3) sc_l_spoilt.nd rfl (Or.inl rfl) (pe_op op_mod (pe_ix ix_list (pv 1) pe_int (fun _ _ => rfl)) (pe_callB call_len_seq (by rfl) b_len PySem.boot_len (pa_cons (pv 2) pa_nil))))
        (pss_cons (ps_set (i := 4) sc_l_spoilt.nd rfl (Or.inl rfl) (pe_op op_mod (pe_ix ix_list (pv 1) pe_int (fun _ _ => rfl)) pe_int))
        (pss_cons (ps_if (pt_cmpR op_eq (pv 4) pe_int (nomark _)) (pss_one (ps_set (i := 2) sc_l_spoilt.nd rfl (Or.inl rfl) (pe_op op_cat (pe_slice sl_list (pv 2) po_none (po_some (pv 3))) (pe_slice sl_list (pv 2) (po_some (pe_op op_add (pv 3) pe_int)) po_none)))) (pss_one (ps_if (pt_cmpR op_eq (pv 4) pe_int (nomark _)) (pss_one (ps_set (i := 2) sc_l_spoilt.nd rfl (Or.inl rfl) (pe_op op_cat (pe_slice sl_list (pv 2) po_none (po_some (pe_op op_add (pv 3) pe_int))) (pe_slice sl_list (pv 2) (po_some (pv 3)) po_none)))) (pss_one (ps_if (pt_cmpR op_eq (pv 4) pe_int (nomark _)) (pss_one (ps_set (i := 2) sc_l_spoilt.nd rfl (Or.inl rfl) (pe_op op_cat (pe_slice sl_list (pv 2) (po_some (pv 3)) po_none) (pe_slice sl_list (pv 2) po_none (po_some (pv 3)))))) (pss_one (ps_if (pt_cmpR op_eq (pv 4) pe_int (nomark _)) (pss_one (ps_set (i := 2) sc_l_spoilt.nd rfl (Or.inl rfl) (pe_op op_cat (pe_op op_cat (pe_slice sl_list (pv 2) po_none (po_some (pv 3))) (pe_lst (pa_cons (pe_def D_l_odd hr (pa_cons (pe_slice sl_list (pv 1) (po_some pe_int) po_none) pa_nil) (hl := by omega)) pa_nil))) (pe_slice sl_list (pv 2) (po_some (pv 3)) po_none)))) (pss_one (ps_if (pt_cmpR op_gt (pv 4) pe_int (nomark _)) (pss_one (ps_asg (pe_def D_l_spoilt hr (pa_cons (pe_ix ix_list (pv 2) (pv 3) (fun _ _ => rfl)) (pa_cons (pe_slice sl_list (pv 1) (po_some pe_int) po_none) pa_nil)) (hl := by omega)) (pg_sub (pv 2) (pv 3) set_list))) pss_nil)))))))))
        (pss_cons (ps_if (pt_cmpR op_eq (pe_callB call_isi (by rfl) b_isinstance PyProof.Rows.boot_isinstance (pa_cons (pv 0) (pa_cons (pe_bltn (v := .ty "tuple") rfl b_tuple PyProof.Rows.boot_tuple rfl) pa_nil))) (pe_cmpR op_eq (pv 4) pe_int (nomark _)) (nomark _)) (pss_one (ps_ret (pv 2))) pss_nil)
        (pss_one (ps_ret (pe_callTy call_tuple_of (by rfl) b_tuple PyProof.Rows.boot_tuple (pa_cons (pv 2) pa_nil)))))))))), ?_⟩
  refine ⟨_, rfl, (by show 2 ≤ sizeLine; decide), fun tp ntp => ?_⟩
  have s0 := same_upd (o := .tup [.ty "tuple", .ty "list"]) ntp
  have hd1 := Same.dp s0 (Same.dp hid_sub hd)
  have hS1 := L2.Same.seq s0 hS
  have odd : ∀ (p1 : Addr), upd H tp (.tup [.ty "tuple", .ty "list"]) p1 = none → sp_l_odd K [.ref p1] (upd (upd H tp (.tup [.ty "tuple", .ty "list"])) p1 (.lst (cutV (ns.map V.int) (some 1) none))) Q E0 := fun p1 n1 => by
    have e1 : upd (upd H tp (.tup [.ty "tuple", .ty "list"])) p1 (.lst (cutV (ns.map V.int) (some 1) none)) p1 = some (.lst ((ns.drop 1).map V.int)) := by
      rw [upd_same, cut_from (by decide)]
      rfl
    refine ⟨p1, ns.drop 1, rfl, SqL.of e1, by rw [List.length_drop]; omega, fun v H' s2 g => ?_⟩
    have sz := s0.trans ((same_upd n1).trans s2)
    obtain ⟨d', g1, g2⟩ := g S (fun a h => fun z => hS0 a h ((s0.trans (same_upd n1)).free z))
    exact q v d' H' sz g1 (g2.mono (by omega) (by omega))
  rcases seq_of hd hz with ⟨k1, k2⟩ | ⟨a, xs, n', b, rfl, rfl, sq, ad, xl, k1, k2⟩
  · refine ⟨x, tp, _, _, _, _, rfl, upd_same, clsTL, ty_dp hd1, kit2 k1 k2, _, rfl, ?_⟩
    exact ⟨_, rfl, _, rfl, _, _, rfl, hS1, fun p1 n1 => odd p1 n1⟩
  · obtain ⟨n1, rfl⟩ : ∃ n1, n = n1 + 1 := ⟨n - 1, by omega⟩
    have sq1 : SqL K (upd H tp (.tup [.ty "tuple", .ty "list"])) a xs ∨ SqT K (upd H tp (.tup [.ty "tuple", .ty "list"])) a xs := by
      rcases sq with z | z
      · exact .inl (L2.Same.seq s0 (L2.Same.seq hid_sub z))
      · exact .inr (Same.seqT s0 (Same.seqT hid_sub z))
    refine ⟨_, tp, _, _, _, _, rfl, upd_same, clsTL, ty_dp hd1, kit2 k1 k2, _, rfl, ?_⟩
    rw [Bool.or_not_self]
    refine ⟨_, rfl, a, xs, rfl, sq1, rfl, _, rfl, ite2 (fun c => ?_) (fun c0 => ?_)⟩
    · exact ⟨_, rfl, _, rfl, _, _, rfl, hS1, fun p1 n1 => odd p1 n1⟩
    have x0 : 0 < xs.length := by
      by_cases z : xs.length = 0
      · exact absurd (decide_eq_true (by rw [z]; rfl)) c0
      · omega
    refine ⟨_, rfl, pA, _, rfl, .inl hS1, _, _, rfl, rfl, _, rfl, ite2 (fun c => ?_) (fun c1 => ?_)⟩
    · exact ⟨_, rfl, _, rfl, _, _, rfl, hS1, fun p1 n1 => odd p1 n1⟩
    have n9 : 9 ≤ ns.length := by
      by_cases z : ns.length < 9
      · exact absurd (decide_eq_true (by rw [List.length_map]; omega)) c1
      · omega
    obtain ⟨a0, _, _, h0⟩ := at_int (ns := ns) (k := 0) (by omega) (by omega)
    obtain ⟨a1, _, _, h1⟩ := at_int (ns := ns) (k := 1) (by omega) (by omega)
    obtain ⟨a2, _, _, h2⟩ := at_int (ns := ns) (k := 2) (by omega) (by omega)
    refine ⟨_, rfl, pA, _, _, _, rfl, rfl, hS1, h0, _, _, rfl, rfl, p0, rfl, _, rfl, ite2 (fun c => ?_) (fun c2 => ?_)⟩
    · exact ⟨_, rfl, _, rfl, _, _, rfl, hS1, fun p1 n1 => odd p1 n1⟩
    -- pieces, at, turn_by
    refine ⟨_, rfl, a, xs, rfl, sq1, fun pc npc => ?_⟩
    have s1 := s0.trans (same_upd (o := .lst xs) npc)
    have fpc : H pc = none := s0.free npc
    have epc : upd (upd H tp (.tup [.ty "tuple", .ty "list"])) pc (.lst xs) pc = some (.lst xs) := upd_same
    have hd2 := Same.dp s1 (Same.dp hid_sub hd)
    have hS2 := L2.Same.seq s1 hS
    generalize upd (upd H tp (.tup [.ty "tuple", .ty "list"])) pc (.lst xs) = H2 at s1 epc hd2 hS2
    refine ⟨_, rfl, pA, _, _, _, rfl, rfl, hS2, h1, _, rfl, pc, _, rfl, .inl (SqL.of epc), _, _, rfl, rfl, (by show (0 : Int) < (xs.length : Int); omega), ?_⟩
    refine ⟨_, rfl, pA, _, _, _, rfl, rfl, hS2, h2, _, _, rfl, rfl, p0, ?_⟩
    have at0 : 0 ≤ a1 % (xs.length : Int) := Int.emod_nonneg _ (by omega)
    have at1 : a1 % (xs.length : Int) < (xs.length : Int) := Int.emod_lt_of_pos _ (by omega)
    have ad2 := (ad.same (hid_same s1)).mono (m' := m + 1) (n' := n' + 2) (by omega) (by omega)
    have small : ∀ {k : Nat}, k ≤ 2 * m + 2 → k ≤ sizeLine := fun h => Nat.le_of_lt (small1000 (by omega))
    have tl : (xs.take (a1 % (xs.length : Int)).toNat).length ≤ (a1 % (xs.length : Int)).toNat ∧ (xs.take (a1 % (xs.length : Int)).toNat).length ≤ xs.length := by
      rw [List.length_take]
      omega
    refine ⟨_, rfl, rfl, _, rfl, ite2 (fun c => ?_) (fun c3 => ?_)⟩
    case' refine_1 =>
      refine ⟨_, rfl, _, rfl, _, rfl, pc, _, rfl, SqL.of epc, fun q1 m1 => ?_⟩
      refine ⟨_, rfl, _, rfl, _, _, rfl, rfl, _, rfl, pc, _, rfl, SqL.of (same_upd m1 _ _ epc), fun q2 m2 => ?_⟩
      refine ⟨q1, q2, _, _, rfl, rfl, same_upd m2 _ _ upd_same, upd_same, small ?_, fun pj m3 => ?_⟩
      · rw [cutG_to at0, cutG_from (by omega), List.length_take, List.length_drop]
        omega
      have s2 := (same_upd m1).trans ((same_upd m2).trans (same_upd (o := .lst (cutV xs none (some (a1 % (xs.length : Int))) ++ cutV xs (some ((a1 % (xs.length : Int)) + 1)) none)) m3))
      have sj := s1.trans s2
      have fj : H pj = none := (s1.trans ((same_upd m1).trans (same_upd m2))).free m3
      have ej := upd_same (H := upd (upd H2 q1 (.lst (cutV xs none (some (a1 % (xs.length : Int)))))) q2 (.lst (cutV xs (some ((a1 % (xs.length : Int)) + 1)) none))) (a := pj) (o := .lst (cutV xs none (some (a1 % (xs.length : Int))) ++ cutV xs (some ((a1 % (xs.length : Int)) + 1)) none))
      have yl : (cutV xs none (some (a1 % (xs.length : Int))) ++ cutV xs (some ((a1 % (xs.length : Int)) + 1)) none).length ≤ m + 1 := by
        rw [List.length_append, cutG_to at0, cutG_from (by omega), List.length_take, List.length_drop]
        omega
      have adj := ((ad2.sub cut_mem).app (ad2.sub cut_mem) : AllD K (hidS S H2) (m + 1) (n' + 2) (cutV xs none (some (a1 % (xs.length : Int))) ++ cutV xs (some ((a1 % (xs.length : Int)) + 1)) none)).same (hid_same s2)
    case' refine_2 =>
      refine ⟨_, rfl, rfl, _, rfl, ite2 (fun c => ?_) (fun c4 => ?_)⟩
      case' refine_1 =>
        refine ⟨_, rfl, _, rfl, _, _, rfl, rfl, _, rfl, pc, _, rfl, SqL.of epc, fun q1 m1 => ?_⟩
        refine ⟨_, rfl, _, rfl, _, rfl, pc, _, rfl, SqL.of (same_upd m1 _ _ epc), fun q2 m2 => ?_⟩
        refine ⟨q1, q2, _, _, rfl, rfl, same_upd m2 _ _ upd_same, upd_same, small ?_, fun pj m3 => ?_⟩
        · rw [cutG_to (by omega), cutG_from at0, List.length_take, List.length_drop]
          omega
        have s2 := (same_upd m1).trans ((same_upd m2).trans (same_upd (o := .lst (cutV xs none (some ((a1 % (xs.length : Int)) + 1)) ++ cutV xs (some (a1 % (xs.length : Int))) none)) m3))
        have sj := s1.trans s2
        have fj : H pj = none := (s1.trans ((same_upd m1).trans (same_upd m2))).free m3
        have ej := upd_same (H := upd (upd H2 q1 (.lst (cutV xs none (some ((a1 % (xs.length : Int)) + 1))))) q2 (.lst (cutV xs (some (a1 % (xs.length : Int))) none))) (a := pj) (o := .lst (cutV xs none (some ((a1 % (xs.length : Int)) + 1)) ++ cutV xs (some (a1 % (xs.length : Int))) none))
        have yl : (cutV xs none (some ((a1 % (xs.length : Int)) + 1)) ++ cutV xs (some (a1 % (xs.length : Int))) none).length ≤ m + 1 := by
          rw [List.length_append, cutG_to (by omega), cutG_from at0, List.length_take, List.length_drop]
          omega
        have adj := ((ad2.sub cut_mem).app (ad2.sub cut_mem) : AllD K (hidS S H2) (m + 1) (n' + 2) (cutV xs none (some ((a1 % (xs.length : Int)) + 1)) ++ cutV xs (some (a1 % (xs.length : Int))) none)).same (hid_same s2)
      case' refine_2 =>
        refine ⟨_, rfl, rfl, _, rfl, ite2 (fun c => ?_) (fun c5 => ?_)⟩
        case' refine_1 =>
          refine ⟨_, rfl, _, rfl, _, rfl, pc, _, rfl, SqL.of epc, fun q1 m1 => ?_⟩
          refine ⟨_, rfl, _, rfl, _, rfl, pc, _, rfl, SqL.of (same_upd m1 _ _ epc), fun q2 m2 => ?_⟩
          refine ⟨q1, q2, _, _, rfl, rfl, same_upd m2 _ _ upd_same, upd_same, small ?_, fun pj m3 => ?_⟩
          · rw [cutG_to at0, cutG_from at0, List.length_take, List.length_drop]
            omega
          have s2 := (same_upd m1).trans ((same_upd m2).trans (same_upd (o := .lst (cutV xs (some (a1 % (xs.length : Int))) none ++ cutV xs none (some (a1 % (xs.length : Int))))) m3))
          have sj := s1.trans s2
          have fj : H pj = none := (s1.trans ((same_upd m1).trans (same_upd m2))).free m3
          have ej := upd_same (H := upd (upd H2 q1 (.lst (cutV xs (some (a1 % (xs.length : Int))) none))) q2 (.lst (cutV xs none (some (a1 % (xs.length : Int)))))) (a := pj) (o := .lst (cutV xs (some (a1 % (xs.length : Int))) none ++ cutV xs none (some (a1 % (xs.length : Int)))))
          have yl : (cutV xs (some (a1 % (xs.length : Int))) none ++ cutV xs none (some (a1 % (xs.length : Int)))).length ≤ m + 1 := by
            rw [List.length_append, cutG_to at0, cutG_from at0, List.length_take, List.length_drop]
            omega
          have adj := ((ad2.sub cut_mem).app (ad2.sub cut_mem) : AllD K (hidS S H2) (m + 1) (n' + 2) (cutV xs (some (a1 % (xs.length : Int))) none ++ cutV xs none (some (a1 % (xs.length : Int))))).same (hid_same s2)
        case' refine_2 =>
          refine ⟨_, rfl, rfl, _, rfl, ite2 (fun c => ?_) (fun c6 => ?_)⟩
          case' refine_1 =>
            refine ⟨_, rfl, _, rfl, _, rfl, pc, _, rfl, SqL.of epc, fun q1 m1 => ?_⟩
            refine ⟨_, rfl, _, rfl, _, _, rfl, L2.Same.seq (same_upd m1) hS2, fun q0 m0 => ?_⟩
            have e0 : upd (upd H2 q1 (.lst (cutV xs none (some (a1 % (xs.length : Int)))))) q0 (.lst (cutV (ns.map V.int) (some 3) none)) q0 = some (.lst ((ns.drop 3).map V.int)) := by
              rw [upd_same, cut_from (by decide)]
              rfl
            refine ⟨q0, ns.drop 3, rfl, SqL.of e0, by rw [List.length_drop]; omega, fun v H3 s3 g => ?_⟩
            have s03 := s1.trans ((same_upd m1).trans ((same_upd m0).trans s3))
            obtain ⟨dv, gv1, gv2⟩ := g S (fun a h => fun z => hS0 a h ((s1.trans ((same_upd m1).trans (same_upd m0))).free z))
            refine ⟨(by show 1 ≤ sizeLine; decide), fun q4 m4 => ?_⟩
            have e1 := ((same_upd m0).trans (s3.trans (same_upd (o := .lst [v]) m4))) _ _ (upd_same (H := H2) (a := q1) (o := .lst (cutV xs none (some (a1 % (xs.length : Int))))))
            refine ⟨q1, q4, _, _, rfl, rfl, e1, upd_same, small ?_, fun q5 m5 => ?_⟩
            · rw [cutG_to at0, List.length_singleton]
              omega
            have s05 := s03.trans ((same_upd m4).trans (same_upd (o := .lst (cutV xs none (some (a1 % (xs.length : Int))) ++ [v])) m5))
            have s25 := (same_upd m1).trans ((same_upd m0).trans (s3.trans ((same_upd m4).trans (same_upd (o := .lst (cutV xs none (some (a1 % (xs.length : Int))) ++ [v])) m5))))
            refine ⟨_, rfl, _, rfl, _, rfl, pc, _, rfl, SqL.of (s25 _ _ epc), fun q6 m6 => ?_⟩
            refine ⟨q5, q6, _, _, rfl, rfl, same_upd m6 _ _ upd_same, upd_same, small ?_, fun pj m7 => ?_⟩
            · rw [List.length_append, cutG_to at0, cutG_from at0, List.length_take, List.length_drop, List.length_singleton]
              omega
            have s2 := s25.trans ((same_upd m6).trans (same_upd (o := .lst ((cutV xs none (some (a1 % (xs.length : Int))) ++ [v]) ++ cutV xs (some (a1 % (xs.length : Int))) none)) m7))
            have sj := s1.trans s2
            have fj : H pj = none := (s05.trans (same_upd m6)).free m7
            have ej := upd_at (o := .lst ((cutV xs none (some (a1 % (xs.length : Int))) ++ [v]) ++ cutV xs (some (a1 % (xs.length : Int))) none)) m7
            have yl : ((cutV xs none (some (a1 % (xs.length : Int))) ++ [v]) ++ cutV xs (some (a1 % (xs.length : Int))) none).length ≤ m + 1 := by
              rw [List.length_append, List.length_append, cutG_to at0, cutG_from at0, List.length_take, List.length_drop, List.length_singleton]
              omega
            have gv := AllD.cons (m := m + 1) (n := n' + 2) (Same.dp (hid_same ((same_upd m4).trans ((same_upd m5).trans ((same_upd m6).trans (same_upd (o := .lst ((cutV xs none (some (a1 % (xs.length : Int))) ++ [v]) ++ cutV xs (some (a1 % (xs.length : Int))) none)) m7))))) gv1) (gv2.mono (by omega) (by omega)) .nil
            have adj := (((ad2.sub (cut_mem (lo := none) (hi := some (a1 % (xs.length : Int))))).same (hid_same s2)).app gv).app ((ad2.sub cut_mem).same (hid_same s2) : AllD K _ (m + 1) (n' + 2) (cutV xs (some (a1 % (xs.length : Int))) none))
          case' refine_2 =>
            refine ⟨_, rfl, _, _, rfl, rfl, _, rfl, ite2 (fun c => ?_) (fun c7 => ?_)⟩
            case' refine_1 =>
              obtain ⟨v, hv, hat⟩ := at_any (xs := xs) at0 at1
              refine ⟨_, rfl, _, rfl, pc, _, _, _, rfl, rfl, SqL.of epc, hat, _, rfl, _, rfl, _, _, rfl, hS2, fun q0 m0 => ?_⟩
              have e0 : upd H2 q0 (.lst (cutV (ns.map V.int) (some 4) none)) q0 = some (.lst ((ns.drop 4).map V.int)) := by
                rw [upd_same, cut_from (by decide)]
                rfl
              have s02 := s1.trans (same_upd (o := .lst (cutV (ns.map V.int) (some 4) none)) m0)
              have hg := hid_grow (S := S) fpc s02
              obtain ⟨dv, gv1, gv2⟩ := ad v hv
              refine ⟨v, dv, q0, ns.drop 4, m, fun a => S a || decide (a = pc), n', by omega, rfl, fun a h => ?_, Same.dp hg gv1, gv2, by omega, m50, SqL.of e0, by rw [List.length_drop]; omega, fun v' d' H3 s3 g1 g2 => ?_⟩
              · intro z
                have h' : (S a || decide (a = pc)) = true := h
                rw [Bool.or_eq_true, decide_eq_true_eq] at h'
                rcases h' with h' | h'
                · exact hS0 a h' (s02.free z)
                · rw [h'] at z
                  have := same_upd (o := .lst (cutV (ns.map V.int) (some 4) none)) m0 _ _ epc
                  rw [z] at this
                  exact nomatch this
              have epc3 := s3 _ _ (same_upd m0 _ _ epc)
              refine ⟨_, rfl, _, rfl, pc, xs, _, _, rfl, rfl, epc3, ixN_of at0 at1, ?_⟩
              have sj := same_fresh (o := .lst (xs.set (a1 % (xs.length : Int)).toNat v')) (s02.trans s3) fpc
              have fj := fpc
              have ej := upd_same (H := H3) (a := pc) (o := .lst (xs.set (a1 % (xs.length : Int)).toNat v'))
              have yl : (xs.set (a1 % (xs.length : Int)).toNat v').length ≤ m + 1 := by
                rw [List.length_set]
                omega
              have s2 := sj
              have adj : AllD K (hidS S (upd H3 pc (.lst (xs.set (a1 % (xs.length : Int)).toNat v')))) (m + 1) (n' + 2) (xs.set (a1 % (xs.length : Int)).toNat v') := fun y hy => by
                rcases List.mem_or_eq_of_mem_set hy with g | rfl
                · obtain ⟨dy, y1, y2⟩ := ad y g
                  exact ⟨dy, Same.dp (hid_same sj) y1, y2.mono (by omega) (by omega)⟩
                · exact ⟨d', Same.dp hid_back g1, g2⟩
              have hd2 := Same.dp hid_sub hd
            case' refine_2 =>
              have s2 := Same.refl H2
              have sj := s1
              have fj := fpc
              have ej := epc
              have yl : xs.length ≤ m + 1 := by omega
              have adj := ad2
    all_goals
      have hdj := Same.dp s2 hd2
      refine ⟨_, rfl, _, _, _, _, b, rfl, .ty "tuple", ty_dp hdj, kit_ty k1, _, rfl, rfl, rfl, _, rfl, ite2 (fun c => ?_) (fun c => ?_)⟩
      · obtain ⟨d', g1, g2⟩ := adj.lst yl (hid_new hS0 fj ej)
        exact ⟨_, rfl, q _ d' _ sj g1 g2⟩
      · refine ⟨_, rfl, _, _, rfl, .inl ⟨SqL.of ej, fun r nr => ?_⟩⟩
        obtain ⟨d', g1, g2⟩ := (adj.same (hid_same (same_upd nr))).tup yl (SqT.of (hid_new hS0 (sj.free nr) upd_same))
        exact q _ d' _ (sj.trans (same_upd nr)) g1 g2
set_option maxHeartbeats 4000000 in
theorem ok_p_is_within {P : Program} {w : World} {K : PySem.W.Frag} {mg : Str → Option Value} {base : Heap} {f : Addr} {fd : FuncData} (F : Fun K "is_within" "is_within" s_p_is_within f fd) (b_isinstance : mg "isinstance" = none) (b_int : mg "int" = none) (b_bool : mg "bool" = none) :
    FnOk P w K mg base CX0 1 f fd ["thing", "least", "most"] (sp_p_is_within K) := by
  refine F.ok sc_p_is_within (fun vs H Q E h => ?_) (fun cdv A outer s H vs Q E hr h => ?_)
  · obtain ⟨x, d, lo, hi, rfl, hd, q⟩ := h
    rfl
  obtain ⟨x, d, lo, hi, rfl, hd, q⟩ := h
  refine ⟨_, (pss_cons (ps_if (PW.pt (pw_or (pt_val (pe_callB call_isi (by rfl) b_isinstance PyProof.Rows.boot_isinstance (pa_cons (pv 0) (pa_cons (pe_bltn (v := .ty "bool") rfl b_bool PyProof.Rows.boot_bool rfl) pa_nil)))) (pw_or1 (pt_not (pt_val (pe_callB call_isi (by rfl) b_isinstance PyProof.Rows.boot_isinstance (pa_cons (pv 0) (pa_cons (pe_bltn (v := .ty "int") rfl b_int PyProof.Rows.boot_int rfl) pa_nil)))))))) (pss_one (ps_ret pe_bl)) pss_nil)
        (pss_one (ps_ret (pe_chain op_le op_le (pv 1) (pv 0) (pv 2))))), ?_⟩
  cases hd with
  | non => exact ⟨_, rfl, _, _, _, _, false, rfl, .ty "bool", .base .non, kit_ty (by decide +kernel), _, rfl, _, rfl, _, _, _, _, false, rfl, .ty "int", .base .non, kit_ty (by decide +kernel), _, rfl, q⟩
  | bl b => exact ⟨_, rfl, _, _, _, _, true, rfl, .ty "bool", .base (.bl b), kit_ty (by decide +kernel), _, rfl, q⟩
  | str b => exact ⟨_, rfl, _, _, _, _, false, rfl, .ty "bool", .base (.str b), kit_ty (by decide +kernel), _, rfl, _, rfl, _, _, _, _, false, rfl, .ty "int", .base (.str b), kit_ty (by decide +kernel), _, rfl, q⟩
  | lst h _ => exact ⟨_, rfl, _, _, _, _, false, rfl, .ty "bool", tyL h, kit_ty (by decide +kernel), _, rfl, _, rfl, _, _, _, _, false, rfl, .ty "int", tyL h, kit_ty (by decide +kernel), _, rfl, q⟩
  | tup h _ => exact ⟨_, rfl, _, _, _, _, false, rfl, .ty "bool", tyT h, kit_ty (by decide +kernel), _, rfl, _, rfl, _, _, _, _, false, rfl, .ty "int", tyT h, kit_ty (by decide +kernel), _, rfl, q⟩
  | int i =>
    refine ⟨_, rfl, _, _, _, _, false, rfl, .ty "bool", .base (.int i), kit_ty (by decide +kernel), _, rfl, _, rfl, _, _, _, _, true, rfl, .ty "int", .base (.int i), kit_ty (by decide +kernel), _, rfl, ?_⟩
    refine ⟨_, rfl, _, rfl, _, _, rfl, rfl, _, rfl, ite2 (fun c => ?_) (fun c => ?_)⟩
    · refine ⟨_, rfl, _, _, rfl, rfl, ?_⟩
      have q' : Q (.bl (decide (lo ≤ i) && decide (i ≤ hi))) H := q
      rw [c] at q'
      exact q'
    · have c' : decide (lo ≤ i) = false := by
        cases h : decide (lo ≤ i) with
        | true => exact absurd h c
        | false => rfl
      have q' : Q (.bl (decide (lo ≤ i) && decide (i ≤ hi))) H := q
      rw [c'] at q'
      exact q'
set_option maxHeartbeats 4000000 in
theorem ok_p_are_cards {P : Program} {w : World} {K : PySem.W.Frag} {mg : Str → Option Value} {base : Heap} {f : Addr} {fd : FuncData} (F : Fun K "are_cards" "are_cards" s_p_are_cards f fd) (D_p_is_within : Def P w K mg base "is_within" 1 ["thing", "least", "most"] (sp_p_is_within K)) (b_len : mg "len" = none) (b_isinstance : mg "isinstance" = none) (b_tuple : mg "tuple" = none) (b_all : mg "all" = none) {t_MOST_KINDS : Tok} (g_MOST_KINDS : mg "MOST_KINDS" = some (.int 3 t_MOST_KINDS)) {t_MOST_FULL : Tok} (g_MOST_FULL : mg "MOST_FULL" = some (.int 20 t_MOST_FULL)) {t_LEAST_FULL : Tok} (g_LEAST_FULL : mg "LEAST_FULL" = some (.int 2 t_LEAST_FULL)) :
    FnOk P w K mg base CX0 2 f fd ["thing"] (sp_p_are_cards K) := by
  refine F.ok sc_p_are_cards (fun vs H Q E h => ?_) (fun cdv A outer s H vs Q E hr h => ?_)
  · obtain ⟨x, d, rfl, hd, q⟩ := h
    rfl
  obtain ⟨x, d, rfl, hd, q⟩ := h
  refine ⟨_, (pss_cons (ps_if (PW.pt (pw_or (pt_not (pt_val (pe_callB call_isi (by rfl) b_isinstance PyProof.Rows.boot_isinstance (pa_cons (pv 0) (pa_cons (pe_bltn (v := .ty "tuple") rfl b_tuple PyProof.Rows.boot_tuple rfl) pa_nil))))) (pw_or1 (pt_not (pt_chain op_le op_le pe_int (pe_callB call_len_seq (by rfl) b_len PySem.boot_len (pa_cons (pv 0) pa_nil)) (pe_glob (v := .int 3) rfl g_MOST_KINDS ⟨_, rfl⟩)))))) (pss_one (ps_ret pe_bl)) pss_nil)
        (pss_one (ps_ret (pe_callB (cr_all rfl) (by rfl) b_all PyProof.Rows.boot_all (pa_cons (pe_lc (own := [("full", 1)]) (g := gName 1) (tt := tYes) rfl sc_p_are_cards.nd (pi_tup (pv 0)) (blkOk_by (own := [("full", 1)]) (N := ["thing", "full"]) (sc := defScope s_p_are_cards) (by decide +kernel)) (fun _ _ _ _ _ => (pg_name (i := 1) sc_p_are_cards.nd rfl (Or.inl rfl))) (fun _ _ _ _ _ => pts_nil) (fun _ _ _ _ _ => (pe_def D_p_is_within hr (pa_cons (pv 1) (pa_cons (pe_glob (v := .int 2) rfl g_LEAST_FULL ⟨_, rfl⟩) (pa_cons (pe_glob (v := .int 20) rfl g_MOST_FULL ⟨_, rfl⟩) pa_nil)))))) pa_nil))))), ?_⟩
  cases hd with
  | non => exact ⟨_, rfl, _, _, _, _, false, rfl, .ty "tuple", .base .non, kit_ty (by decide +kernel), _, rfl, q _ (.refl H)⟩
  | bl b => exact ⟨_, rfl, _, _, _, _, false, rfl, .ty "tuple", .base (.bl b), kit_ty (by decide +kernel), _, rfl, q _ (.refl H)⟩
  | str b => exact ⟨_, rfl, _, _, _, _, false, rfl, .ty "tuple", .base (.str b), kit_ty (by decide +kernel), _, rfl, q _ (.refl H)⟩
  | int b => exact ⟨_, rfl, _, _, _, _, false, rfl, .ty "tuple", .base (.int b), kit_ty (by decide +kernel), _, rfl, q _ (.refl H)⟩
  | lst h _ => exact ⟨_, rfl, _, _, _, _, false, rfl, .ty "tuple", tyL h, kit_ty (by decide +kernel), _, rfl, q _ (.refl H)⟩
  | @tup a xs ds h hx =>
    have hl := dp_len hx
    refine ⟨_, rfl, _, _, _, _, true, rfl, .ty "tuple", tyT h, kit_ty (by decide +kernel), _, rfl, ?_⟩
    refine ⟨_, rfl, a, _, rfl, .inr h, _, _, rfl, rfl, _, rfl, ite2 (fun c => ?_) (fun c => ?_)⟩
    · have c' : 1 ≤ ds.length := by
        have := of_decide_eq_true c
        omega
      refine ⟨_, _, rfl, rfl, _, rfl, ?_⟩
      by_cases c2 : ds.length ≤ 3
      · have e2 : decide ((xs.length : Int) ≤ 3) = true := decide_eq_true (by omega)
        rw [e2]
        refine ⟨_, rfl, a, rfl, ⟨_, h⟩, fun D nD => ?_⟩
        refine lc_tup (K := K) (a := a) (xs := xs) (fun i H' => Same H H' ∧ H' D = some (.lst (((ds.take i).map (withinD 2 20)).map V.bl))) ?_ ?_ ?_ ?_
        · exact ⟨same_new (.refl H) nD, upd_same⟩
        · rintro i H' hi ⟨sm, e⟩
          exact Same.seqT sm h
        · rintro i y H' hi ⟨sm, e⟩
          obtain ⟨d, hd1, hd2⟩ := dp_get hx hi
          have hi' : i < xs.length := (List.getElem?_eq_some_iff.mp hi).1
          refine ⟨rfl, _, rfl, y, d, _, _, rfl, Same.dp sm hd2, _, e, ?_, same_fresh sm nD, ?_⟩
          · rw [List.length_map, List.length_map, List.length_take]
            exact small1000 (by omega)
          · rw [upd_same, take_map _ hd1, List.map_append]
            rfl
        · rintro H' ⟨sm, e⟩
          rw [hl, List.take_length] at e
          refine ⟨D, _, rfl, SqL.of e, ?_⟩
          have q' := q H' sm
          have ec : cardsD (.tuple ds) = (ds.map (withinD 2 20)).all id := by
            show (decide (1 ≤ ds.length) && decide (ds.length ≤ 3) && ds.all (withinD 2 20)) = _
            rw [decide_eq_true c', decide_eq_true c2, List.all_map]
            rfl
          rw [ec] at q'
          exact q'
      · have e2 : decide ((xs.length : Int) ≤ 3) = false := decide_eq_false (by omega)
        rw [e2]
        have q' := q H (.refl H)
        have ec : cardsD (.tuple ds) = false := by
          show (decide (1 ≤ ds.length) && decide (ds.length ≤ 3) && ds.all (withinD 2 20)) = _
          rw [decide_eq_false c2, Bool.and_false, Bool.false_and]
        rw [ec] at q'
        exact q'
    · have c' : ¬ 1 ≤ ds.length := fun z => c (decide_eq_true (by omega))
      refine ⟨_, rfl, ?_⟩
      have q' := q H (.refl H)
      have ec : cardsD (.tuple ds) = false := by
        show (decide (1 ≤ ds.length) && decide (ds.length ≤ 3) && ds.all (withinD 2 20)) = _
        rw [decide_eq_false c', Bool.false_and, Bool.false_and]
      rw [ec] at q'
      exact q'
set_option maxHeartbeats 4000000 in
theorem ok_l_from {P : Program} {w : World} {K : PySem.W.Frag} {mg : Str → Option Value} {base : Heap} {f : Addr} {fd : FuncData} (F : Fun K "_law_from" "_law_from" s_l_from f fd) (b_isinstance : mg "isinstance" = none) (b_bool : mg "bool" = none) (b_int : mg "int" = none) :
    FnOk P w K mg base CX0 1 f fd ["thing", "least", "top"] (sp_l_from K) := by
  refine F.ok sc_l_from (fun vs H Q E h => ?_) (fun cdv A outer s H vs Q E hr h => ?_)
  · obtain ⟨x, d, lo, hi, rfl, hd, q⟩ := h
    rfl
  obtain ⟨x, d, lo, hi, rfl, hd, q⟩ := h
  refine ⟨_, (pss_one (ps_ret (pe_and (pe_callB call_isi (by rfl) b_isinstance PyProof.Rows.boot_isinstance (pa_cons (pv 0) (pa_cons (pe_bltn (v := .ty "int") rfl b_int PyProof.Rows.boot_int rfl) pa_nil))) (pe_and (pe_not (pe_callB call_isi (by rfl) b_isinstance PyProof.Rows.boot_isinstance (pa_cons (pv 0) (pa_cons (pe_bltn (v := .ty "bool") rfl b_bool PyProof.Rows.boot_bool rfl) pa_nil)))) (pe_and (pe_cmpR op_le (pv 1) (pv 0) (nomark _)) (pe_one (pe_cmpR op_le (pv 0) (pv 2) (nomark _)))))))), ?_⟩
  cases hd with
  | non => exact ⟨_, rfl, _, _, _, _, false, rfl, .ty "int", .base .non, kit_ty (by decide +kernel), _, rfl, q⟩
  | bl b => exact ⟨_, rfl, _, _, _, _, true, rfl, .ty "int", .base (.bl b), kit_ty (by decide +kernel), _, rfl, _, rfl, _, _, _, _, true, rfl, .ty "bool", .base (.bl b), kit_ty (by decide +kernel), _, rfl, _, rfl, q⟩
  | str b => exact ⟨_, rfl, _, _, _, _, false, rfl, .ty "int", .base (.str b), kit_ty (by decide +kernel), _, rfl, q⟩
  | lst h _ => exact ⟨_, rfl, _, _, _, _, false, rfl, .ty "int", tyL h, kit_ty (by decide +kernel), _, rfl, q⟩
  | tup h _ => exact ⟨_, rfl, _, _, _, _, false, rfl, .ty "int", tyT h, kit_ty (by decide +kernel), _, rfl, q⟩
  | int i =>
    refine ⟨_, rfl, _, _, _, _, true, rfl, .ty "int", .base (.int i), kit_ty (by decide +kernel), _, rfl, _, rfl, _, _, _, _, false, rfl, .ty "bool", .base (.int i), kit_ty (by decide +kernel), _, rfl, _, rfl, ?_⟩
    refine ⟨_, rfl, _, rfl, _, _, rfl, rfl, _, rfl, ite2 (fun c => ?_) (fun c => ?_)⟩
    · refine ⟨_, rfl, _, rfl, _, _, rfl, rfl, ?_⟩
      have q' : Q (.bl (decide (lo ≤ i) && decide (i ≤ hi))) H := q
      rw [c] at q'
      exact q'
    · have q' : Q (.bl (decide (lo ≤ i) && decide (i ≤ hi))) H := q
      rw [Bool.eq_false_iff.mpr c] at q'
      exact q'
set_option maxHeartbeats 4000000 in
theorem ok_l_are_cards {P : Program} {w : World} {K : PySem.W.Frag} {mg : Str → Option Value} {base : Heap} {f : Addr} {fd : FuncData} (F : Fun K "_law_are_cards" "_law_are_cards" s_l_are_cards f fd) (D_l_from : Def P w K mg base "_law_from" 1 ["thing", "least", "top"] (sp_l_from K)) (b_len : mg "len" = none) (b_isinstance : mg "isinstance" = none) (b_tuple : mg "tuple" = none) (b_all : mg "all" = none) :
    FnOk P w K mg base CX0 2 f fd ["thing"] (sp_l_are_cards K) := by
  refine F.ok sc_l_are_cards (fun vs H Q E h => ?_) (fun cdv A outer s H vs Q E hr h => ?_)
  · obtain ⟨x, d, rfl, hd, q⟩ := h
    rfl
  obtain ⟨x, d, rfl, hd, q⟩ := h
  refine ⟨_, (pss_cons (ps_if (PW.pt (pw_or (pt_not (pt_val (pe_callB call_isi (by rfl) b_isinstance PyProof.Rows.boot_isinstance (pa_cons (pv 0) (pa_cons (pe_bltn (v := .ty "tuple") rfl b_tuple PyProof.Rows.boot_tuple rfl) pa_nil))))) (pw_or1 (pt_not (pt_chain op_le op_le pe_int (pe_callB call_len_seq (by rfl) b_len PySem.boot_len (pa_cons (pv 0) pa_nil)) pe_int))))) (pss_one (ps_ret pe_bl)) pss_nil)
        (pss_one (ps_ret (pe_callB (cr_all rfl) (by rfl) b_all PyProof.Rows.boot_all (pa_cons (pe_lc (own := [("one", 1)]) (g := gName 1) (tt := tYes) rfl sc_l_are_cards.nd (pi_tup (pv 0)) (blkOk_by (own := [("one", 1)]) (N := ["thing", "one"]) (sc := defScope s_l_are_cards) (by decide +kernel)) (fun _ _ _ _ _ => (pg_name (i := 1) sc_l_are_cards.nd rfl (Or.inl rfl))) (fun _ _ _ _ _ => pts_nil) (fun _ _ _ _ _ => (pe_def D_l_from hr (pa_cons (pv 1) (pa_cons pe_int (pa_cons pe_int pa_nil)))))) pa_nil))))), ?_⟩
  cases hd with
  | non => exact ⟨_, rfl, _, _, _, _, false, rfl, .ty "tuple", .base .non, kit_ty (by decide +kernel), _, rfl, q _ (.refl H)⟩
  | bl b => exact ⟨_, rfl, _, _, _, _, false, rfl, .ty "tuple", .base (.bl b), kit_ty (by decide +kernel), _, rfl, q _ (.refl H)⟩
  | str b => exact ⟨_, rfl, _, _, _, _, false, rfl, .ty "tuple", .base (.str b), kit_ty (by decide +kernel), _, rfl, q _ (.refl H)⟩
  | int b => exact ⟨_, rfl, _, _, _, _, false, rfl, .ty "tuple", .base (.int b), kit_ty (by decide +kernel), _, rfl, q _ (.refl H)⟩
  | lst h _ => exact ⟨_, rfl, _, _, _, _, false, rfl, .ty "tuple", tyL h, kit_ty (by decide +kernel), _, rfl, q _ (.refl H)⟩
  | @tup a xs ds h hx =>
    have hl := dp_len hx
    refine ⟨_, rfl, _, _, _, _, true, rfl, .ty "tuple", tyT h, kit_ty (by decide +kernel), _, rfl, ?_⟩
    refine ⟨_, rfl, a, _, rfl, .inr h, _, _, rfl, rfl, _, rfl, ite2 (fun c => ?_) (fun c => ?_)⟩
    · have c' : 1 ≤ ds.length := by
        have := of_decide_eq_true c
        omega
      refine ⟨_, _, rfl, rfl, _, rfl, ?_⟩
      by_cases c2 : ds.length ≤ 3
      · have e2 : decide ((xs.length : Int) ≤ 3) = true := decide_eq_true (by omega)
        rw [e2]
        refine ⟨_, rfl, a, rfl, ⟨_, h⟩, fun D nD => ?_⟩
        refine lc_tup (K := K) (a := a) (xs := xs) (fun i H' => Same H H' ∧ H' D = some (.lst (((ds.take i).map (withinD 2 20)).map V.bl))) ?_ ?_ ?_ ?_
        · exact ⟨same_new (.refl H) nD, upd_same⟩
        · rintro i H' hi ⟨sm, e⟩
          exact Same.seqT sm h
        · rintro i y H' hi ⟨sm, e⟩
          obtain ⟨d, hd1, hd2⟩ := dp_get hx hi
          have hi' : i < xs.length := (List.getElem?_eq_some_iff.mp hi).1
          refine ⟨rfl, _, rfl, y, d, _, _, rfl, Same.dp sm hd2, _, e, ?_, same_fresh sm nD, ?_⟩
          · rw [List.length_map, List.length_map, List.length_take]
            exact small1000 (by omega)
          · rw [upd_same, take_map _ hd1, List.map_append]
            rfl
        · rintro H' ⟨sm, e⟩
          rw [hl, List.take_length] at e
          refine ⟨D, _, rfl, SqL.of e, ?_⟩
          have q' := q H' sm
          have ec : cardsD (.tuple ds) = (ds.map (withinD 2 20)).all id := by
            show (decide (1 ≤ ds.length) && decide (ds.length ≤ 3) && ds.all (withinD 2 20)) = _
            rw [decide_eq_true c', decide_eq_true c2, List.all_map]
            rfl
          rw [ec] at q'
          exact q'
      · have e2 : decide ((xs.length : Int) ≤ 3) = false := decide_eq_false (by omega)
        rw [e2]
        have q' := q H (.refl H)
        have ec : cardsD (.tuple ds) = false := by
          show (decide (1 ≤ ds.length) && decide (ds.length ≤ 3) && ds.all (withinD 2 20)) = _
          rw [decide_eq_false c2, Bool.and_false, Bool.false_and]
        rw [ec] at q'
        exact q'
    · have c' : ¬ 1 ≤ ds.length := fun z => c (decide_eq_true (by omega))
      refine ⟨_, rfl, ?_⟩
      have q' := q H (.refl H)
      have ec : cardsD (.tuple ds) = false := by
        show (decide (1 ≤ ds.length) && decide (ds.length ≤ 3) && ds.all (withinD 2 20)) = _
        rw [decide_eq_false c', Bool.false_and, Bool.false_and]
      rw [ec] at q'
      exact q'
set_option maxHeartbeats 4000000 in
theorem ok_p_refuse_no_cards {P : Program} {w : World} {K : PySem.W.Frag} {mg : Str → Option Value} {base : Heap} {f : Addr} {fd : FuncData} (F : Fun K "refuse_no_cards" "refuse_no_cards" s_p_refuse_no_cards f fd) (D_p_are_cards : Def P w K mg base "are_cards" 2 ["thing"] (sp_p_are_cards K)) {C_NoCards : Addr} (T_NoCards : ExcT K mg "NoCards" C_NoCards) :
    FnOk P w K mg base (L2N.CX P w) 3 f fd ["thing"] (sp_p_refuse_no_cards mg K) := by
  refine okN F sc_p_refuse_no_cards (fun vs H Q E h => ?_) (fun cdv A outer s H vs Q E hr h => ?_)
  · obtain ⟨x, d, rfl, hd, q1, q2⟩ := h
    rfl
  obtain ⟨x, d, rfl, hd, q1, q2⟩ := h
  refine ⟨_, (pss_one (ps_if (pt_not (pt_val (pe_def D_p_are_cards hr (pa_cons (pv 0) pa_nil)))) (pss_one (ps_raiseX T_NoCards (L2N.takes_of rfl rfl rfl rfl))) pss_nil)), ?_⟩
  refine ⟨_, rfl, x, d, rfl, hd, fun H' sm => ⟨_, rfl, ?_⟩⟩
  cases z : cardsD d with
  | true => exact q1 z H' sm
  | false => exact q2 z H' _ sm T_NoCards.g
set_option maxHeartbeats 4000000 in
theorem ok_p_are_stamps {P : Program} {w : World} {K : PySem.W.Frag} {mg : Str → Option Value} {base : Heap} {f : Addr} {fd : FuncData} (F : Fun K "are_stamps" "are_stamps" s_p_are_stamps f fd) (D_p_is_within : Def P w K mg base "is_within" 1 ["thing", "least", "most"] (sp_p_is_within K)) (b_len : mg "len" = none) (b_isinstance : mg "isinstance" = none) (b_tuple : mg "tuple" = none) (b_all : mg "all" = none) {t_MOST : Tok} (g_MOST : mg "MOST" = some (.int 1000000000000000000 t_MOST)) :
    FnOk P w K mg base CX0 2 f fd ["cards", "thing"] (sp_p_are_stamps K) := by
  refine F.ok sc_p_are_stamps (fun vs H Q E h => ?_) (fun cdv A outer s H vs Q E hr h => ?_)
  · obtain ⟨cA, cs, x, d, rfl, hC, h3, hd, q⟩ := h
    rfl
  obtain ⟨cA, cs, x, d, rfl, hC, h3, hd, q⟩ := h
  refine ⟨_, (pss_cons (ps_if (PW.pt (pw_or (pt_not (pt_val (pe_callB call_isi (by rfl) b_isinstance PyProof.Rows.boot_isinstance (pa_cons (pv 1) (pa_cons (pe_bltn (v := .ty "tuple") rfl b_tuple PyProof.Rows.boot_tuple rfl) pa_nil))))) (pw_or1 (pt_cmpR op_ne (pe_callB call_len_seq (by rfl) b_len PySem.boot_len (pa_cons (pv 1) pa_nil)) (pe_callB call_len_seq (by rfl) b_len PySem.boot_len (pa_cons (pv 0) pa_nil)) (nomark _))))) (pss_one (ps_ret pe_bl)) pss_nil)
        (pss_one (ps_ret (pe_callB (cr_all rfl) (by rfl) b_all PyProof.Rows.boot_all (pa_cons (pe_lc (own := [("many", 2)]) (g := gName 2) (tt := tYes) rfl sc_p_are_stamps.nd (pi_tup (pv 1)) (blkOk_by (own := [("many", 2)]) (N := ["cards", "thing", "many"]) (sc := defScope s_p_are_stamps) (by decide +kernel)) (fun _ _ _ _ _ => (pg_name (i := 2) sc_p_are_stamps.nd rfl (Or.inl rfl))) (fun _ _ _ _ _ => pts_nil) (fun _ _ _ _ _ => (pe_def D_p_is_within hr (pa_cons (pv 2) (pa_cons pe_int (pa_cons (pe_glob (v := .int 1000000000000000000) rfl g_MOST ⟨_, rfl⟩) pa_nil)))))) pa_nil))))), ?_⟩
  cases hd with
  | non => exact ⟨_, rfl, _, _, _, _, false, rfl, .ty "tuple", .base .non, kit_ty (by decide +kernel), _, rfl, q _ (.refl H)⟩
  | bl b => exact ⟨_, rfl, _, _, _, _, false, rfl, .ty "tuple", .base (.bl b), kit_ty (by decide +kernel), _, rfl, q _ (.refl H)⟩
  | str b => exact ⟨_, rfl, _, _, _, _, false, rfl, .ty "tuple", .base (.str b), kit_ty (by decide +kernel), _, rfl, q _ (.refl H)⟩
  | int b => exact ⟨_, rfl, _, _, _, _, false, rfl, .ty "tuple", .base (.int b), kit_ty (by decide +kernel), _, rfl, q _ (.refl H)⟩
  | lst h _ => exact ⟨_, rfl, _, _, _, _, false, rfl, .ty "tuple", tyL h, kit_ty (by decide +kernel), _, rfl, q _ (.refl H)⟩
  | @tup a xs ds h hx =>
    have hl := dp_len hx
    refine ⟨_, rfl, _, _, _, _, true, rfl, .ty "tuple", tyT h, kit_ty (by decide +kernel), _, rfl, ?_⟩
    refine ⟨_, rfl, a, _, rfl, .inr h, _, rfl, cA, _, rfl, .inr hC, rfl, _, rfl, ?_⟩
    by_cases c2 : ds.length = cs.length
    · have e2 : decide (V.int (xs.length : Int) = V.int (cs.length : Int)) = true := decide_eq_true (by rw [hl, c2])
      rw [e2]
      refine ⟨_, rfl, a, rfl, ⟨_, h⟩, fun D nD => ?_⟩
      refine lc_tup (K := K) (a := a) (xs := xs) (fun i H' => Same H H' ∧ H' D = some (.lst (((ds.take i).map (withinD 0 1000000000000000000)).map V.bl))) ?_ ?_ ?_ ?_
      · exact ⟨same_new (.refl H) nD, upd_same⟩
      · rintro i H' hi ⟨sm, e⟩
        exact Same.seqT sm h
      · rintro i y H' hi ⟨sm, e⟩
        obtain ⟨d, hd1, hd2⟩ := dp_get hx hi
        have hi' : i < xs.length := (List.getElem?_eq_some_iff.mp hi).1
        refine ⟨rfl, _, rfl, y, d, _, _, rfl, Same.dp sm hd2, _, e, ?_, same_fresh sm nD, ?_⟩
        · rw [List.length_map, List.length_map, List.length_take]
          exact small1000 (by omega)
        · rw [upd_same, take_map _ hd1, List.map_append]
          rfl
      · rintro H' ⟨sm, e⟩
        rw [hl, List.take_length] at e
        refine ⟨D, _, rfl, SqL.of e, ?_⟩
        have q' := q H' sm
        have ec : stampsD cs.length (.tuple ds) = (ds.map (withinD 0 1000000000000000000)).all id := by
          show (decide (ds.length = cs.length) && ds.all (withinD 0 1000000000000000000)) = _
          rw [decide_eq_true c2, List.all_map]
          rfl
        rw [ec] at q'
        exact q'
    · have e2 : decide (V.int (xs.length : Int) = V.int (cs.length : Int)) = false := decide_eq_false (fun z => c2 (by have := V.int.inj z; omega))
      rw [e2]
      have q' := q H (.refl H)
      have ec : stampsD cs.length (.tuple ds) = false := by
        show (decide (ds.length = cs.length) && ds.all (withinD 0 1000000000000000000)) = _
        rw [decide_eq_false c2, Bool.false_and]
      rw [ec] at q'
      exact q'
set_option maxHeartbeats 4000000 in
theorem ok_p_purse_fits {P : Program} {w : World} {K : PySem.W.Frag} {mg : Str → Option Value} {base : Heap} {f : Addr} {fd : FuncData} (F : Fun K "purse_fits" "purse_fits" s_p_purse_fits f fd) (D_p_are_stamps : Def P w K mg base "are_stamps" 2 ["cards", "thing"] (sp_p_are_stamps K)) (D_p_is_within : Def P w K mg base "is_within" 1 ["thing", "least", "most"] (sp_p_is_within K)) (b_len : mg "len" = none) (b_isinstance : mg "isinstance" = none) (b_tuple : mg "tuple" = none) {t_MOST : Tok} (g_MOST : mg "MOST" = some (.int 1000000000000000000 t_MOST)) :
    FnOk P w K mg base CX0 3 f fd ["cards", "thing"] (sp_p_purse_fits K) := by
  refine F.ok sc_p_purse_fits (fun vs H Q E h => ?_) (fun cdv A outer s H vs Q E hr h => ?_)
  · obtain ⟨cA, cs, x, d, rfl, hC, h3, hd, q⟩ := h
    rfl
  obtain ⟨cA, cs, x, d, rfl, hC, h3, hd, q⟩ := h
  refine ⟨_, (pss_cons (ps_if (PW.pt (pw_or (pt_not (pt_val (pe_callB call_isi (by rfl) b_isinstance PyProof.Rows.boot_isinstance (pa_cons (pv 1) (pa_cons (pe_bltn (v := .ty "tuple") rfl b_tuple PyProof.Rows.boot_tuple rfl) pa_nil))))) (pw_or1 (pt_cmpR op_ne (pe_callB call_len_seq (by rfl) b_len PySem.boot_len (pa_cons (pv 1) pa_nil)) pe_int (nomark _))))) (pss_one (ps_ret pe_bl)) pss_nil)
        (pss_cons (ps_asg (pv 1) (pg_tup rfl (pgs_cons (pg_name (i := 2) sc_p_purse_fits.nd rfl (Or.inl rfl)) (pgs_cons (pg_name (i := 3) sc_p_purse_fits.nd rfl (Or.inl rfl)) pgs_nil))))
        (pss_one (ps_ret (pe_and (pe_def D_p_is_within hr (pa_cons (pv 2) (pa_cons pe_int (pa_cons (pe_glob (v := .int 1000000000000000000) rfl g_MOST ⟨_, rfl⟩) pa_nil)))) (pe_one (pe_def D_p_are_stamps hr (pa_cons (pv 0) (pa_cons (pv 3) pa_nil))))))))), ?_⟩
  cases hd with
  | non => exact ⟨_, rfl, _, _, _, _, false, rfl, .ty "tuple", .base .non, kit_ty (by decide +kernel), _, rfl, q _ (.refl H)⟩
  | bl b => exact ⟨_, rfl, _, _, _, _, false, rfl, .ty "tuple", .base (.bl b), kit_ty (by decide +kernel), _, rfl, q _ (.refl H)⟩
  | str b => exact ⟨_, rfl, _, _, _, _, false, rfl, .ty "tuple", .base (.str b), kit_ty (by decide +kernel), _, rfl, q _ (.refl H)⟩
  | int b => exact ⟨_, rfl, _, _, _, _, false, rfl, .ty "tuple", .base (.int b), kit_ty (by decide +kernel), _, rfl, q _ (.refl H)⟩
  | lst h _ => exact ⟨_, rfl, _, _, _, _, false, rfl, .ty "tuple", tyL h, kit_ty (by decide +kernel), _, rfl, q _ (.refl H)⟩
  | @tup a xs ds h hx =>
    have hl := dp_len hx
    refine ⟨_, rfl, _, _, _, _, true, rfl, .ty "tuple", tyT h, kit_ty (by decide +kernel), _, rfl, ?_⟩
    refine ⟨_, rfl, a, _, rfl, .inr h, rfl, _, rfl, ?_⟩
    by_cases c2 : xs.length = 2
    · have e2 : decide (V.int (xs.length : Int) = V.int 2) = true := decide_eq_true (by rw [c2]; rfl)
      rw [e2]
      obtain ⟨x1, x2, rfl⟩ := len2 c2
      obtain ⟨d1, d2, rfl, y1, y2⟩ := dp_two hx
      refine ⟨_, rfl, a, [x1, x2], rfl, h, rfl, x1, [x2], rfl, x2, [], rfl, rfl, ?_⟩
      refine ⟨_, rfl, x1, d1, 0, 1000000000000000000, rfl, y1, _, rfl, ite2 (fun c => ?_) (fun c => ?_)⟩
      · refine ⟨_, rfl, _, rfl, cA, cs, x2, d2, rfl, hC, h3, y2, fun H' sm => ?_⟩
        have q' : Q (.bl (withinD 0 1000000000000000000 d1 && stampsD cs.length d2)) H' := q H' sm
        rw [c] at q'
        exact q'
      · have q' : Q (.bl (withinD 0 1000000000000000000 d1 && stampsD cs.length d2)) H := q H (.refl H)
        rw [Bool.eq_false_iff.mpr c] at q'
        exact q'
    · have e2 : decide (V.int (xs.length : Int) = V.int 2) = false := decide_eq_false (fun z => c2 (by have := V.int.inj z; omega))
      rw [e2]
      have q' := q H (.refl H)
      have ec : purseD cs.length (.tuple ds) = false := by
        exact purse_not2 (by omega)
      rw [ec] at q'
      exact q'
set_option maxHeartbeats 4000000 in
theorem ok_p_is_purse {P : Program} {w : World} {K : PySem.W.Frag} {mg : Str → Option Value} {base : Heap} {f : Addr} {fd : FuncData} (F : Fun K "is_purse" "is_purse" s_p_is_purse f fd) (D_p_refuse_no_cards : DefX P w K mg base "refuse_no_cards" 3 ["thing"] (sp_p_refuse_no_cards mg K)) (D_p_purse_fits : Def P w K mg base "purse_fits" 3 ["cards", "thing"] (sp_p_purse_fits K)) :
    FnOk P w K mg base (L2N.CX P w) 4 f fd ["cards", "thing"] (sp_p_is_purse mg K) := by
  refine okN F sc_p_is_purse (fun vs H Q E h => ?_) (fun cdv A outer s H vs Q E hr h => ?_)
  · obtain ⟨x, y, d, e, rfl, hd, he, q1, q2⟩ := h
    rfl
  obtain ⟨x, y, d, e, rfl, hd, he, q1, q2⟩ := h
  refine ⟨_, (pss_cons (ps_expr (pe_defX D_p_refuse_no_cards hr (L2N.takes_of rfl rfl rfl rfl) (pa_cons (pv 0) pa_nil)))
        (PSs.nox (pss_one (ps_ret (pe_def D_p_purse_fits hr (pa_cons (pv 0) (pa_cons (pv 1) pa_nil))))))), ?_⟩
  refine ⟨_, rfl, x, d, rfl, hd, fun h H1 s1 => ?_, fun h H1 C s1 g => q2 h H1 C s1 g⟩
  cases hd with
  | @tup a xs ds hT hx =>
    have hl := dp_len hx
    have h' : (decide (1 ≤ ds.length) && decide (ds.length ≤ 3) && ds.all (withinD 2 20)) = true := h
    rw [Bool.and_eq_true, Bool.and_eq_true, decide_eq_true_eq, decide_eq_true_eq] at h'
    refine ⟨_, rfl, _, rfl, a, xs, y, e, rfl, Same.seqT s1 hT, by omega, Same.dp s1 he, fun H2 s2 => ?_⟩
    have q' := q1 h ds.length (fun ds' z => by cases z; rfl) H2 (s1.trans s2)
    rw [hl]
    exact q'
  | non => exact nomatch h
  | bl b => exact nomatch h
  | int b => exact nomatch h
  | str b => exact nomatch h
  | lst _ _ => exact nomatch h
set_option maxHeartbeats 4000000 in
theorem ok_l_is_purse {P : Program} {w : World} {K : PySem.W.Frag} {mg : Str → Option Value} {base : Heap} {f : Addr} {fd : FuncData} (F : Fun K "_law_is_purse" "_law_is_purse" s_l_is_purse f fd) (D_l_from : Def P w K mg base "_law_from" 1 ["thing", "least", "top"] (sp_l_from K)) (b_len : mg "len" = none) (b_isinstance : mg "isinstance" = none) (b_tuple : mg "tuple" = none) (b_all : mg "all" = none) :
    FnOk P w K mg base CX0 2 f fd ["kinds", "thing"] (sp_l_is_purse K) := by
  refine F.ok sc_l_is_purse (fun vs H Q E h => ?_) (fun cdv A outer s H vs Q E hr h => ?_)
  · obtain ⟨cA, cs, x, d, rfl, hC, h3, hd, q⟩ := h
    rfl
  obtain ⟨cA, cs, x, d, rfl, hC, h3, hd, q⟩ := h
  refine ⟨_, (pss_cons (ps_if (PW.pt (pw_or (pt_not (pt_val (pe_callB call_isi (by rfl) b_isinstance PyProof.Rows.boot_isinstance (pa_cons (pv 1) (pa_cons (pe_bltn (v := .ty "tuple") rfl b_tuple PyProof.Rows.boot_tuple rfl) pa_nil))))) (pw_or (pt_cmpR op_ne (pe_callB call_len_seq (by rfl) b_len PySem.boot_len (pa_cons (pv 1) pa_nil)) pe_int (nomark _)) (pw_or1 (pt_not (pt_val (pe_def D_l_from hr (pa_cons (pe_ix ix_tup (pv 1) pe_int (fun _ _ => rfl)) (pa_cons pe_int (pa_cons (pe_op op_pow pe_int pe_int) pa_nil)))))))))) (pss_one (ps_ret pe_bl)) pss_nil)
        (pss_cons (ps_if (PW.pt (pw_or (pt_not (pt_val (pe_callB call_isi (by rfl) b_isinstance PyProof.Rows.boot_isinstance (pa_cons (pe_ix ix_tup (pv 1) pe_int (fun _ _ => rfl)) (pa_cons (pe_bltn (v := .ty "tuple") rfl b_tuple PyProof.Rows.boot_tuple rfl) pa_nil))))) (pw_or1 (pt_cmpR op_ne (pe_callB call_len_seq (by rfl) b_len PySem.boot_len (pa_cons (pe_ix ix_tup (pv 1) pe_int (fun _ _ => rfl)) pa_nil)) (pe_callB call_len_seq (by rfl) b_len PySem.boot_len (pa_cons (pv 0) pa_nil)) (nomark _))))) (pss_one (ps_ret pe_bl)) pss_nil)
        (pss_one (ps_ret (pe_callB (cr_all rfl) (by rfl) b_all PyProof.Rows.boot_all (pa_cons (pe_lc (own := [("one", 2)]) (g := gName 2) (tt := tYes) rfl sc_l_is_purse.nd (pi_tup (pe_ix ix_tup (pv 1) pe_int (fun _ _ => rfl))) (blkOk_by (own := [("one", 2)]) (N := ["kinds", "thing", "one"]) (sc := defScope s_l_is_purse) (by decide +kernel)) (fun _ _ _ _ _ => (pg_name (i := 2) sc_l_is_purse.nd rfl (Or.inl rfl))) (fun _ _ _ _ _ => pts_nil) (fun _ _ _ _ _ => (pe_def D_l_from hr (pa_cons (pv 2) (pa_cons pe_int (pa_cons (pe_op op_pow pe_int pe_int) pa_nil)))))) pa_nil)))))), ?_⟩
  have qf : purseD cs.length d = false → ∀ H', Same H H' → Q (.bl false) H' := fun h H' s => by
    have := q H' s
    rwa [h] at this
  cases hd with
  | non => exact ⟨_, rfl, _, _, _, _, false, rfl, .ty "tuple", .base .non, kit_ty (by decide +kernel), _, rfl, q _ (.refl H)⟩
  | bl b => exact ⟨_, rfl, _, _, _, _, false, rfl, .ty "tuple", .base (.bl b), kit_ty (by decide +kernel), _, rfl, q _ (.refl H)⟩
  | str b => exact ⟨_, rfl, _, _, _, _, false, rfl, .ty "tuple", .base (.str b), kit_ty (by decide +kernel), _, rfl, q _ (.refl H)⟩
  | int b => exact ⟨_, rfl, _, _, _, _, false, rfl, .ty "tuple", .base (.int b), kit_ty (by decide +kernel), _, rfl, q _ (.refl H)⟩
  | lst h _ => exact ⟨_, rfl, _, _, _, _, false, rfl, .ty "tuple", tyL h, kit_ty (by decide +kernel), _, rfl, q _ (.refl H)⟩
  | @tup a xs ds h hx =>
    have hl := dp_len hx
    refine ⟨_, rfl, _, _, _, _, true, rfl, .ty "tuple", tyT h, kit_ty (by decide +kernel), _, rfl, ?_⟩
    refine ⟨_, rfl, a, _, rfl, .inr h, rfl, _, rfl, ?_⟩
    by_cases c2 : xs.length = 2
    · have e2 : decide (V.int (xs.length : Int) = V.int 2) = true := decide_eq_true (by rw [c2]; rfl)
      rw [e2]
      obtain ⟨x1, x2, rfl⟩ := len2 c2
      obtain ⟨d1, d2, rfl, y1, y2⟩ := dp_two hx
      have ep : purseD cs.length (.tuple [d1, d2]) = (withinD 0 1000000000000000000 d1 && stampsD cs.length d2) := rfl
      rw [ep] at q qf
      refine ⟨_, rfl, a, _, _, _, rfl, rfl, h, atI_nat (j := 0) rfl, 10, 18, rfl, rfl, ⟨by decide, by decide, by decide⟩, x1, d1, 0, _, rfl, y1, _, rfl, ?_⟩
      have e18 : ((10 : Int) ^ (Int.toNat 18)) = 1000000000000000000 := by decide
      rw [e18]
      cases z : withinD 0 1000000000000000000 d1 with
      | false => exact qf (by rw [z]; rfl) H (.refl H)
      | true =>
        rw [z, Bool.true_and] at q qf
        refine ⟨_, rfl, a, _, _, _, rfl, rfl, h, atI_nat (j := 1) rfl, ?_⟩
        cases y2 with
        | non => exact ⟨_, _, _, _, false, rfl, .ty "tuple", .base .non, kit_ty (by decide +kernel), _, rfl, q _ (.refl H)⟩
        | bl b => exact ⟨_, _, _, _, false, rfl, .ty "tuple", .base (.bl b), kit_ty (by decide +kernel), _, rfl, q _ (.refl H)⟩
        | str b => exact ⟨_, _, _, _, false, rfl, .ty "tuple", .base (.str b), kit_ty (by decide +kernel), _, rfl, q _ (.refl H)⟩
        | int b => exact ⟨_, _, _, _, false, rfl, .ty "tuple", .base (.int b), kit_ty (by decide +kernel), _, rfl, q _ (.refl H)⟩
        | lst g _ => exact ⟨_, _, _, _, false, rfl, .ty "tuple", tyL g, kit_ty (by decide +kernel), _, rfl, q _ (.refl H)⟩
        | @tup b ys es h2 hy =>
          have hl2 := dp_len hy
          refine ⟨_, _, _, _, true, rfl, .ty "tuple", tyT h2, kit_ty (by decide +kernel), _, rfl, ?_⟩
          refine ⟨_, rfl, a, _, _, _, rfl, rfl, h, atI_nat (j := 1) rfl, b, _, rfl, .inr h2, _, rfl, cA, _, rfl, .inr hC, rfl, _, rfl, ?_⟩
          by_cases c3 : ys.length = cs.length
          · have e3 : decide (V.int (ys.length : Int) = V.int (cs.length : Int)) = true := decide_eq_true (by rw [c3])
            rw [e3]
            refine ⟨_, rfl, a, _, _, _, rfl, rfl, h, atI_nat (j := 1) rfl, b, rfl, ⟨_, h2⟩, fun D nD => ?_⟩
            refine lc_tup (K := K) (a := b) (xs := ys) (fun i H' => Same H H' ∧ H' D = some (.lst (((es.take i).map (withinD 0 1000000000000000000)).map V.bl))) ?_ ?_ ?_ ?_
            · exact ⟨same_new (.refl H) nD, upd_same⟩
            · rintro i H' hi ⟨sm, e⟩
              exact Same.seqT sm h2
            · rintro i y H' hi ⟨sm, e⟩
              obtain ⟨d, hd1, hd2⟩ := dp_get hy hi
              have hi' : i < ys.length := (List.getElem?_eq_some_iff.mp hi).1
              refine ⟨rfl, _, rfl, 10, 18, rfl, rfl, ⟨by decide, by decide, by decide⟩, y, d, _, _, rfl, Same.dp sm hd2, _, e, ?_, same_fresh sm nD, ?_⟩
              · rw [List.length_map, List.length_map, List.length_take]
                exact small1000 (by omega)
              · rw [upd_same, take_map _ hd1, List.map_append, e18]
                rfl
            · rintro H' ⟨sm, e⟩
              rw [hl2, List.take_length] at e
              refine ⟨D, _, rfl, SqL.of e, ?_⟩
              have q' := q H' sm
              have ec : stampsD cs.length (.tuple es) = (es.map (withinD 0 1000000000000000000)).all id := by
                show (decide (es.length = cs.length) && es.all (withinD 0 1000000000000000000)) = _
                rw [decide_eq_true (by omega), List.all_map]
                rfl
              rw [ec] at q'
              exact q'
          · have e3 : decide (V.int (ys.length : Int) = V.int (cs.length : Int)) = false := decide_eq_false (fun z => c3 (by have := V.int.inj z; omega))
            rw [e3]
            refine qf ?_ H (.refl H)
            show (decide (es.length = cs.length) && es.all (withinD 0 1000000000000000000)) = false
            rw [decide_eq_false (by omega), Bool.false_and]
    · have e2 : decide (V.int (xs.length : Int) = V.int 2) = false := decide_eq_false (fun z => c2 (by have := V.int.inj z; omega))
      rw [e2]
      exact qf (purse_not2 (by omega)) H (.refl H)
set_option maxHeartbeats 4000000 in
theorem ok_l_refused {P : Program} {w : World} {K : PySem.W.Frag} {mg : Str → Option Value} {base : Heap} {f : Addr} {fd : FuncData} (F : Fun K "_law_refused" "_law_refused" s_l_refused f fd) (b_isinstance : mg "isinstance" = none) (b_ValueError : mg "ValueError" = none) :
    FnOk P w K mg base CX0 13 f fd ["call", "one", "two", "three"] (sp_l_refused P w K mg base) := by
  refine F.ok sc_l_refused (fun vs H Q E h => ?_) (fun cdv A outer s H vs Q E hr h => ?_)
  · obtain ⟨f', x, y, z, sp, C, tf, rd, rfl, T, hF, mono, h⟩ := h
    rfl
  obtain ⟨f', x, y, z, sp, C, tf, rd, rfl, T, hF, mono, h⟩ := h
  refine ⟨_, pss_cons (ps_set (i := 4) sc_l_refused.nd rfl (Or.inl rfl) (pe_lst pa_nil))
    (pss_cons (ps_try_as2 (i := 5) (tb := fun W => tDrop (tCallH 0 P w K mg base 12 W (tCons (tVar 1) (tCons (tVar 2) (tCons (tVar 3) tNil))))) (ts1 := fun _ _ _ => tNever) (ts2 := fun a cls d => tWords K C a cls d (tKin K a cls d)) rfl rfl sc_l_refused.nd rfl rfl ⟨rfl, by decide, .inl T.tf⟩ ⟨rfl, by decide, .inl T.rd⟩
      (fun W pn xe tk _ => pss_one (ps_expr (pe_callH (k := 12) hr rfl (.inl rfl) tk (pa_cons (pv 1) (pa_cons (pv 2) (pa_cons (pv 3) pa_nil))))))
      (fun a oe cls d pn z f => pss_never)
      (fun a oe cls d pn z f => (pss_cons (ps_set (i := 6) sc_l_refused.nd rfl (Or.inl rfl) (pe_lst (pa_cons (pe_tup (pa_cons pe_str (pa_cons (pe_callB (call_isE2 z f) (by rfl) b_isinstance PyProof.Rows.boot_isinstance (pa_cons (pv 5) (pa_cons (pe_glob (v := .ref (C 0)) rfl (T.w 0 (by decide)) rfl) pa_nil))) pa_nil))) (pa_cons (pe_tup (pa_cons pe_str (pa_cons (pe_callB (call_isE2 z f) (by rfl) b_isinstance PyProof.Rows.boot_isinstance (pa_cons (pv 5) (pa_cons (pe_glob (v := .ref (C 1)) rfl (T.w 1 (by decide)) rfl) pa_nil))) pa_nil))) pa_nil))))
        (pss_cons (ps_set (i := 6) sc_l_refused.nd rfl (Or.inl rfl) (pe_op op_cat (pv 6) (pe_lst (pa_cons (pe_tup (pa_cons pe_str (pa_cons (pe_callB (call_isE2 z f) (by rfl) b_isinstance PyProof.Rows.boot_isinstance (pa_cons (pv 5) (pa_cons (pe_glob (v := .ref (C 2)) rfl (T.w 2 (by decide)) rfl) pa_nil))) pa_nil))) pa_nil))))
        (pss_cons (ps_set (i := 6) sc_l_refused.nd rfl (Or.inl rfl) (pe_op op_cat (pv 6) (pe_lst (pa_cons (pe_tup (pa_cons pe_str (pa_cons (pe_callB (call_isE2 z f) (by rfl) b_isinstance PyProof.Rows.boot_isinstance (pa_cons (pv 5) (pa_cons (pe_glob (v := .ref (C 3)) rfl (T.w 3 (by decide)) rfl) pa_nil))) pa_nil))) (pa_cons (pe_tup (pa_cons pe_str (pa_cons (pe_callB (call_isE2 z f) (by rfl) b_isinstance PyProof.Rows.boot_isinstance (pa_cons (pv 5) (pa_cons (pe_glob (v := .ref (C 4)) rfl (T.w 4 (by decide)) rfl) pa_nil))) pa_nil))) pa_nil)))))
        (pss_cons (ps_set (i := 6) sc_l_refused.nd rfl (Or.inl rfl) (pe_op op_cat (pv 6) (pe_lst (pa_cons (pe_tup (pa_cons pe_str (pa_cons (pe_callB (call_isE2 z f) (by rfl) b_isinstance PyProof.Rows.boot_isinstance (pa_cons (pv 5) (pa_cons (pe_glob (v := .ref (C 5)) rfl (T.w 5 (by decide)) rfl) pa_nil))) pa_nil))) (pa_cons (pe_tup (pa_cons pe_str (pa_cons (pe_callB (call_isE2 z f) (by rfl) b_isinstance PyProof.Rows.boot_isinstance (pa_cons (pv 5) (pa_cons (pe_glob (v := .ref (C 6)) rfl (T.w 6 (by decide)) rfl) pa_nil))) pa_nil))) pa_nil)))))
        (pss_cons (ps_set (i := 6) sc_l_refused.nd rfl (Or.inl rfl) (pe_op op_cat (pv 6) (pe_lst (pa_cons (pe_tup (pa_cons pe_str (pa_cons (pe_callB (call_isE2 z f) (by rfl) b_isinstance PyProof.Rows.boot_isinstance (pa_cons (pv 5) (pa_cons (pe_glob (v := .ref (C 7)) rfl (T.w 7 (by decide)) rfl) pa_nil))) pa_nil))) (pa_cons (pe_tup (pa_cons pe_str (pa_cons (pe_callB (call_isE2 z f) (by rfl) b_isinstance PyProof.Rows.boot_isinstance (pa_cons (pv 5) (pa_cons (pe_glob (v := .ref (C 8)) rfl (T.w 8 (by decide)) rfl) pa_nil))) pa_nil))) pa_nil)))))
        (pss_cons (ps_set (i := 6) sc_l_refused.nd rfl (Or.inl rfl) (pe_op op_cat (pv 6) (pe_lst (pa_cons (pe_tup (pa_cons pe_str (pa_cons (pe_callB (call_isE2 z f) (by rfl) b_isinstance PyProof.Rows.boot_isinstance (pa_cons (pv 5) (pa_cons (pe_glob (v := .ref (C 9)) rfl (T.w 9 (by decide)) rfl) pa_nil))) pa_nil))) pa_nil))))
        (pss_cons (ps_expr (pe_bm PySem.F.plainAttrs_list PySem.F.slot_list_append PySem.F.type_list_append mt_append (pv 6) (pa_cons (pe_tup (pa_cons pe_str (pa_cons (pe_callB (call_isE2 z f) (by rfl) b_isinstance PyProof.Rows.boot_isinstance (pa_cons (pv 5) (pa_cons (pe_glob (v := .ref (C 10)) rfl (T.w 10 (by decide)) rfl) pa_nil))) pa_nil))) pa_nil)))
        (pss_one (ps_set (i := 4) sc_l_refused.nd rfl (Or.inl rfl) (pe_op op_cat (pe_lcH2 (own := [("word", 7), ("there", 8)]) (g := gTup K 2 (gCons (gName 7) (gCons (gName 8) gNil))) z f rfl rfl sc_l_refused.nd (pv 6) (blkOk_by (own := [("word", 7), ("there", 8)]) (N := ["call", "one", "two", "three", "kin", "e", "words", "word", "there"]) (sc := defScope s_l_refused) (by decide +kernel)) (fun _ _ _ _ _ wm => pg_tupH wm (pgs_cons (pg_name (i := 7) sc_l_refused.nd rfl (Or.inl rfl)) (pgs_cons (pg_name (i := 8) sc_l_refused.nd rfl (Or.inl rfl)) pgs_nil))) (fun _ _ _ _ _ => pts_one (pt_val (pv 8))) (fun _ _ _ _ _ => pv 7)) (pe_lst (pa_cons (pe_callB (call_isE2 z f) (by rfl) b_isinstance PyProof.Rows.boot_isinstance (pa_cons (pv 5) (pa_cons (pe_bltn (v := .ty "ValueError") rfl b_ValueError (by decide +kernel) rfl) pa_nil))) pa_nil))))))))))))))
    (pss_one (ps_ret (pv 4)))), ?_⟩
  refine ⟨Nat.zero_le _, fun l nl => ?_⟩
  have s0 := same_upd (o := .lst []) nl
  refine ⟨f', sp, rfl, held3 (hF.same s0) rfl rfl rfl ?_⟩
  have h1 := h _ s0
  refine mono _ _ _ _ _ _ h1 (fun v H2 g => ?_) (fun cls d H2 g => ?_)
  · obtain ⟨s2, q⟩ := g
    exact ⟨_, rfl, q l H2 (.refl H2) (s2 _ _ upd_same)⟩
  · obtain ⟨s2, i, rfl, rfl, KO, q⟩ := g
    refine ⟨false, KO.n, fun z => (nomatch z), fun _ => ⟨true, KO.y, fun _ a na => ?_, fun z => nomatch z⟩⟩
    refine ⟨_, rfl, C i, .ref (C 0), .ref (C 0), _, rfl, rfl, KO.ex, rfl, fun _ r => r, KO.k 0 (by decide), (by show 2 ≤ sizeLine; decide), fun t0 n0 => ?_⟩
    refine ⟨_, rfl, C i, .ref (C 1), .ref (C 1), _, rfl, rfl, KO.ex, rfl, fun _ r => r, KO.k 1 (by decide), (by show 2 ≤ sizeLine; decide), fun t1 n1 => ?_⟩
    refine ⟨(by show 2 ≤ sizeLine; decide), fun w0 m0 => ?_⟩
    refine ⟨_, rfl, ?_⟩
    refine ⟨_, rfl, C i, .ref (C 2), .ref (C 2), _, rfl, rfl, KO.ex, rfl, fun _ r => r, KO.k 2 (by decide), (by show 2 ≤ sizeLine; decide), fun t2 n2 => ?_⟩
    refine ⟨(by show 1 ≤ sizeLine; decide), fun w1 m1 => ?_⟩
    refine ⟨w0, w1, _, _, rfl, rfl, ((same_upd n2).trans (same_upd m1)) _ _ upd_same, upd_same, (by show 3 ≤ sizeLine; decide), fun w2 m2 => ?_⟩
    refine ⟨_, rfl, ?_⟩
    refine ⟨_, rfl, C i, .ref (C 3), .ref (C 3), _, rfl, rfl, KO.ex, rfl, fun _ r => r, KO.k 3 (by decide), (by show 2 ≤ sizeLine; decide), fun t3 n3 => ?_⟩
    refine ⟨_, rfl, C i, .ref (C 4), .ref (C 4), _, rfl, rfl, KO.ex, rfl, fun _ r => r, KO.k 4 (by decide), (by show 2 ≤ sizeLine; decide), fun t4 n4 => ?_⟩
    refine ⟨(by show 2 ≤ sizeLine; decide), fun w3 m3 => ?_⟩
    refine ⟨w2, w3, _, _, rfl, rfl, (((same_upd n3).trans (same_upd n4)).trans (same_upd m3)) _ _ upd_same, upd_same, (by show 5 ≤ sizeLine; decide), fun w4 m4 => ?_⟩
    refine ⟨_, rfl, ?_⟩
    refine ⟨_, rfl, C i, .ref (C 5), .ref (C 5), _, rfl, rfl, KO.ex, rfl, fun _ r => r, KO.k 5 (by decide), (by show 2 ≤ sizeLine; decide), fun t5 n5 => ?_⟩
    refine ⟨_, rfl, C i, .ref (C 6), .ref (C 6), _, rfl, rfl, KO.ex, rfl, fun _ r => r, KO.k 6 (by decide), (by show 2 ≤ sizeLine; decide), fun t6 n6 => ?_⟩
    refine ⟨(by show 2 ≤ sizeLine; decide), fun w5 m5 => ?_⟩
    refine ⟨w4, w5, _, _, rfl, rfl, (((same_upd n5).trans (same_upd n6)).trans (same_upd m5)) _ _ upd_same, upd_same, (by show 7 ≤ sizeLine; decide), fun w6 m6 => ?_⟩
    refine ⟨_, rfl, ?_⟩
    refine ⟨_, rfl, C i, .ref (C 7), .ref (C 7), _, rfl, rfl, KO.ex, rfl, fun _ r => r, KO.k 7 (by decide), (by show 2 ≤ sizeLine; decide), fun t7 n7 => ?_⟩
    refine ⟨_, rfl, C i, .ref (C 8), .ref (C 8), _, rfl, rfl, KO.ex, rfl, fun _ r => r, KO.k 8 (by decide), (by show 2 ≤ sizeLine; decide), fun t8 n8 => ?_⟩
    refine ⟨(by show 2 ≤ sizeLine; decide), fun w7 m7 => ?_⟩
    refine ⟨w6, w7, _, _, rfl, rfl, (((same_upd n7).trans (same_upd n8)).trans (same_upd m7)) _ _ upd_same, upd_same, (by show 9 ≤ sizeLine; decide), fun w8 m8 => ?_⟩
    refine ⟨_, rfl, ?_⟩
    refine ⟨_, rfl, C i, .ref (C 9), .ref (C 9), _, rfl, rfl, KO.ex, rfl, fun _ r => r, KO.k 9 (by decide), (by show 2 ≤ sizeLine; decide), fun t9 n9 => ?_⟩
    refine ⟨(by show 1 ≤ sizeLine; decide), fun w9 m9 => ?_⟩
    refine ⟨w8, w9, _, _, rfl, rfl, ((same_upd n9).trans (same_upd m9)) _ _ upd_same, upd_same, (by show 10 ≤ sizeLine; decide), fun w10 m10 => ?_⟩
    refine ⟨_, rfl, .inl ⟨rfl, _, SqL.of upd_same⟩, ?_⟩
    refine ⟨_, rfl, C i, .ref (C 10), .ref (C 10), _, rfl, rfl, KO.ex, rfl, fun _ r => r, KO.k 10 (by decide), (by show 2 ≤ sizeLine; decide), fun t10 n10 => ?_⟩
    refine ⟨w10, _, _, rfl, rfl, same_upd n10 _ _ upd_same, (by show 10 < sizeLine; decide), ?_⟩
    have e0 := (((((((((((((((((((((same_upd n1).trans (same_upd m0)).trans (same_upd n2)).trans (same_upd m1)).trans (same_upd m2)).trans (same_upd n3)).trans (same_upd n4)).trans (same_upd m3)).trans (same_upd m4)).trans (same_upd n5)).trans (same_upd n6)).trans (same_upd m5)).trans (same_upd m6)).trans (same_upd n7)).trans (same_upd n8)).trans (same_upd m7)).trans (same_upd m8)).trans (same_upd n9)).trans (same_upd m9)).trans (same_upd m10)).trans (same_upd (o := .tup [.str "NothingLeft", .bl (decide (i = 10))]) n10)) _ _ (upd_same (a := t0))
    have e1 := ((((((((((((((((((((same_upd m0).trans (same_upd n2)).trans (same_upd m1)).trans (same_upd m2)).trans (same_upd n3)).trans (same_upd n4)).trans (same_upd m3)).trans (same_upd m4)).trans (same_upd n5)).trans (same_upd n6)).trans (same_upd m5)).trans (same_upd m6)).trans (same_upd n7)).trans (same_upd n8)).trans (same_upd m7)).trans (same_upd m8)).trans (same_upd n9)).trans (same_upd m9)).trans (same_upd m10)).trans (same_upd (o := .tup [.str "NothingLeft", .bl (decide (i = 10))]) n10)) _ _ (upd_same (a := t1))
    have e2 := ((((((((((((((((((same_upd m1).trans (same_upd m2)).trans (same_upd n3)).trans (same_upd n4)).trans (same_upd m3)).trans (same_upd m4)).trans (same_upd n5)).trans (same_upd n6)).trans (same_upd m5)).trans (same_upd m6)).trans (same_upd n7)).trans (same_upd n8)).trans (same_upd m7)).trans (same_upd m8)).trans (same_upd n9)).trans (same_upd m9)).trans (same_upd m10)).trans (same_upd (o := .tup [.str "NothingLeft", .bl (decide (i = 10))]) n10)) _ _ (upd_same (a := t2))
    have e3 := (((((((((((((((same_upd n4).trans (same_upd m3)).trans (same_upd m4)).trans (same_upd n5)).trans (same_upd n6)).trans (same_upd m5)).trans (same_upd m6)).trans (same_upd n7)).trans (same_upd n8)).trans (same_upd m7)).trans (same_upd m8)).trans (same_upd n9)).trans (same_upd m9)).trans (same_upd m10)).trans (same_upd (o := .tup [.str "NothingLeft", .bl (decide (i = 10))]) n10)) _ _ (upd_same (a := t3))
    have e4 := ((((((((((((((same_upd m3).trans (same_upd m4)).trans (same_upd n5)).trans (same_upd n6)).trans (same_upd m5)).trans (same_upd m6)).trans (same_upd n7)).trans (same_upd n8)).trans (same_upd m7)).trans (same_upd m8)).trans (same_upd n9)).trans (same_upd m9)).trans (same_upd m10)).trans (same_upd (o := .tup [.str "NothingLeft", .bl (decide (i = 10))]) n10)) _ _ (upd_same (a := t4))
    have e5 := (((((((((((same_upd n6).trans (same_upd m5)).trans (same_upd m6)).trans (same_upd n7)).trans (same_upd n8)).trans (same_upd m7)).trans (same_upd m8)).trans (same_upd n9)).trans (same_upd m9)).trans (same_upd m10)).trans (same_upd (o := .tup [.str "NothingLeft", .bl (decide (i = 10))]) n10)) _ _ (upd_same (a := t5))
    have e6 := ((((((((((same_upd m5).trans (same_upd m6)).trans (same_upd n7)).trans (same_upd n8)).trans (same_upd m7)).trans (same_upd m8)).trans (same_upd n9)).trans (same_upd m9)).trans (same_upd m10)).trans (same_upd (o := .tup [.str "NothingLeft", .bl (decide (i = 10))]) n10)) _ _ (upd_same (a := t6))
    have e7 := (((((((same_upd n8).trans (same_upd m7)).trans (same_upd m8)).trans (same_upd n9)).trans (same_upd m9)).trans (same_upd m10)).trans (same_upd (o := .tup [.str "NothingLeft", .bl (decide (i = 10))]) n10)) _ _ (upd_same (a := t7))
    have e8 := ((((((same_upd m7).trans (same_upd m8)).trans (same_upd n9)).trans (same_upd m9)).trans (same_upd m10)).trans (same_upd (o := .tup [.str "NothingLeft", .bl (decide (i = 10))]) n10)) _ _ (upd_same (a := t8))
    have e9 := (((same_upd m9).trans (same_upd m10)).trans (same_upd (o := .tup [.str "NothingLeft", .bl (decide (i = 10))]) n10)) _ _ (upd_same (a := t9))
    have ew := (same_upd (o := .tup [.str "NothingLeft", .bl (decide (i = 10))]) n10) _ _ (upd_same (a := w10))
    have sx := ((((((((((((((((((((((same_upd n0).trans (same_upd n1)).trans (same_upd m0)).trans (same_upd n2)).trans (same_upd m1)).trans (same_upd m2)).trans (same_upd n3)).trans (same_upd n4)).trans (same_upd m3)).trans (same_upd m4)).trans (same_upd n5)).trans (same_upd n6)).trans (same_upd m5)).trans (same_upd m6)).trans (same_upd n7)).trans (same_upd n8)).trans (same_upd m7)).trans (same_upd m8)).trans (same_upd n9)).trans (same_upd m9)).trans (same_upd m10)).trans (same_upd (o := .tup [.str "NothingLeft", .bl (decide (i = 10))]) n10))
    have nw := ((((((((((((((((((((same_upd n0).trans (same_upd n1)).trans (same_upd m0)).trans (same_upd n2)).trans (same_upd m1)).trans (same_upd m2)).trans (same_upd n3)).trans (same_upd n4)).trans (same_upd m3)).trans (same_upd m4)).trans (same_upd n5)).trans (same_upd n6)).trans (same_upd m5)).trans (same_upd m6)).trans (same_upd n7)).trans (same_upd n8)).trans (same_upd m7)).trans (same_upd m8)).trans (same_upd n9)).trans (same_upd m9)).free m10
    have sf := same_fresh (o := .lst (([.ref t0, .ref t1, .ref t2, .ref t3, .ref t4, .ref t5, .ref t6, .ref t7, .ref t8, .ref t9] : List V) ++ [.ref t10])) sx nw
    refine kin_rd KO upd_same rfl ?_ fun p H3 s3 e => ?_
    · intro k x hk
      have no : ∀ {t : Addr} {xs ys : List V} {Hx : Hp}, Hx t = some (.tup xs) → Hx w10 = some (.lst ys) → t ≠ w10 := fun h1 h2 => ne_of h1 h2 (fun z => nomatch z)
      match k, hk with
      | 0, hk => exact ⟨t0, (Option.some.inj hk).symm, by rw [upd_ne (no e0 ew)]; exact e0⟩
      | 1, hk => exact ⟨t1, (Option.some.inj hk).symm, by rw [upd_ne (no e1 ew)]; exact e1⟩
      | 2, hk => exact ⟨t2, (Option.some.inj hk).symm, by rw [upd_ne (no e2 ew)]; exact e2⟩
      | 3, hk => exact ⟨t3, (Option.some.inj hk).symm, by rw [upd_ne (no e3 ew)]; exact e3⟩
      | 4, hk => exact ⟨t4, (Option.some.inj hk).symm, by rw [upd_ne (no e4 ew)]; exact e4⟩
      | 5, hk => exact ⟨t5, (Option.some.inj hk).symm, by rw [upd_ne (no e5 ew)]; exact e5⟩
      | 6, hk => exact ⟨t6, (Option.some.inj hk).symm, by rw [upd_ne (no e6 ew)]; exact e6⟩
      | 7, hk => exact ⟨t7, (Option.some.inj hk).symm, by rw [upd_ne (no e7 ew)]; exact e7⟩
      | 8, hk => exact ⟨t8, (Option.some.inj hk).symm, by rw [upd_ne (no e8 ew)]; exact e8⟩
      | 9, hk => exact ⟨t9, (Option.some.inj hk).symm, by rw [upd_ne (no e9 ew)]; exact e9⟩
      | 10, hk => exact ⟨t10, (Option.some.inj hk).symm, by rw [upd_ne (no (upd_same (a := t10)) ew)]; exact upd_same⟩
      | k + 11, hk => exact nomatch hk
    · exact ⟨_, rfl, q p H3 (sf.trans s3) e⟩
set_option maxHeartbeats 4000000 in
theorem ok_l_law {P : Program} {w : World} {K : PySem.W.Frag} {mg : Str → Option Value} {base : Heap} {f : Addr} {fd : FuncData} (F : Fun K "law" "law" s_l_law f fd) {c0 P0 : Addr} (TB : LamX.TabB base mg c0 P0) (hcode : fd.code = .ref c0) (D_l_bags : Def P w K mg base "_law_bags" 3 ["script", "limit"] (sp_l_bags K)) (D_l_kinds : Def P w K mg base "_law_kinds" 2 ["bag", "far"] (sp_l_kinds K)) (D_l_had : Def P w K mg base "_law_had" 4 ["bag", "kinds", "far"] (sp_l_had K)) (D_l_spoilt : Def P w K mg base "_law_spoilt" 7 ["thing", "picks"] (sp_l_spoilt K 5)) (D_l_odd : Def P w K mg base "_law_odd" 1 ["picks"] (sp_l_odd K)) (D_p_are_cards : Def P w K mg base "are_cards" 2 ["thing"] (sp_p_are_cards K)) (D_l_are_cards : Def P w K mg base "_law_are_cards" 2 ["thing"] (sp_l_are_cards K)) (D_p_is_purse : DefX P w K mg base "is_purse" 4 ["cards", "thing"] (sp_p_is_purse mg K)) (D_l_is_purse : Def P w K mg base "_law_is_purse" 2 ["kinds", "thing"] (sp_l_is_purse K)) (D_l_refused : Def P w K mg base "_law_refused" 13 ["call", "one", "two", "three"] (sp_l_refused P w K mg base)) (b_list : mg "list" = none) (b_repr : mg "repr" = none) {C : Nat → Addr} {tf rd : Addr} (KT : Kin K mg C tf rd) (KO : KinOf K C tf rd 0) :
    FnOk P w K mg base CX0 14 f fd ["script"] (sp_l_law K P0) := by
  refine okC F sc_l_law (fun vs H Q E h => ?_) (fun A outer s H vs Q E hr h => ?_)
  · obtain ⟨a, ns, rfl, hS, h63, tb, q⟩ := h
    rfl
  obtain ⟨a, ns, rfl, hS, h63, tb, q⟩ := h
  refine ⟨_, (pss_cons (ps_for PassesOwn.never rfl (pi_list (pe_def D_l_bags hr (pa_cons (pv 0) (pa_cons pe_int pa_nil)))) (pg_name (i := 1) sc_l_law.nd rfl (Or.inl rfl)) (pss_cons (ps_set (i := 2) sc_l_law.nd rfl (Or.inl rfl) (pe_def D_l_kinds hr (pa_cons (pv 1) (pa_cons pe_int pa_nil))))
        (pss_cons (ps_set (i := 3) sc_l_law.nd rfl (Or.inl rfl) (pe_def D_l_had hr (pa_cons (pv 1) (pa_cons (pv 2) (pa_cons (pe_op op_pow pe_int pe_int) pa_nil)))))
        (pss_cons (ps_par (i := 4) (j := 5) rfl sc_l_law.nd rfl rfl (by decide) rfl rfl (pa_cons (pe_def D_l_spoilt hr (pa_cons (pv 2) (pa_cons (pe_slice sl_list (pe_ix ix_list (pv 1) pe_int (fun _ _ => rfl)) (po_some (pe_op op_mod (pe_ix ix_list (pv 1) pe_int (fun _ _ => rfl)) pe_int)) po_none) pa_nil))) (pa_cons (pe_def D_l_spoilt hr (pa_cons (pv 3) (pa_cons (pe_slice sl_list (pe_ix ix_list (pv 1) pe_int (fun _ _ => rfl)) (po_some (pe_op op_add (pe_op op_mod (pe_ix ix_list (pv 1) pe_int (fun _ _ => rfl)) pe_int) pe_int)) po_none) pa_nil))) pa_nil)) (by rfl))
        (pss_cons (ps_set (i := 6) sc_l_law.nd rfl (Or.inl rfl) (pe_lst (pa_cons (pv 2) (pa_cons (pv 3) (pa_cons (pv 4) (pa_cons (pv 5) pa_nil))))))
        (pss_cons (ps_set (i := 6) sc_l_law.nd rfl (Or.inl rfl) (pe_op op_cat (pv 6) (pe_lst (pa_cons (pe_def D_l_spoilt hr (pa_cons (pv 5) (pa_cons (pe_slice sl_list (pe_ix ix_list (pv 1) pe_int (fun _ _ => rfl)) (po_some (pe_op op_add (pe_op op_mod (pe_ix ix_list (pv 1) pe_int (fun _ _ => rfl)) pe_int) pe_int)) po_none) pa_nil))) (pa_cons (pe_callTy call_list_of (by rfl) b_list PyProof.Rows.boot_list (pa_cons (pv 2) pa_nil)) (pa_cons (pe_callTy call_list_of (by rfl) b_list PyProof.Rows.boot_list (pa_cons (pv 3) pa_nil)) (pa_cons (pe_ix ix_tup (pv 3) pe_int (fun _ _ => rfl)) pa_nil)))))))
        (pss_cons (ps_for PassesOwn.never rfl (pi_tup (pe_tup (pa_cons pe_int (pa_cons pe_int (pa_cons pe_int (pa_cons pe_int (pa_cons pe_int (pa_cons (pe_un un_neg pe_int) (pa_cons pe_bl (pa_cons pe_non (pa_cons (pe_op op_pow pe_int pe_int) (pa_cons (pe_op op_add (pe_op op_pow pe_int pe_int) pe_int) pa_nil)))))))))))) (pg_name (i := 7) sc_l_law.nd rfl (Or.inl rfl)) (pss_cons (ps_set (i := 6) sc_l_law.nd rfl (Or.inl rfl) (pe_op op_cat (pv 6) (pe_lst (pa_cons (pe_tup (pa_cons (pv 7) pa_nil)) (pa_cons (pe_op op_catA (pe_slice sl_tupA (pv 2) (po_some pe_int) po_none) (pe_tup (pa_cons (pv 7) pa_nil))) pa_nil)))))
        (pss_one (ps_set (i := 6) sc_l_law.nd rfl (Or.inl rfl) (pe_op op_cat (pv 6) (pe_lst (pa_cons (pe_tup (pa_cons (pv 7) (pa_cons (pe_ix ix_tup (pv 3) pe_int (fun _ _ => rfl)) pa_nil))) (pa_cons (pe_tup (pa_cons (pe_ix ix_tup (pv 3) pe_int (fun _ _ => rfl)) (pa_cons (pe_op op_catA (pe_slice sl_tupA (pe_ix ix_tup (pv 3) pe_int (fun _ _ => rfl)) (po_some pe_int) po_none) (pe_tup (pa_cons (pv 7) pa_nil))) pa_nil))) pa_nil))))))))
        (pss_cons (ps_set (i := 6) sc_l_law.nd rfl (Or.inl rfl) (pe_op op_cat (pv 6) (pe_lst (pa_cons (pe_op op_catA (pv 2) (pv 2)) (pa_cons (pe_op op_repT (pe_tup (pa_cons pe_int pa_nil)) pe_int) (pa_cons (pe_op op_repT (pe_tup (pa_cons pe_int pa_nil)) pe_int) pa_nil))))))
        (pss_cons (ps_set (i := 6) sc_l_law.nd rfl (Or.inl rfl) (pe_op op_cat (pv 6) (pe_lst (pa_cons (pe_tup (pa_cons (pe_ix ix_tup (pv 3) pe_int (fun _ _ => rfl)) (pa_cons (pe_op op_catA (pe_ix ix_tup (pv 3) pe_int (fun _ _ => rfl)) (pe_tup (pa_cons pe_int pa_nil))) pa_nil))) (pa_cons (pe_tup (pa_cons (pe_ix ix_tup (pv 3) pe_int (fun _ _ => rfl)) (pa_cons (pe_slice sl_tupA (pe_ix ix_tup (pv 3) pe_int (fun _ _ => rfl)) (po_some pe_int) po_none) pa_nil))) (pa_cons (pe_tup (pa_cons (pe_ix ix_tup (pv 3) pe_int (fun _ _ => rfl)) (pa_cons (pe_callTy call_list_of (by rfl) b_list PyProof.Rows.boot_list (pa_cons (pe_ix ix_tup (pv 3) pe_int (fun _ _ => rfl)) pa_nil)) pa_nil))) pa_nil))))))
        (pss_one (ps_for PassesOwn.never rfl (pi_list (pe_op op_cat (pv 6) (pe_lst (pa_cons (pe_tup pa_nil) (pa_cons (pe_def D_l_odd hr (pa_cons (pe_slice sl_list (pe_ix ix_list (pv 1) pe_int (fun _ _ => rfl)) (po_some (pe_op op_mod (pe_ix ix_list (pv 1) pe_int (fun _ _ => rfl)) pe_int)) po_none) pa_nil)) (pa_cons (pe_def D_l_odd hr (pa_cons (pe_slice sl_list (pe_ix ix_list (pv 1) pe_int (fun _ _ => rfl)) (po_some (pe_op op_add (pe_op op_mod (pe_ix ix_list (pv 1) pe_int (fun _ _ => rfl)) pe_int) pe_int)) po_none) pa_nil)) pa_nil)))))) (pg_name (i := 8) sc_l_law.nd rfl (Or.inl rfl)) (pss_cons (ps_if (pt_cmpR op_ne (pe_callB call_repr_bl (by rfl) b_repr PyProof.Rows.boot_repr (pa_cons (pe_def D_p_are_cards hr (pa_cons (pv 8) pa_nil)) pa_nil)) (pe_callB call_repr_bl (by rfl) b_repr PyProof.Rows.boot_repr (pa_cons (pe_def D_l_are_cards hr (pa_cons (pv 8) pa_nil)) pa_nil)) (nomark _)) (pss_one (ps_ret pe_bl)) pss_nil)
        (pss_cons (ps_if (pt_cmpR op_ne (pe_callB call_repr_bl (by rfl) b_repr PyProof.Rows.boot_repr (pa_cons (pe_defX0 D_p_is_purse hr (pa_cons (pv 2) (pa_cons (pv 8) pa_nil))) pa_nil)) (pe_callB call_repr_bl (by rfl) b_repr PyProof.Rows.boot_repr (pa_cons (pe_def D_l_is_purse hr (pa_cons (pv 2) (pa_cons (pv 8) pa_nil))) pa_nil)) (nomark _)) (pss_one (ps_ret pe_bl)) pss_nil)
        (pss_cons (ps_set (i := 9) sc_l_law.nd rfl (Or.inl rfl) (pe_def D_l_refused hr (pa_cons (pe_lamV (T := T_l_law P0) TB hcode (List.mem_singleton.mpr rfl) (fun p hp _ => by rw [List.mem_singleton.mp hp]; rfl) rfl (by decide +kernel)) (pa_cons (pv 8) (pa_cons (pv 3) (pa_cons pe_int pa_nil))))))
        (pss_one (ps_if (pt_cmpR (op_neD hr.units) (pv 9) (pe_ifExp (pt_val (pe_def D_l_are_cards hr (pa_cons (pv 8) pa_nil))) (pe_lst pa_nil) (pe_lst (pa_cons pe_str (pa_cons pe_bl pa_nil)))) (nomark _)) (pss_one (ps_ret pe_bl)) pss_nil))))))))))))))))
        (pss_one (ps_ret pe_bl))), ?_⟩
  refine ⟨_, rfl, a, ns, 10, rfl, hS, h63, by omega, by omega, fun p bs H1 k1 np ep hl hb => ?_⟩
  refine ⟨p, rfl, ⟨_, SqL.of ep⟩, ?_⟩
  refine for_list (K := K) (a := p) (xs := bs.map V.ref) (fun i σ H' => ∃ y1 y2 y3 y4 y5 y6 y7 y8 y9, σ = [some (.ref a), y1, y2, y3, y4, y5, y6, y7, y8, y9] ∧ Kq H1 H' ∧ LamX.Tabs (T_l_law P0) H') ?_ ?_ ?_ ?_
  · exact ⟨_, _, _, _, _, _, _, _, _, rfl, .of (.refl H1), k1.tabs tb⟩
  · rintro i σ H' hi ⟨y1, y2, y3, y4, y5, y6, y7, y8, y9, rfl, kk, _⟩
    exact SqL.of (kk.keep _ _ ep nrefs ntbl_lst)
  · rintro i x σ Hb hx ⟨y1, y2, y3, y4, y5, y6, y7, y8, y9, rfl, kk, tb0⟩
    obtain ⟨b, hbm, rfl⟩ := get_ref hx
    have hB0 : Bag Hb b := kk.bags (hb b hbm)
    -- kinds, had
    refine ⟨_, rfl, b, 20, rfl, hB0, by omega, fun kA cs H3 k3 e3 c1 c3 hc => ?_⟩
    have hK : Cards cs := ⟨c1, c3, hc⟩
    refine ⟨_, rfl, _, rfl, 10, 18, rfl, rfl, ⟨by decide, by decide, by decide⟩, b, kA, cs, _, rfl, k3.bags hB0, SqT.of e3, c3, by decide, fun pA sA r ss H5 k5 e5 e5' r0 rv hsl hss => ?_⟩
    have hC5 : SqT K H5 kA (cs.map V.int) := k5.tup (SqT.of e3)
    have hP5 : SqT K H5 pA [.int r, .ref sA] := SqT.of e5
    have hs5 : SqT K H5 sA (ss.map V.int) := SqT.of e5'
    have kt5 := kk.trans (.of (k3.trans k5))
    have tb5 := (k3.trans k5).tabs tb0
    obtain ⟨dA, c, ds, eb, ed, dl, _⟩ := (k3.trans k5).bags hB0
    clear e5 e5' k5 e3 k3 hB0 tb0
    have hCd : Dp K H5 (.ref kA) (.tuple (cs.map PyData.int)) := .tup hC5 (dp_ints cs)
    have hPd : Dp K H5 (.ref pA) (.tuple [.int r, .tuple (ss.map PyData.int)]) := .tup hP5 (.cons (.int r) (.cons (.tup hs5 (dp_ints ss)) .nil))
    have hss3 : ss.length ≤ 4 := by omega
    have md : ∀ (k : Int), 0 < k → k ≤ 300 → ∀ (j : Int), 0 ≤ j → j ≤ 50 → 0 ≤ c % k + j ∧ 5 ≤ (ds.drop (c % k + j).toNat).length := fun k k0 k3 j j0 j5 => by
      have z1 := Int.emod_nonneg c (show k ≠ 0 by omega)
      have z2 := Int.emod_lt_of_pos c k0
      rw [List.length_drop]
      omega
    have md0 : ∀ (k : Int), 0 < k → k ≤ 300 → 0 ≤ c % k ∧ 5 ≤ (ds.drop (c % k).toNat).length := fun k k0 k3 => by
      have := md k k0 k3 0 (by omega) (by omega)
      rw [Int.add_zero] at this
      exact this
    -- once, bent
    have z200 := md0 200 (by decide) (by decide)
    refine ⟨_, rfl, _, rfl, b, _, _, _, rfl, rfl, SqL.of eb, atI_nat (j := 0) rfl, _, rfl, b, _, _, _, rfl, rfl, SqL.of eb, atI_nat (j := 1) rfl, _, _, rfl, rfl, p0, _, rfl, dA, _, rfl, SqL.of ed, fun q1 m1 => ?_⟩
    have s1 := same_upd (o := .lst (cutV (ds.map V.int) (some (c % 200)) none)) m1
    refine ⟨.ref kA, _, q1, _, 4, fun _ => false, 1, by decide, rfl, no_hid, hid_in (Same.dp s1 hCd), sz_ints (by omega), by decide, by decide, SqL.of (cut_at z200.1), z200.2, fun v1 d1 H6 s6 g1 g1' => ?_⟩
    have t6 := s1.trans s6
    have z150 := md 150 (by decide) (by decide) 20 (by decide) (by decide)
    refine ⟨_, rfl, _, rfl, b, _, _, _, rfl, rfl, SqL.of (t6 _ _ eb), atI_nat (j := 0) rfl, _, rfl, b, _, _, _, rfl, rfl, SqL.of (t6 _ _ eb), atI_nat (j := 1) rfl, _, _, rfl, rfl, p0, _, _, rfl, rfl, _, rfl, dA, _, rfl, SqL.of (t6 _ _ ed), fun q2 m2 => ?_⟩
    have s7 := t6.trans (same_upd (o := .lst (cutV (ds.map V.int) (some (c % 150 + 20)) none)) m2)
    refine ⟨.ref pA, _, q2, _, 4, fun _ => false, 2, by decide, rfl, no_hid, hid_in (Same.dp s7 hPd), sz_purse hss3 (by decide), by decide, by decide, SqL.of (cut_at z150.1), z150.2, fun v2 d2 H8 s8 g2 g2' => ?_⟩
    have t8 := s7.trans s8
    have hv1 := Same.dp ((same_upd (o := .lst (cutV (ds.map V.int) (some (c % 150 + 20)) none)) m2).trans s8) (hid_out g1)
    have hv2 := hid_out g2
    clear g1 g2 s8 m2 s6 m1 s1 t6 s7 g1'
    -- things
    refine ⟨_, _, rfl, _, rfl, _, rfl, _, rfl, _, rfl, (by show 4 ≤ sizeLine; decide), fun tA nA => ?_⟩
    have sTA := same_upd (o := .lst [.ref kA, .ref pA, v1, v2]) nA
    have z170 := md 170 (by decide) (by decide) 10 (by decide) (by decide)
    have t9 := t8.trans sTA
    refine ⟨_, rfl, _, rfl, _, rfl, b, _, _, _, rfl, rfl, SqL.of (t9 _ _ eb), atI_nat (j := 0) rfl, _, rfl, b, _, _, _, rfl, rfl, SqL.of (t9 _ _ eb), atI_nat (j := 1) rfl, _, _, rfl, rfl, p0, _, _, rfl, rfl, _, rfl, dA, _, rfl, SqL.of (t9 _ _ ed), fun q3 m3 => ?_⟩
    have sq3 := same_upd (o := .lst (cutV (ds.map V.int) (some (c % 170 + 10)) none)) m3
    refine ⟨v2, d2, q3, _, 5, fun _ => false, 4, by decide, rfl, no_hid, hid_in (Same.dp (sTA.trans sq3) hv2), g2', by decide, by decide, SqL.of (cut_at z170.1), z170.2, fun v3 d3 H10 s10 g3 g3' => ?_⟩
    have t10 := t9.trans (sq3.trans s10)
    refine ⟨_, rfl, kA, _, rfl, .inr (Same.seqT t10 hC5), fun l1 n1 => ?_⟩
    have u1 := same_upd (o := .lst (cs.map V.int)) n1
    refine ⟨_, rfl, pA, _, rfl, .inr (Same.seqT (t10.trans u1) hP5), fun l2 n2 => ?_⟩
    have u2 := same_upd (o := .lst [.int r, .ref sA]) n2
    refine ⟨_, rfl, pA, _, _, _, rfl, rfl, Same.seqT (t10.trans (u1.trans u2)) hP5, atI_nat (j := 1) rfl, (by show 4 ≤ sizeLine; decide), fun l3 n3 => ?_⟩
    have u3 := same_upd (o := .lst [v3, .ref l1, .ref l2, .ref sA]) n3
    have uA := ((sq3.trans s10).trans (u1.trans (u2.trans u3))) _ _ (upd_same (H := H8) (a := tA) (o := .lst [.ref kA, .ref pA, v1, v2]))
    refine ⟨tA, l3, _, _, rfl, rfl, uA, upd_same, (by show 8 ≤ sizeLine; decide), fun tB nB => ?_⟩
    have u4 := same_upd (o := .lst (([.ref kA, .ref pA, v1, v2] : List V) ++ [v3, .ref l1, .ref l2, .ref sA])) nB
    have u14 := u1.trans (u2.trans (u3.trans u4))
    have tB5 := t10.trans u14
    have hdB := HD.app (HD.cons (Same.dp tB5 hCd) (.cons (Same.dp tB5 hPd) (.cons (Same.dp (sTA.trans ((sq3.trans s10).trans u14)) hv1) (.cons (Same.dp (sTA.trans ((sq3.trans s10).trans u14)) hv2) .nil)))) (.cons (Same.dp u14 (hid_out g3)) (.cons (.lst (SqL.of ((u2.trans (u3.trans u4)) _ _ upd_same)) (dp_ints cs)) (.cons (.lst (SqL.of ((u3.trans u4) _ _ upd_same)) (.cons (.int r) (.cons (.tup (Same.seqT tB5 hs5) (dp_ints ss)) .nil))) (.cons (.tup (Same.seqT tB5 hs5) (dp_ints ss)) .nil))))
    have eB := upd_at (o := .lst (([.ref kA, .ref pA, v1, v2] : List V) ++ [v3, .ref l1, .ref l2, .ref sA])) nB
    -- numbers
    refine ⟨_, rfl, 10, 18, rfl, rfl, ⟨by decide, by decide, by decide⟩, 10, 18, rfl, rfl, ⟨by decide, by decide, by decide⟩, _, _, rfl, rfl, (by show 10 ≤ sizeLine; decide), fun nu nn => ?_⟩
    have un := same_upd (o := .tup nums) nn
    refine ⟨nu, rfl, ⟨_, SqT.of upd_same⟩, ?_⟩
    refine for_tup (K := K) (a := nu) (xs := nums) (fun i σ H' => ∃ (tT : Addr) (xs : List V) (z7 : Option V), σ = [some (.ref a), some (.ref b), some (.ref kA), some (.ref pA), some v1, some v2, some (.ref tT), z7, y8, y9] ∧ Same H5 H' ∧ H' nu = some (.tup nums) ∧ H' tT = some (.lst xs) ∧ HD K H' xs ∧ xs.length = 8 + 4 * i) ?_ ?_ ?_ ?_
    · exact ⟨tB, _, _, rfl, tB5.trans un, upd_same, un _ _ eB, hdB.same un, rfl⟩
    · rintro i σ H' hi ⟨tT, xs, z7, rfl, _, en, _⟩
      exact SqT.of en
    · rintro i x σ H' hi ⟨tT, xs, z7, rfl, sm, en, eT, hT, hTl⟩
      obtain ⟨dx, hdx⟩ := num_dp (K := K) (List.mem_of_getElem? hi)
      have hi' : i < 10 := (List.getElem?_eq_some_iff.mp hi).1
      have sz : ∀ {k : Nat}, k ≤ 60 → k ≤ sizeLine := fun h => Nat.le_of_lt (small1000 (by omega))
      -- (number,), kinds[1:] + (number,)
      refine ⟨_, rfl, _, rfl, (by show 1 ≤ sizeLine; decide), fun t1 n1 => ⟨_, rfl, _, rfl, ?_⟩⟩
      have w1 := same_upd (o := .tup [x]) n1
      refine rd_slFrom (Same.seqT (sm.trans w1) hC5) fun b1 H2 w2 e2 => ?_
      refine ⟨_, rfl, (by show 1 ≤ sizeLine; decide), fun t2 n2 => ?_⟩
      have w3 := same_upd (o := .tup [x]) n2
      rw [cut_from (by decide)] at e2
      refine rd_catA (Same.seqT w3 e2) (SqT.of upd_same) ?_ fun p3 H3 w4 e3 => ?_
      · rw [List.length_map, List.length_drop]
        show _ + 1 ≤ 1000
        omega
      have w14 := w1.trans (w2.trans (w3.trans w4))
      refine ⟨(by show 2 ≤ sizeLine; decide), fun L nL => ?_⟩
      have w5 := same_upd (o := .lst [.ref t1, .ref p3]) nL
      refine ⟨tT, L, _, _, rfl, rfl, (w14.trans w5) _ _ eT, upd_same, sz ?_, fun tU nU => ?_⟩
      · show xs.length + 2 ≤ 60
        omega
      have w6 := same_upd (o := .lst (xs ++ [.ref t1, .ref p3])) nU
      have x1 := (w2.trans (w3.trans (w4.trans (w5.trans w6)))) _ _ (upd_same (H := H') (a := t1) (o := .tup [x]))
      have w16 := w14.trans (w5.trans w6)
      have hU := (hT.same w16).app (HD.cons (.tup (SqT.of x1) (.cons (hdx _) .nil)) (HD.cons (.tup (Same.seqT (w5.trans w6) e3) (dpa_app (dp_ints _) (.cons (hdx _) .nil))) .nil))
      have eU := upd_at (o := .lst (xs ++ [.ref t1, .ref p3])) nU
      have smU := sm.trans w16
      have enU := w16 _ _ en
      have hUl : (xs ++ [V.ref t1, V.ref p3]).length = xs.length + 2 := by
        rw [List.length_append]
        rfl
      generalize hHU : upd (upd H3 L (.lst [.ref t1, .ref p3])) tU (.lst (xs ++ [.ref t1, .ref p3])) = HU at hU eU smU enU
      generalize xs ++ [V.ref t1, V.ref p3] = xu at hU eU hUl
      clear hHU x1 w16 w6 w5 w14 w4 e3 e2 w3 w2 w1
      -- (number, had[1]), (had[0], had[1][1:] + (number,))
      refine ⟨_, rfl, _, rfl, _, rfl, pA, _, _, _, rfl, rfl, Same.seqT smU hP5, atI_nat (j := 1) rfl, (by show 2 ≤ sizeLine; decide), fun t3 n3 => ?_⟩
      have w1 := same_upd (o := .tup [x, .ref sA]) n3
      refine ⟨_, rfl, pA, _, _, _, rfl, rfl, Same.seqT (smU.trans w1) hP5, atI_nat (j := 0) rfl, _, rfl, pA, _, _, _, rfl, rfl, Same.seqT (smU.trans w1) hP5, atI_nat (j := 1) rfl, _, rfl, ?_⟩
      refine rd_slFrom (Same.seqT (smU.trans w1) hs5) fun b1 H2 w2 e2 => ?_
      refine ⟨_, rfl, (by show 1 ≤ sizeLine; decide), fun t4 n4 => ?_⟩
      have w3 := same_upd (o := .tup [x]) n4
      rw [cut_from (by decide)] at e2
      refine rd_catA (Same.seqT w3 e2) (SqT.of upd_same) ?_ fun p5 H3 w4 e3 => ?_
      · rw [List.length_map, List.length_drop]
        show _ + 1 ≤ 1000
        omega
      refine ⟨(by show 2 ≤ sizeLine; decide), fun t5 n5 => ?_⟩
      have w5 := same_upd (o := .tup [.int r, .ref p5]) n5
      refine ⟨(by show 2 ≤ sizeLine; decide), fun L2 nL2 => ?_⟩
      have w6 := same_upd (o := .lst [.ref t3, .ref t5]) nL2
      have w16 := w1.trans (w2.trans (w3.trans (w4.trans (w5.trans w6))))
      refine ⟨tU, L2, _, _, rfl, rfl, w16 _ _ eU, upd_same, sz ?_, fun tV nV => ?_⟩
      · show xu.length + 2 ≤ 60
        omega
      have w7 := same_upd (o := .lst (xu ++ [.ref t3, .ref t5])) nV
      have w17 := w16.trans w7
      have x3 := (w2.trans (w3.trans (w4.trans (w5.trans (w6.trans w7))))) _ _ (upd_same (H := HU) (a := t3) (o := .tup [x, .ref sA]))
      have x5 := (w6.trans w7) _ _ (upd_same (H := H3) (a := t5) (o := .tup [.int r, .ref p5]))
      have smV := smU.trans w17
      refine ⟨tV, _, _, rfl, smV, w17 _ _ enU, upd_same, (hU.same w17).app (HD.cons (.tup (SqT.of x3) (.cons (hdx _) (.cons (.tup (Same.seqT smV hs5) (dp_ints ss)) .nil))) (HD.cons (.tup (SqT.of x5) (.cons (.int r) (.cons (.tup (Same.seqT (w5.trans (w6.trans w7)) e3) (dpa_app (dp_ints _) (.cons (hdx _) .nil))) .nil))) .nil)), ?_⟩
      rw [List.length_append, hUl, hTl]
      show 8 + 4 * i + 2 + 2 = 8 + 4 * (i + 1)
      omega
    · rintro σ H6 ⟨tT, xs, z7, rfl, sm, _, eT, hT, hTl⟩
      have hTl : xs.length = 48 := hTl
      have sz : ∀ {k : Nat}, k ≤ 60 → k ≤ sizeLine := fun h => Nat.le_of_lt (small1000 (by omega))
      clear hv1 hv2 g2' hdB eB tB5 u14 u4 uA u3 u2 u1 t10 g3 g3' s10 sq3 t9 sTA un t8
      -- kinds + kinds, (2,) * 3, (2,) * 4
      refine ⟨_, rfl, _, rfl, _, rfl, ?_⟩
      refine rd_catA (Same.seqT sm hC5) (Same.seqT sm hC5) (by rw [List.length_map]; omega) fun p1 H7 w1 e1 => ?_
      refine ⟨(by show 1 ≤ sizeLine; decide), fun t2 n2 => ?_⟩
      have w2 := same_upd (o := .tup [.int 2]) n2
      refine ⟨t2, 3, _, rfl, rfl, SqT.of upd_same, (fun z => nomatch z), by decide, by decide, (by show 1 ≤ 1000; decide), fun p2 m2 => ?_⟩
      have w3 := same_upd (o := .tup (([2, 2, 2] : List Int).map V.int)) m2
      refine ⟨(by show 1 ≤ sizeLine; decide), fun t3 n3 => ?_⟩
      have w4 := same_upd (o := .tup [.int 2]) n3
      refine ⟨t3, 4, _, rfl, rfl, SqT.of upd_same, (fun z => nomatch z), by decide, by decide, (by show 1 ≤ 1000; decide), fun p3 m3 => ?_⟩
      have w5 := same_upd (o := .tup (([2, 2, 2, 2] : List Int).map V.int)) m3
      refine ⟨(by show 3 ≤ sizeLine; decide), fun L nL => ?_⟩
      have w6 := same_upd (o := .lst [.ref p1, .ref p2, .ref p3]) nL
      have w16 := w1.trans (w2.trans (w3.trans (w4.trans (w5.trans w6))))
      refine ⟨tT, L, _, _, rfl, rfl, w16 _ _ eT, upd_same, sz ?_, fun tU nU => ?_⟩
      · show xs.length + 3 ≤ 60
        omega
      have w7 := same_upd (o := .lst (xs ++ [.ref p1, .ref p2, .ref p3])) nU
      have w17 := w16.trans w7
      have hU := (hT.same w17).app (HD.cons (.tup (Same.seqT (w2.trans (w3.trans (w4.trans (w5.trans (w6.trans w7))))) e1) (dpa_app (dp_ints cs) (dp_ints cs))) (HD.cons (.tup (SqT.of ((w4.trans (w5.trans (w6.trans w7))) _ _ (upd_at (o := .tup (([2, 2, 2] : List Int).map V.int)) m2))) (dp_ints [2, 2, 2])) (HD.cons (.tup (SqT.of ((w6.trans w7) _ _ (upd_at (o := .tup (([2, 2, 2, 2] : List Int).map V.int)) m3))) (dp_ints [2, 2, 2, 2])) .nil)))
      have eU := upd_at (o := .lst (xs ++ [.ref p1, .ref p2, .ref p3])) nU
      have smU := sm.trans w17
      have hUl : (xs ++ [V.ref p1, V.ref p2, V.ref p3]).length = 51 := by
        rw [List.length_append, hTl]
        rfl
      generalize hHU : upd (upd _ L (.lst [.ref p1, .ref p2, .ref p3])) tU (.lst (xs ++ [.ref p1, .ref p2, .ref p3])) = HU at hU eU smU ⊢
      generalize xs ++ [V.ref p1, V.ref p2, V.ref p3] = xu at hU eU hUl
      clear hHU w17 w7 w16 w6 w5 w4 w3 w2 e1 w1 hT eT sm
      -- had with other stamps
      refine ⟨_, rfl, _, rfl, pA, _, _, _, rfl, rfl, Same.seqT smU hP5, atI_nat (j := 0) rfl, _, rfl, pA, _, _, _, rfl, rfl, Same.seqT smU hP5, atI_nat (j := 1) rfl, (by show 1 ≤ sizeLine; decide), fun t1 n1 => ?_⟩
      have w1 := same_upd (o := .tup [.int 0]) n1
      refine rd_catA (Same.seqT (smU.trans w1) hs5) (SqT.of upd_same) ?_ fun q1 H7 w2 e2 => ?_
      · rw [List.length_map]
        show _ + 1 ≤ 1000
        omega
      refine ⟨(by show 2 ≤ sizeLine; decide), fun t2 n2 => ?_⟩
      have w3 := same_upd (o := .tup [.int r, .ref q1]) n2
      have sm3 := smU.trans (w1.trans (w2.trans w3))
      refine ⟨_, rfl, pA, _, _, _, rfl, rfl, Same.seqT sm3 hP5, atI_nat (j := 0) rfl, _, rfl, pA, _, _, _, rfl, rfl, Same.seqT sm3 hP5, atI_nat (j := 1) rfl, _, rfl, ?_⟩
      refine rd_slFrom (Same.seqT sm3 hs5) fun q2 H8 w4 e4 => ?_
      rw [cut_from (by decide)] at e4
      refine ⟨(by show 2 ≤ sizeLine; decide), fun t3 n3 => ?_⟩
      have w5 := same_upd (o := .tup [.int r, .ref q2]) n3
      have sm5 := sm3.trans (w4.trans w5)
      refine ⟨_, rfl, pA, _, _, _, rfl, rfl, Same.seqT sm5 hP5, atI_nat (j := 0) rfl, _, rfl, pA, _, _, _, rfl, rfl, Same.seqT sm5 hP5, atI_nat (j := 1) rfl, sA, _, rfl, .inr (Same.seqT sm5 hs5), fun q3 m3 => ?_⟩
      have w6 := same_upd (o := .lst (ss.map V.int)) m3
      refine ⟨(by show 2 ≤ sizeLine; decide), fun t4 n4 => ?_⟩
      have w7 := same_upd (o := .tup [.int r, .ref q3]) n4
      refine ⟨(by show 3 ≤ sizeLine; decide), fun L2 nL2 => ?_⟩
      have w8 := same_upd (o := .lst [.ref t2, .ref t3, .ref t4]) nL2
      have w18 := w1.trans (w2.trans (w3.trans (w4.trans (w5.trans (w6.trans (w7.trans w8))))))
      refine ⟨tU, L2, _, _, rfl, rfl, w18 _ _ eU, upd_same, sz ?_, fun tV nV => ?_⟩
      · show xu.length + 3 ≤ 60
        omega
      have w9 := same_upd (o := .lst (xu ++ [.ref t2, .ref t3, .ref t4])) nV
      have v8 := w8.trans w9
      have v7 := w7.trans v8
      have v6 := w6.trans v7
      have v5 := w5.trans v6
      have v3 := w3.trans (w4.trans v5)
      have w19 := w18.trans w9
      have hV := (hU.same w19).app (HD.cons (.tup (SqT.of ((w4.trans v5) _ _ (upd_at (o := .tup [.int r, .ref q1]) n2))) (.cons (.int r) (.cons (.tup (Same.seqT v3 e2) (dpa_app (dp_ints ss) (dp_ints [0]))) .nil))) (HD.cons (.tup (SqT.of (v6 _ _ (upd_at (o := .tup [.int r, .ref q2]) n3))) (.cons (.int r) (.cons (.tup (Same.seqT v5 e4) (dp_ints _)) .nil))) (HD.cons (.tup (SqT.of (v8 _ _ (upd_at (o := .tup [.int r, .ref q3]) n4))) (.cons (.int r) (.cons (.lst (SqL.of (v7 _ _ (upd_at (o := .lst (ss.map V.int)) m3))) (dp_ints ss)) .nil))) .nil)))
      have eV := upd_at (o := .lst (xu ++ [.ref t2, .ref t3, .ref t4])) nV
      have smV := smU.trans w19
      have hVl : (xu ++ [V.ref t2, V.ref t3, V.ref t4]).length = 54 := by
        rw [List.length_append, hUl]
        rfl
      generalize hHV : upd (upd _ L2 (.lst [.ref t2, .ref t3, .ref t4])) tV (.lst (xu ++ [.ref t2, .ref t3, .ref t4])) = HV at hV eV smV ⊢
      generalize xu ++ [V.ref t2, V.ref t3, V.ref t4] = xv at hV eV hVl
      clear hHV w19 v3 v5 v6 v7 v8 w9 w18 w8 w7 w6 sm5 w5 e4 w4 sm3 w3 e2 w2 w1 hU eU smU
      -- the walk over the things
      have z300 := md0 300 (by decide) (by decide)
      have z250 := md 250 (by decide) (by decide) 40 (by decide) (by decide)
      refine ⟨_, rfl, (by show 0 ≤ sizeLine; decide), fun t1 n1 => ?_⟩
      have w1 := same_upd (o := .tup []) n1
      have sm1 := smV.trans w1
      refine ⟨_, rfl, b, _, _, _, rfl, rfl, SqL.of (sm1 _ _ eb), atI_nat (j := 0) rfl, _, rfl, b, _, _, _, rfl, rfl, SqL.of (sm1 _ _ eb), atI_nat (j := 1) rfl, _, _, rfl, rfl, p0, _, rfl, dA, _, rfl, SqL.of (sm1 _ _ ed), fun q1 m1 => ?_⟩
      have w2 := same_upd (o := .lst (cutV (ds.map V.int) (some (c % 300)) none)) m1
      refine ⟨q1, _, rfl, SqL.of (cut_at z300.1), by have := z300.2; omega, fun o1 H7 w3 g1 => ?_⟩
      obtain ⟨d1, g1, _⟩ := g1 (fun _ => false) no_hid
      have sm3 := sm1.trans (w2.trans w3)
      refine ⟨_, rfl, b, _, _, _, rfl, rfl, SqL.of (sm3 _ _ eb), atI_nat (j := 0) rfl, _, rfl, b, _, _, _, rfl, rfl, SqL.of (sm3 _ _ eb), atI_nat (j := 1) rfl, _, _, rfl, rfl, p0, _, _, rfl, rfl, _, rfl, dA, _, rfl, SqL.of (sm3 _ _ ed), fun q2 m2 => ?_⟩
      have w4 := same_upd (o := .lst (cutV (ds.map V.int) (some (c % 250 + 40)) none)) m2
      refine ⟨q2, _, rfl, SqL.of (cut_at z250.1), by have := z250.2; omega, fun o2 H8 w5 g2 => ?_⟩
      obtain ⟨d2, g2, _⟩ := g2 (fun _ => false) no_hid
      refine ⟨(by show 3 ≤ sizeLine; decide), fun L nL => ?_⟩
      have w6 := same_upd (o := .lst [.ref t1, o1, o2]) nL
      have w16 := w1.trans (w2.trans (w3.trans (w4.trans (w5.trans w6))))
      refine ⟨tV, L, _, _, rfl, rfl, w16 _ _ eV, upd_same, sz ?_, fun tW nW => ?_⟩
      · show xv.length + 3 ≤ 60
        omega
      have w7 := same_upd (o := .lst (xv ++ [.ref t1, o1, o2])) nW
      have w17 := w16.trans w7
      have hW := (hV.same w17).app (HD.cons (.tup (SqT.of ((w2.trans (w3.trans (w4.trans (w5.trans (w6.trans w7))))) _ _ (upd_at (o := .tup []) n1))) .nil) (HD.cons (Same.dp (w4.trans (w5.trans (w6.trans w7))) (hid_out g1)) (HD.cons (Same.dp (w6.trans w7) (hid_out g2)) .nil)))
      have smW := smV.trans w17
      refine ⟨tW, rfl, ⟨_, SqL.of upd_same⟩, ?_⟩
      refine for_list (K := K) (a := tW) (xs := xv ++ [.ref t1, o1, o2]) (fun i σ H' => ∃ (z8 z9 : Option V), σ = [some (.ref a), some (.ref b), some (.ref kA), some (.ref pA), some v1, some v2, some (.ref tV), z7, z8, z9] ∧ LamX.ExtN H5 H' ∧ LamX.Tabs (T_l_law P0) H' ∧ H' tW = some (.lst (xv ++ [.ref t1, o1, o2])) ∧ HD K H' (xv ++ [.ref t1, o1, o2])) ?_ ?_ ?_ ?_
      · exact ⟨_, _, rfl, ext_same smW, same_tabs smW tb5, upd_same, hW⟩
      · rintro i σ H' hi ⟨z8, z9, rfl, _, _, e, _⟩
        exact SqL.of e
      · rintro i x σ H' hi ⟨z8, z9, rfl, ex, tbs, eW, hD⟩
        obtain ⟨d, hd⟩ := hD x (List.mem_of_getElem? hi)
        have hcd := cardsD_ok hK
        -- are_cards
        refine ⟨_, rfl, x, d, rfl, hd, fun Ha sa => ⟨_, rfl, ?_⟩⟩
        refine ⟨_, rfl, x, d, rfl, Same.dp sa hd, fun Hc sc => ⟨_, rfl, rfl, _, rfl, iteN (by rw [decide_eq_true rfl]; exact fun z => nomatch z) ?_⟩⟩
        have s2 := sa.trans sc
        -- is_purse
        have hC2 := Same.seqT s2 (ext_seqT ex hC5)
        refine ⟨_, rfl, _, rfl, .ref kA, x, _, d, rfl, .tup hC2 (dp_ints cs), Same.dp s2 hd, fun _ n hn He se => ?_, fun h => absurd hcd (by rw [h]; exact fun z => nomatch z)⟩
        have hn' : n = cs.length := by
          have := hn _ rfl
          rw [List.length_map] at this
          exact this.symm
        refine ⟨_, rfl, ?_⟩
        have s3 := s2.trans se
        refine ⟨_, rfl, _, rfl, kA, _, x, d, rfl, Same.seqT se hC2, by rw [List.length_map]; exact c3, Same.dp s3 hd, fun Hf sf => ⟨_, rfl, rfl, _, rfl, iteN ?_ ?_⟩⟩
        · rw [hn', List.length_map, decide_eq_true rfl]
          exact fun z => nomatch z
        have s4 := s3.trans sf
        -- who is refused
        refine ⟨same_tabs s4 tbs, fun fl cl H9 ex9 tb9 n9 ef ec => ?_⟩
        have exA := (ext_same s4).trans ex9
        have exB := ex.trans exA
        refine ⟨_, rfl, _, rfl, fl, x, .ref pA, .int 0, sp_lam01 mg K, C, tf, rd, rfl, KT, .inr ⟨_, _, (lok_of (k := 11) (N := ["a", "b", "c"]) (ps := ["a", "b", "c"]) (NdefX.nscope_by (by dsimp only; decide +kernel)) rfl (fun pm ctv us hl => match us, hl with | [_, _, _], _ => rfl) (fun vs H Q E h => by obtain ⟨_, _, _, rfl, _⟩ := h; rfl) (fun A outer s H vs Q E hr2 h => ?_)), ef, ec⟩, mono_lam01, fun H10 s10 => ?_⟩
        · obtain ⟨x1, x2, x3, rfl, h⟩ := h
          exact ⟨_, pe_defX D_p_is_purse hr2 (L2N.takes_of rfl rfl rfl rfl) (pa_cons (pv 0) (pa_cons (pv 1) pa_nil)), _, rfl, _, rfl, h⟩
        have ex10 := exA.trans (ext_same s10)
        refine ⟨x, .ref pA, .int 0, rfl, x, .ref pA, d, _, rfl, ext_dp ex10 hd, .tup (Same.seqT s10 (ext_seqT exB hP5)) (.cons (.int r) (.cons (.tup (Same.seqT s10 (ext_seqT exB hs5)) (dp_ints ss)) .nil)), fun hc1 n hn H11 s11 => ⟨s11, fun kn H12 s12 e12 => ?_⟩, fun hc1 H11 C' s11 g => ⟨s11, 0, ?_, rfl, KO, fun kn H12 s12 e12 => ?_⟩⟩
        case refine_2 =>
          have := g.symm.trans (KT.w 0 (by decide))
          cases this
          rfl
        all_goals
          have sz2 := (s10.trans s11).trans s12
          have ex12 := exA.trans (ext_same sz2)
          have hd12 := ext_dp ex12 hd
          refine ⟨_, rfl, _, rfl, x, d, rfl, hd12, fun H13 s13 => ⟨_, rfl, ?_⟩⟩
        · rw [hc1]
          refine iteT ⟨Nat.zero_le _, fun l0 nl0 => ?_⟩
          have s14 := s13.trans (same_upd (o := .lst []) nl0)
          refine ⟨_, _, .lst (SqL.of (s14 _ _ e12)) .nil, .lst (SqL.of upd_same) .nil, shaped_nil, shaped_nil, _, rfl, ?_⟩
          rw [nil_eqv]
          have exZ := ex12.trans (ext_same s14)
          exact iteF ⟨_, _, rfl, ex.trans exZ, same_tabs (sz2.trans s14) tb9, exZ _ _ eW ntbl_lst, hD.ext exZ⟩
        · rw [hc1]
          refine iteF ⟨(by show 2 ≤ sizeLine; decide), fun l0 nl0 => ?_⟩
          have s14 := s13.trans (same_upd (o := .lst [.str "NoCards", .bl true]) nl0)
          refine ⟨_, _, .lst (SqL.of (s14 _ _ e12)) (.cons (.str _) (.cons (.bl _) .nil)), .lst (SqL.of upd_same) (.cons (.str _) (.cons (.bl _) .nil)), nocards_shaped, nocards_shaped, _, rfl, ?_⟩
          rw [show kinN 0 = Str.ofString "NoCards" from rfl, nocards_eqv]
          have exZ := ex12.trans (ext_same s14)
          exact iteF ⟨_, _, rfl, ex.trans exZ, same_tabs (sz2.trans s14) tb9, exZ _ _ eW ntbl_lst, hD.ext exZ⟩
      · rintro σ H' ⟨z8, z9, rfl, ex, tbs, eW, hD⟩
        exact ⟨_, _, _, _, _, _, _, _, _, rfl, kt5.trans (.ext ex), tbs⟩
  · rintro σ H2 ⟨y1, y2, y3, y4, y5, y6, y7, y8, y9, rfl, kk, _⟩
    exact q H2
theorem all_ok {l : PySem.W.OpenLaw} {w : World} {K : PySem.W.Frag} {mg : Str → Option Value} {fa : Addr} (hfa : mg "law" = some (.ref fa)) {h : Heap}
    (F_l_draws : FunAt K mg "_law_draws" s_l_draws)
    (F_l_cell_at : FunAt K mg "_law_cell_at" s_l_cell_at)
    (F_l_bag : FunAt K mg "_law_bag" s_l_bag)
    (F_l_bags : FunAt K mg "_law_bags" s_l_bags)
    (F_l_take : FunAt K mg "_law_take" s_l_take)
    (F_l_kinds : FunAt K mg "_law_kinds" s_l_kinds)
    (F_l_far_draw : FunAt K mg "_law_far_draw" s_l_far_draw)
    (F_l_stamps_for : FunAt K mg "_law_stamps_for" s_l_stamps_for)
    (F_l_had : FunAt K mg "_law_had" s_l_had)
    (F_l_odd : FunAt K mg "_law_odd" s_l_odd)
    (F_l_spoilt : FunAt K mg "_law_spoilt" s_l_spoilt)
    (F_p_is_within : FunAt K mg "is_within" s_p_is_within)
    (F_p_are_cards : FunAt K mg "are_cards" s_p_are_cards)
    (F_l_from : FunAt K mg "_law_from" s_l_from)
    (F_l_are_cards : FunAt K mg "_law_are_cards" s_l_are_cards)
    (F_p_refuse_no_cards : FunAt K mg "refuse_no_cards" s_p_refuse_no_cards)
    (F_p_are_stamps : FunAt K mg "are_stamps" s_p_are_stamps)
    (F_p_purse_fits : FunAt K mg "purse_fits" s_p_purse_fits)
    (F_p_is_purse : FunAt K mg "is_purse" s_p_is_purse)
    (F_l_is_purse : FunAt K mg "_law_is_purse" s_l_is_purse)
    (F_l_refused : FunAt K mg "_law_refused" s_l_refused)
    {c_l_law P_l_law : Addr}
    (F_l_law : TabAt K mg h "law" s_l_law c_l_law P_l_law)
    (b_int : mg "int" = none)
    (b_range : mg "range" = none)
    (b_len : mg "len" = none)
    (b_max : mg "max" = none)
    (b_min : mg "min" = none)
    (b_tuple : mg "tuple" = none)
    (b_isinstance : mg "isinstance" = none)
    (b_list : mg "list" = none)
    (b_bool : mg "bool" = none)
    (b_all : mg "all" = none)
    (b_ValueError : mg "ValueError" = none)
    (b_repr : mg "repr" = none)
    {t_MOST_KINDS : Tok} (g_MOST_KINDS : mg "MOST_KINDS" = some (.int 3 t_MOST_KINDS))
    {t_MOST_FULL : Tok} (g_MOST_FULL : mg "MOST_FULL" = some (.int 20 t_MOST_FULL))
    {t_LEAST_FULL : Tok} (g_LEAST_FULL : mg "LEAST_FULL" = some (.int 2 t_LEAST_FULL))
    {t_MOST : Tok} (g_MOST : mg "MOST" = some (.int 1000000000000000000 t_MOST))
    {C_NoCards : Addr} (T_NoCards : ExcT K mg "NoCards" C_NoCards)
    {C : Nat → Addr} {tf rd : Addr} (KT : Kin K mg C tf rd) (KO0 : KinOf K C tf rd 0) :
    LamX.LawAtS l w K CX0 14 63 "script" mg fa h := by
  obtain ⟨f0, fd0, F0, m0, hc0⟩ := F_l_law.fn
  have e := hfa.symm.trans m0
  cases e
  refine ⟨fd0, [(c_l_law, P_l_law)], sp_l_law K P_l_law, (List.forall_mem_cons.mpr ⟨F_l_law.tab, (List.forall_mem_nil _)⟩), (List.forall_mem_cons.mpr ⟨F_l_law.out, (List.forall_mem_nil _)⟩), (List.forall_mem_cons.mpr ⟨F_l_law.hd, (List.forall_mem_nil _)⟩), ?_, fun H a ns hl hz hT hS => ?_, fun base _ _ TB => ?_⟩
  · obtain ⟨oc, od, kV, doc, pm, an, cdv, ct, osl, rfl, lk, hcd⟩ := F0.ex
    exact fun s v => .of_eq rfl
  · exact ⟨a, ns, rfl, hS, hl, List.forall_mem_cons.mpr ⟨LamX.TabS.nil (hT _ List.mem_cons_self), List.forall_mem_nil _⟩, fun _ => rfl⟩
  have D_l_draws := F_l_draws.def (P := l.prog) (w := w) (base := base) (fun f fd F => ok_l_draws F b_int b_range) (ps := ["cell", "many", "size"]) (fun _ _ _ _ _ _ us hl => match us, hl with | [_, _, _], _ => rfl)
  have D_l_cell_at := F_l_cell_at.def (P := l.prog) (w := w) (base := base) (fun f fd F => ok_l_cell_at F b_len) (ps := ["script", "k"]) (fun _ _ _ _ _ _ us hl => match us, hl with | [_, _], _ => rfl)
  have D_l_bag := F_l_bag.def (P := l.prog) (w := w) (base := base) (fun f fd F => ok_l_bag F D_l_draws D_l_cell_at) (ps := ["script", "k"]) (fun _ _ _ _ _ _ us hl => match us, hl with | [_, _], _ => rfl)
  have D_l_bags := F_l_bags.def (P := l.prog) (w := w) (base := base) (fun f fd F => ok_l_bags F D_l_bag b_range b_max b_min b_len) (ps := ["script", "limit"]) (fun _ _ _ _ _ _ us hl => match us, hl with | [_, _], _ => rfl)
  have D_l_take := F_l_take.def (P := l.prog) (w := w) (base := base) (fun f fd F => ok_l_take F b_len) (ps := ["bag", "many"]) (fun _ _ _ _ _ _ us hl => match us, hl with | [_, _], _ => rfl)
  have D_l_kinds := F_l_kinds.def (P := l.prog) (w := w) (base := base) (fun f fd F => ok_l_kinds F D_l_take b_range b_min b_tuple) (ps := ["bag", "far"]) (fun _ _ _ _ _ _ us hl => match us, hl with | [_, _], _ => rfl)
  have D_l_far_draw := F_l_far_draw.def (P := l.prog) (w := w) (base := base) (fun f fd F => ok_l_far_draw F D_l_take) (ps := ["bag", "many"]) (fun _ _ _ _ _ _ us hl => match us, hl with | [_, _], _ => rfl)
  have D_l_stamps_for := F_l_stamps_for.def (P := l.prog) (w := w) (base := base) (fun f fd F => ok_l_stamps_for F D_l_far_draw D_l_take b_tuple) (ps := ["bag", "kinds", "far"]) (fun _ _ _ _ _ _ us hl => match us, hl with | [_, _, _], _ => rfl)
  have D_l_had := F_l_had.def (P := l.prog) (w := w) (base := base) (fun f fd F => ok_l_had F D_l_stamps_for D_l_far_draw) (ps := ["bag", "kinds", "far"]) (fun _ _ _ _ _ _ us hl => match us, hl with | [_, _, _], _ => rfl)
  have D_l_odd := F_l_odd.def (P := l.prog) (w := w) (base := base) (fun f fd F => ok_l_odd F b_len) (ps := ["picks"]) (fun _ _ _ _ _ _ us hl => match us, hl with | [_], _ => rfl)
  have D_l_spoilt : Def l.prog w K mg base "_law_spoilt" 7 ["thing", "picks"] (sp_l_spoilt K 5) := by
    suffices z : ∀ n : Nat, Def l.prog w K mg base "_law_spoilt" (n + 2) ["thing", "picks"] (sp_l_spoilt K n) from z 5
    intro n
    induction n with
    | zero => exact F_l_spoilt.def (P := l.prog) (w := w) (base := base) (fun f fd F => ⟨fun _ _ _ _ h => False.elim h, fun _ _ _ _ _ _ _ _ _ _ _ _ _ h => False.elim h⟩) (ps := ["thing", "picks"]) (fun _ _ _ _ _ _ us hl => match us, hl with | [_, _], _ => rfl)
    | succ n ih => exact F_l_spoilt.def (P := l.prog) (w := w) (base := base) (fun f fd F => ok_l_spoilt F ih D_l_odd b_len b_isinstance b_list b_tuple) (ps := ["thing", "picks"]) (fun _ _ _ _ _ _ us hl => match us, hl with | [_, _], _ => rfl)
  have D_p_is_within := F_p_is_within.def (P := l.prog) (w := w) (base := base) (fun f fd F => ok_p_is_within F b_isinstance b_int b_bool) (ps := ["thing", "least", "most"]) (fun _ _ _ _ _ _ us hl => match us, hl with | [_, _, _], _ => rfl)
  have D_p_are_cards := F_p_are_cards.def (P := l.prog) (w := w) (base := base) (fun f fd F => ok_p_are_cards F D_p_is_within b_len b_isinstance b_tuple b_all g_MOST_KINDS g_MOST_FULL g_LEAST_FULL) (ps := ["thing"]) (fun _ _ _ _ _ _ us hl => match us, hl with | [_], _ => rfl)
  have D_l_from := F_l_from.def (P := l.prog) (w := w) (base := base) (fun f fd F => ok_l_from F b_isinstance b_bool b_int) (ps := ["thing", "least", "top"]) (fun _ _ _ _ _ _ us hl => match us, hl with | [_, _, _], _ => rfl)
  have D_l_are_cards := F_l_are_cards.def (P := l.prog) (w := w) (base := base) (fun f fd F => ok_l_are_cards F D_l_from b_len b_isinstance b_tuple b_all) (ps := ["thing"]) (fun _ _ _ _ _ _ us hl => match us, hl with | [_], _ => rfl)
  have D_p_refuse_no_cards := F_p_refuse_no_cards.defX (P := l.prog) (w := w) (base := base) (fun f fd F => ok_p_refuse_no_cards F D_p_are_cards T_NoCards) (ps := ["thing"]) (fun _ _ _ _ _ _ us hl => match us, hl with | [_], _ => rfl)
  have D_p_are_stamps := F_p_are_stamps.def (P := l.prog) (w := w) (base := base) (fun f fd F => ok_p_are_stamps F D_p_is_within b_len b_isinstance b_tuple b_all g_MOST) (ps := ["cards", "thing"]) (fun _ _ _ _ _ _ us hl => match us, hl with | [_, _], _ => rfl)
  have D_p_purse_fits := F_p_purse_fits.def (P := l.prog) (w := w) (base := base) (fun f fd F => ok_p_purse_fits F D_p_are_stamps D_p_is_within b_len b_isinstance b_tuple g_MOST) (ps := ["cards", "thing"]) (fun _ _ _ _ _ _ us hl => match us, hl with | [_, _], _ => rfl)
  have D_p_is_purse := F_p_is_purse.defX (P := l.prog) (w := w) (base := base) (fun f fd F => ok_p_is_purse F D_p_refuse_no_cards D_p_purse_fits) (ps := ["cards", "thing"]) (fun _ _ _ _ _ _ us hl => match us, hl with | [_, _], _ => rfl)
  have D_l_is_purse := F_l_is_purse.def (P := l.prog) (w := w) (base := base) (fun f fd F => ok_l_is_purse F D_l_from b_len b_isinstance b_tuple b_all) (ps := ["kinds", "thing"]) (fun _ _ _ _ _ _ us hl => match us, hl with | [_, _], _ => rfl)
  have D_l_refused := F_l_refused.def (P := l.prog) (w := w) (base := base) (fun f fd F => ok_l_refused F b_isinstance b_ValueError) (ps := ["call", "one", "two", "three"]) (fun _ _ _ _ _ _ us hl => match us, hl with | [_, _, _, _], _ => rfl)
  exact ok_l_law F0 (TB _ List.mem_cons_self) hc0 D_l_bags D_l_kinds D_l_had D_l_spoilt D_l_odd D_p_are_cards D_l_are_cards D_p_is_purse D_l_is_purse D_l_refused b_list b_repr KT KO0
end FR
open PySem PySem.W PyProof.Rows
set_option maxRecDepth 100000 in
set_option maxHeartbeats 0 in
theorem PySem.Challenge.cw_freerides_k01_cards_and_purses_known_holds : PySem.Challenge.rw_freerides_k01_cards_and_purses_known.Holds := by
  w_on; o_law; k_head; (case hw => w_witness2)
  k_fill
  refine LamX.walk_ofTs (l := PySem.Challenge.rw_freerides_k01_cards_and_purses_known) (n := 63) (k := 14) (x := "script") (CX := fun _ => L2.CX0) rfl (by decide) rfl ⟨rfl, by decide, by decide⟩ (fun w h Y => PySem.W.km_in_of Y) ?F (fun _ _ _ _ _ h => h)
  case F =>
    intro w mg fa h Y KX G hmg
    have F_l_draws : FR.FunAtX KX mg "_law_draws" FR.s_l_draws := by
      refine' FR.funAt_mk KX G ?a ?l ?c ?k
      (case a => k_is); (case l => k_is); (case c => k_is); (case k => k_is)
    have F_l_cell_at : FR.FunAtX KX mg "_law_cell_at" FR.s_l_cell_at := by
      refine' FR.funAt_mk KX G ?a ?l ?c ?k
      (case a => k_is); (case l => k_is); (case c => k_is); (case k => k_is)
    have F_l_bag : FR.FunAtX KX mg "_law_bag" FR.s_l_bag := by
      refine' FR.funAt_mk KX G ?a ?l ?c ?k
      (case a => k_is); (case l => k_is); (case c => k_is); (case k => k_is)
    have F_l_bags : FR.FunAtX KX mg "_law_bags" FR.s_l_bags := by
      refine' FR.funAt_mk KX G ?a ?l ?c ?k
      (case a => k_is); (case l => k_is); (case c => k_is); (case k => k_is)
    have F_l_take : FR.FunAtX KX mg "_law_take" FR.s_l_take := by
      refine' FR.funAt_mk KX G ?a ?l ?c ?k
      (case a => k_is); (case l => k_is); (case c => k_is); (case k => k_is)
    have F_l_kinds : FR.FunAtX KX mg "_law_kinds" FR.s_l_kinds := by
      refine' FR.funAt_mk KX G ?a ?l ?c ?k
      (case a => k_is); (case l => k_is); (case c => k_is); (case k => k_is)
    have F_l_far_draw : FR.FunAtX KX mg "_law_far_draw" FR.s_l_far_draw := by
      refine' FR.funAt_mk KX G ?a ?l ?c ?k
      (case a => k_is); (case l => k_is); (case c => k_is); (case k => k_is)
    have F_l_stamps_for : FR.FunAtX KX mg "_law_stamps_for" FR.s_l_stamps_for := by
      refine' FR.funAt_mk KX G ?a ?l ?c ?k
      (case a => k_is); (case l => k_is); (case c => k_is); (case k => k_is)
    have F_l_had : FR.FunAtX KX mg "_law_had" FR.s_l_had := by
      refine' FR.funAt_mk KX G ?a ?l ?c ?k
      (case a => k_is); (case l => k_is); (case c => k_is); (case k => k_is)
    have F_l_odd : FR.FunAtX KX mg "_law_odd" FR.s_l_odd := by
      refine' FR.funAt_mk KX G ?a ?l ?c ?k
      (case a => k_is); (case l => k_is); (case c => k_is); (case k => k_is)
    have F_l_spoilt : FR.FunAtX KX mg "_law_spoilt" FR.s_l_spoilt := by
      refine' FR.funAt_mk KX G ?a ?l ?c ?k
      (case a => k_is); (case l => k_is); (case c => k_is); (case k => k_is)
    have F_p_is_within : FR.FunAtX KX mg "is_within" FR.s_p_is_within := by
      refine' FR.funAt_mk KX G ?a ?l ?c ?k
      (case a => k_is); (case l => k_is); (case c => k_is); (case k => k_is)
    have F_p_are_cards : FR.FunAtX KX mg "are_cards" FR.s_p_are_cards := by
      refine' FR.funAt_mk KX G ?a ?l ?c ?k
      (case a => k_is); (case l => k_is); (case c => k_is); (case k => k_is)
    have F_l_from : FR.FunAtX KX mg "_law_from" FR.s_l_from := by
      refine' FR.funAt_mk KX G ?a ?l ?c ?k
      (case a => k_is); (case l => k_is); (case c => k_is); (case k => k_is)
    have F_l_are_cards : FR.FunAtX KX mg "_law_are_cards" FR.s_l_are_cards := by
      refine' FR.funAt_mk KX G ?a ?l ?c ?k
      (case a => k_is); (case l => k_is); (case c => k_is); (case k => k_is)
    have F_p_refuse_no_cards : FR.FunAtX KX mg "refuse_no_cards" FR.s_p_refuse_no_cards := by
      refine' FR.funAt_mk KX G ?a ?l ?c ?k
      (case a => k_is); (case l => k_is); (case c => k_is); (case k => k_is)
    have F_p_are_stamps : FR.FunAtX KX mg "are_stamps" FR.s_p_are_stamps := by
      refine' FR.funAt_mk KX G ?a ?l ?c ?k
      (case a => k_is); (case l => k_is); (case c => k_is); (case k => k_is)
    have F_p_purse_fits : FR.FunAtX KX mg "purse_fits" FR.s_p_purse_fits := by
      refine' FR.funAt_mk KX G ?a ?l ?c ?k
      (case a => k_is); (case l => k_is); (case c => k_is); (case k => k_is)
    have F_p_is_purse : FR.FunAtX KX mg "is_purse" FR.s_p_is_purse := by
      refine' FR.funAt_mk KX G ?a ?l ?c ?k
      (case a => k_is); (case l => k_is); (case c => k_is); (case k => k_is)
    have F_l_is_purse : FR.FunAtX KX mg "_law_is_purse" FR.s_l_is_purse := by
      refine' FR.funAt_mk KX G ?a ?l ?c ?k
      (case a => k_is); (case l => k_is); (case c => k_is); (case k => k_is)
    have F_l_refused : FR.FunAtX KX mg "_law_refused" FR.s_l_refused := by
      refine' FR.funAt_mk KX G ?a ?l ?c ?k
      (case a => k_is); (case l => k_is); (case c => k_is); (case k => k_is)
    have F_l_law : FR.TabAtX KX mg "law" FR.s_l_law := by
      refine' FR.tabAt_mk KX G (PySem.W.km_tabs_of Y) ?a ?l ?c ?k ?zlc ?zvp ?zhc ?zhn ?zmem
      (case a => k_is); (case l => k_is); (case c => k_is); (case k => k_is); (case zlc => k_is); (case zvp => exact rfl); (case zhc => kernel_rfl); (case zhn => kernel_rfl); (case zmem => k_mem)
    have b_int : mg "int" = none := by
      refine' PySem.W.mg_none_of KX G ?z
      (case z => k_is)
    have b_range : mg "range" = none := by
      refine' PySem.W.mg_none_of KX G ?z
      (case z => k_is)
    have b_len : mg "len" = none := by
      refine' PySem.W.mg_none_of KX G ?z
      (case z => k_is)
    have b_max : mg "max" = none := by
      refine' PySem.W.mg_none_of KX G ?z
      (case z => k_is)
    have b_min : mg "min" = none := by
      refine' PySem.W.mg_none_of KX G ?z
      (case z => k_is)
    have b_tuple : mg "tuple" = none := by
      refine' PySem.W.mg_none_of KX G ?z
      (case z => k_is)
    have b_isinstance : mg "isinstance" = none := by
      refine' PySem.W.mg_none_of KX G ?z
      (case z => k_is)
    have b_list : mg "list" = none := by
      refine' PySem.W.mg_none_of KX G ?z
      (case z => k_is)
    have b_bool : mg "bool" = none := by
      refine' PySem.W.mg_none_of KX G ?z
      (case z => k_is)
    have b_all : mg "all" = none := by
      refine' PySem.W.mg_none_of KX G ?z
      (case z => k_is)
    have b_ValueError : mg "ValueError" = none := by
      refine' PySem.W.mg_none_of KX G ?z
      (case z => k_is)
    have b_repr : mg "repr" = none := by
      refine' PySem.W.mg_none_of KX G ?z
      (case z => k_is)
    have g_MOST_KINDS : ∃ t, mg "MOST_KINDS" = some (.int 3 t) := by
      refine' FR.glob_mk KX G ?z ?e
      (case z => k_is); (case e => exact ⟨_, rfl⟩)
    have g_MOST_FULL : ∃ t, mg "MOST_FULL" = some (.int 20 t) := by
      refine' FR.glob_mk KX G ?z ?e
      (case z => k_is); (case e => exact ⟨_, rfl⟩)
    have g_LEAST_FULL : ∃ t, mg "LEAST_FULL" = some (.int 2 t) := by
      refine' FR.glob_mk KX G ?z ?e
      (case z => k_is); (case e => exact ⟨_, rfl⟩)
    have g_MOST : ∃ t, mg "MOST" = some (.int 1000000000000000000 t) := by
      refine' FR.glob_mk KX G ?z ?e
      (case z => k_is); (case e => exact ⟨_, rfl⟩)
    have T_NoCards : FR.ExcAtX KX mg "NoCards" := by
      refine' FR.excT_mk KX G ?a ?x ?k ?s ?t
      (case a => k_is); (case x => k_exc); (case k => k_is); (case s => k_is); (case t => k_is)
    have KA : FR.KinAtX KX mg [0] := by
      refine' FR.kinAt_mk KX (FR.kin_mk KX G ?a0 ?a1 ?a2 ?a3 ?a4 ?a5 ?a6 ?a7 ?a8 ?a9 ?a10 ?atf ?ard) (FR.kinL_cons (FR.kinOf_mk (i := 0) (by decide) ?hc_0 ?hg_0 ?hk_0 ?hs_0 ?hd_0 ?ha_0 ?hn_0 ?ht_0 ?hm_0 ?me_0 ?sv_0 ?d0_0 ?t0_0 ?s0_0 ?d1_0 ?t1_0 ?s1_0 ?d2_0 ?t2_0 ?s2_0 ?d3_0 ?t3_0 ?s3_0 ?d4_0 ?t4_0 ?s4_0 ?d5_0 ?t5_0 ?s5_0 ?d6_0 ?t6_0 ?s6_0 ?d7_0 ?t7_0 ?s7_0 ?d8_0 ?t8_0 ?s8_0 ?d9_0 ?t9_0 ?s9_0 ?d10_0 ?t10_0 ?s10_0 ?dtf_0 ?ttf_0 ?btf_0 ?stf_0 ?drd_0 ?trd_0 ?brd_0 ?srd_0) FR.kinL_nil)
      (case a0 => k_is); (case a1 => k_is); (case a2 => k_is); (case a3 => k_is); (case a4 => k_is); (case a5 => k_is); (case a6 => k_is); (case a7 => k_is); (case a8 => k_is); (case a9 => k_is); (case a10 => k_is); (case atf => k_is); (case ard => k_is)
      (case hc_0 => exact rfl)
      (case hg_0 => k_is); (case hk_0 => k_is); (case hs_0 => k_is); (case hd_0 => k_is); (case ha_0 => k_is); (case hn_0 => k_is); (case ht_0 => k_is); (case hm_0 => k_is); (case me_0 => k_is); (case sv_0 => k_is); (case d0_0 => k_is); (case t0_0 => k_is); (case s0_0 => k_is); (case d1_0 => k_is); (case t1_0 => k_is); (case s1_0 => k_is); (case d2_0 => k_is); (case t2_0 => k_is); (case s2_0 => k_is); (case d3_0 => k_is); (case t3_0 => k_is); (case s3_0 => k_is); (case d4_0 => k_is); (case t4_0 => k_is); (case s4_0 => k_is); (case d5_0 => k_is); (case t5_0 => k_is); (case s5_0 => k_is); (case d6_0 => k_is); (case t6_0 => k_is); (case s6_0 => k_is); (case d7_0 => k_is); (case t7_0 => k_is); (case s7_0 => k_is); (case d8_0 => k_is); (case t8_0 => k_is); (case s8_0 => k_is); (case d9_0 => k_is); (case t9_0 => k_is); (case s9_0 => k_is); (case d10_0 => k_is); (case t10_0 => k_is); (case s10_0 => k_is); (case dtf_0 => k_is); (case ttf_0 => k_is); (case btf_0 => k_is); (case stf_0 => k_is); (case drd_0 => k_is); (case trd_0 => k_is); (case brd_0 => k_is); (case srd_0 => k_is)
    obtain ⟨C, tf, rd, KT, KO0, _⟩ := KA
    obtain ⟨c_l_law, P_l_law, F_l_law⟩ := F_l_law
    obtain ⟨t_MOST_KINDS, g_MOST_KINDS⟩ := g_MOST_KINDS
    obtain ⟨t_MOST_FULL, g_MOST_FULL⟩ := g_MOST_FULL
    obtain ⟨t_LEAST_FULL, g_LEAST_FULL⟩ := g_LEAST_FULL
    obtain ⟨t_MOST, g_MOST⟩ := g_MOST
    obtain ⟨C_NoCards, T_NoCards⟩ := T_NoCards
    exact FR.all_ok hmg F_l_draws F_l_cell_at F_l_bag F_l_bags F_l_take F_l_kinds F_l_far_draw F_l_stamps_for F_l_had F_l_odd F_l_spoilt F_p_is_within F_p_are_cards F_l_from F_l_are_cards F_p_refuse_no_cards F_p_are_stamps F_p_purse_fits F_p_is_purse F_l_is_purse F_l_refused F_l_law b_int b_range b_len b_max b_min b_tuple b_isinstance b_list b_bool b_all b_ValueError b_repr g_MOST_KINDS g_MOST_FULL g_LEAST_FULL g_MOST T_NoCards KT KO0
