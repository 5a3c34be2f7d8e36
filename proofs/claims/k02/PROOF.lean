import PyProof.Rows.All
import Wide.All
import OpenK.AllK
import Wide.FinOn
import HandS.ForMost
import HandS.Zip
import HandS.IsInst
import HandS.Wide
import HandS.TupAny
import HandS.Conv
import HandS.ForExc
import HandS.ExcCtx
import HandS.HotCalls
import HandS.ExcIs
import HandS.CallLocal
import HandS.Nested
import HandS.EndTab
import KE.KNestM
import HandS.TupMul
import HandS.RaiseMore
import PySem.Challenge.RW_freerides_k02_rows_of_deeds
set_option Elab.async false
set_option linter.all false
set_option maxRecDepth 100000
namespace FR
/-! ### the mathematics: cards cs, stamps ss -/
/-- how many full cards the stamps make, with those of n rides -/
def fc : List Int → List Int → Int → Int
  | c :: cs, s :: ss, n => (s + n) / c + fc cs ss n
  | _, _, _ => 0
/-- the least multiple, by steps -/
def perGo : Nat → Int → Int → Int → Int
  | 0, _, period, _ => period
  | n + 1, step, period, full => if period % full = 0 then period else perGo n step (period + step) full
theorem perGo_succ {n : Nat} {step period full : Int} : perGo (n + 1) step period full = if period % full = 0 then period else perGo n step (period + step) full := rfl
def perFrom (p : Int) (cs : List Int) : Int := cs.foldl (fun p c => perGo 20 p p c) p
def perOf (cs : List Int) : Int := perFrom 1 cs
/-- the full cards of a whole period -/
def pq (P : Int) : List Int → Int
  | [] => 0
  | c :: cs => P / c + pq P cs
def Cards (cs : List Int) : Prop := 1 ≤ cs.length ∧ cs.length ≤ 3 ∧ ∀ c ∈ cs, (2 : Int) ≤ c ∧ c ≤ 20
theorem perGo_ok {full step : Int} (h2 : 2 ≤ full) (h20 : full ≤ 20) : ∀ (n : Nat) (k : Int), 1 ≤ k → k ≤ full → (n : Int) + k = 21 → ∃ j, perGo n step (step * k) full = step * j ∧ 1 ≤ j ∧ j ≤ full ∧ (step * j) % full = 0
  | 0, k, h1, h3, h4 => by omega
  | n + 1, k, h1, h3, h4 => by
    unfold perGo
    by_cases c : (step * k) % full = 0
    · rw [if_pos c]
      exact ⟨k, rfl, h1, h3, c⟩
    · rw [if_neg c]
      have hk : k ≠ full := fun e => c (by rw [e]; exact Int.mul_emod_left _ _)
      have e : step * k + step = step * (k + 1) := by rw [Int.mul_add, Int.mul_one]
      rw [e]
      exact perGo_ok h2 h20 n (k + 1) (by omega) (by omega) (by omega)
theorem perFrom_ok : ∀ (cs : List Int) (p : Int), (∀ c ∈ cs, (2 : Int) ≤ c ∧ c ≤ 20) → 1 ≤ p → 1 ≤ perFrom p cs ∧ perFrom p cs ≤ p * 20 ^ cs.length ∧ p ∣ perFrom p cs ∧ ∀ c ∈ cs, c ∣ perFrom p cs
  | [], p, h, h1 => ⟨h1, by show p ≤ p * 1; omega, Int.dvd_refl _, fun c hc => nomatch hc⟩
  | c :: cs, p, h, h1 => by
    obtain ⟨hc2, hc20⟩ := h c (List.mem_cons_self ..)
    obtain ⟨j, e, j1, j2, j3⟩ := perGo_ok (full := c) (step := p) hc2 hc20 20 1 (by omega) (by omega) (by omega)
    rw [Int.mul_one] at e
    have hp : 1 ≤ p * j := by
      have := Int.mul_le_mul h1 j1 (by omega) (by omega)
      omega
    obtain ⟨a, b, d, f⟩ := perFrom_ok cs (p * j) (fun x hx => h x (List.mem_cons_of_mem _ hx)) hp
    have e2 : perFrom p (c :: cs) = perFrom (p * j) cs := by
      show perFrom (perGo 20 p p c) cs = _
      rw [e]
    rw [e2]
    refine ⟨a, Int.le_trans b ?_, Int.dvd_trans (Int.dvd_mul_right p j) d, fun x hx => ?_⟩
    · have g1 : p * j ≤ p * 20 := Int.mul_le_mul_of_nonneg_left (by omega) (by omega)
      have g2 : (p * j) * 20 ^ cs.length ≤ (p * 20) * 20 ^ cs.length := Int.mul_le_mul_of_nonneg_right g1 (Int.le_of_lt (Int.pow_pos (by omega)))
      rw [List.length_cons, Int.pow_succ, Int.mul_comm (20 ^ cs.length) 20, ← Int.mul_assoc]
      exact g2
    · rcases List.mem_cons.mp hx with g | g
      · rw [g]
        exact Int.dvd_trans (Int.dvd_of_emod_eq_zero j3) d
      · exact f x g
theorem perOf_ok {cs : List Int} (h : Cards cs) : 1 ≤ perOf cs ∧ perOf cs ≤ 8000 ∧ ∀ c ∈ cs, c ∣ perOf cs := by
  obtain ⟨a, b, _, d⟩ := perFrom_ok cs 1 h.2.2 (by omega)
  refine ⟨a, Int.le_trans b ?_, d⟩
  have h3 : cs.length = 1 ∨ cs.length = 2 ∨ cs.length = 3 := by
    have := h.1
    have := h.2.1
    omega
  rcases h3 with e | e | e <;> rw [e] <;> decide
theorem fc_mono : ∀ (cs ss : List Int) {m n : Int}, (∀ c ∈ cs, (2 : Int) ≤ c) → m ≤ n → fc cs ss m ≤ fc cs ss n
  | [], _, _, _, _, _ => by simp [fc]
  | c :: cs, [], _, _, _, _ => by simp [fc]
  | c :: cs, s :: ss, m, n, h, hm => by
    have h1 := fc_mono cs ss (fun x hx => h x (List.mem_cons_of_mem _ hx)) hm
    have h2 : (s + m) / c ≤ (s + n) / c := Int.ediv_le_ediv (by have := h c (List.mem_cons_self ..); omega) (by omega)
    show (s + m) / c + fc cs ss m ≤ (s + n) / c + fc cs ss n
    omega
theorem fc_nonneg : ∀ (cs ss : List Int) {n : Int}, (∀ c ∈ cs, (2 : Int) ≤ c) → (∀ s ∈ ss, (0 : Int) ≤ s) → 0 ≤ n → 0 ≤ fc cs ss n
  | [], _, _, _, _, _ => by simp [fc]
  | c :: cs, [], _, _, _, _ => by simp [fc]
  | c :: cs, s :: ss, n, h, hs, hn => by
    have h1 := fc_nonneg cs ss (fun x hx => h x (List.mem_cons_of_mem _ hx)) (fun x hx => hs x (List.mem_cons_of_mem _ hx)) hn
    have h2 : 0 ≤ (s + n) / c := Int.ediv_nonneg (by have := hs s (List.mem_cons_self ..); omega) (by have := h c (List.mem_cons_self ..); omega)
    show 0 ≤ (s + n) / c + fc cs ss n
    omega
theorem fc_per : ∀ (cs ss : List Int) {m P q : Int}, cs.length = ss.length → (∀ c ∈ cs, (2 : Int) ≤ c) → (∀ c ∈ cs, c ∣ P) → fc cs ss (m + P * q) = fc cs ss m + q * pq P cs
  | [], _, _, _, _, _, _, _ => by simp [fc, pq]
  | c :: cs, [], _, _, _, h, _, _ => by simp at h
  | c :: cs, s :: ss, m, P, q, hl, h, hd => by
    have h1 := fc_per cs ss (m := m) (P := P) (q := q) (by simpa using hl) (fun x hx => h x (List.mem_cons_of_mem _ hx)) (fun x hx => hd x (List.mem_cons_of_mem _ hx))
    have hc := h c (List.mem_cons_self ..)
    obtain ⟨k, rfl⟩ := hd c (List.mem_cons_self ..)
    have h2 : (s + (m + c * k * q)) / c = (s + m) / c + k * q := by
      rw [← Int.add_assoc, Int.mul_assoc, Int.add_mul_ediv_left _ _ (by omega)]
    have h3 : c * k / c = k := Int.mul_ediv_cancel_left _ (by omega)
    show (s + (m + c * k * q)) / c + fc cs ss (m + c * k * q) = (s + m) / c + fc cs ss m + q * (c * k / c + pq (c * k) cs)
    rw [h1, h2, h3, Int.mul_add, Int.mul_comm k q]
    omega
/-- what is told of rides and stamps: the least number that pays for itself, or none -/
def Least (cs : List Int) (r : Int) (ss : List Int) (t : Int) : Prop := 0 ≤ t ∧ r + fc cs ss t = t ∧ ∀ m, 0 ≤ m → m < t → m < r + fc cs ss m
def Never (cs : List Int) (r : Int) (ss : List Int) : Prop := ∀ m, 0 ≤ m → m < r + fc cs ss m
theorem never_of {cs ss : List Int} {r : Int} (hC : Cards cs) (hl : cs.length = ss.length) (hp : perOf cs ≤ pq (perOf cs) cs) (h : ∀ m, 0 ≤ m → m < perOf cs → m < r + fc cs ss m) : Never cs r ss := by
  intro m hm
  obtain ⟨p1, p2, p3⟩ := perOf_ok hC
  have e : m = m % perOf cs + perOf cs * (m / perOf cs) := (Int.emod_add_mul_ediv m (perOf cs)).symm
  have h0 := Int.emod_nonneg m (show perOf cs ≠ 0 by omega)
  have h1 := Int.emod_lt_of_pos m (show 0 < perOf cs by omega)
  have h2 := h _ h0 h1
  have hq : 0 ≤ m / perOf cs := Int.ediv_nonneg hm (by omega)
  have h3 := fc_per cs ss (m := m % perOf cs) (P := perOf cs) (q := m / perOf cs) hl (fun c hc => (hC.2.2 c hc).1) p3
  have h4 : (m / perOf cs) * perOf cs ≤ (m / perOf cs) * pq (perOf cs) cs := Int.mul_le_mul_of_nonneg_left hp hq
  rw [← e] at h3
  rw [h3]
  rw [Int.mul_comm] at h4
  omega
/-- where a period does not pay, some number is enough -/
def bound (cs : List Int) (r : Int) (ss : List Int) : Int := perOf cs * (r + fc cs ss 0)
theorem bound_ok {cs ss : List Int} {r : Int} (hC : Cards cs) (hl : cs.length = ss.length) (hs : ∀ s ∈ ss, (0 : Int) ≤ s) (hr : 0 ≤ r) (hp : pq (perOf cs) cs < perOf cs) : 0 ≤ bound cs r ss ∧ r + fc cs ss (bound cs r ss) ≤ bound cs r ss := by
  obtain ⟨p1, p2, p3⟩ := perOf_ok hC
  have h0 := fc_nonneg cs ss (n := 0) (fun c hc => (hC.2.2 c hc).1) hs (by omega)
  have h3 := fc_per cs ss (m := 0) (P := perOf cs) (q := r + fc cs ss 0) hl (fun c hc => (hC.2.2 c hc).1) p3
  rw [Int.zero_add] at h3
  have h4 : (r + fc cs ss 0) * pq (perOf cs) cs ≤ (r + fc cs ss 0) * (perOf cs - 1) := Int.mul_le_mul_of_nonneg_left (by omega) (by omega)
  rw [Int.mul_sub, Int.mul_one, Int.mul_comm _ (perOf cs)] at h4
  unfold bound
  refine ⟨Int.mul_nonneg (by omega) (by omega), ?_⟩
  rw [h3]
  omega
/-- one more round of the search -/
theorem least_step {cs ss : List Int} {r had : Int} (hC : Cards cs) (h : ∀ m, 0 ≤ m → m < had → m < r + fc cs ss m) (h0 : 0 ≤ had) : ∀ m, 0 ≤ m → m < r + fc cs ss had → m < r + fc cs ss m := by
  intro m hm h1
  by_cases c : m < had
  · exact h m hm c
  · have := fc_mono cs ss (m := had) (n := m) (fun c hc => (hC.2.2 c hc).1) (by omega)
    omega
theorem least_unique {cs ss : List Int} {r t u : Int} (a : Least cs r ss t) (b : Least cs r ss u) : t = u := by
  obtain ⟨a0, a1, a2⟩ := a
  obtain ⟨b0, b1, b2⟩ := b
  by_cases c : t < u
  · have := b2 t a0 c
    omega
  · by_cases d : u < t
    · have := a2 u b0 d
      omega
    · omega
theorem least_never {cs ss : List Int} {r t : Int} (a : Least cs r ss t) (b : Never cs r ss) : False := by
  have := b t a.1
  have := a.2.1
  omega
end FR
namespace FR
/-! ### the lists that the program sums -/
def fcl (cs ss : List Int) (n : Int) : List Int := (cs.zip ss).map fun p => (p.2 + n) / p.1
theorem fcl_get {cs ss : List Int} {n : Int} {i : Nat} {c s : Int} (h1 : cs[i]? = some c) (h2 : ss[i]? = some s) : (fcl cs ss n)[i]? = some ((s + n) / c) := by
  unfold fcl
  have hz : (cs.zip ss)[i]? = some (c, s) := List.getElem?_zip_eq_some.mpr ⟨h1, h2⟩
  rw [List.getElem?_map, hz]
  rfl
theorem fcl_sum : ∀ (cs ss : List Int) (n : Int), (fcl cs ss n).sum = fc cs ss n
  | [], _, _ => by simp [fcl, fc]
  | _ :: _, [], _ => by simp [fcl, fc]
  | c :: cs, s :: ss, n => by
    have := fcl_sum cs ss n
    show ((s + n) / c :: fcl cs ss n).sum = (s + n) / c + fc cs ss n
    rw [List.sum_cons, this]
theorem fcl_len {cs ss : List Int} {n : Int} (h : cs.length = ss.length) : (fcl cs ss n).length = cs.length := by
  unfold fcl
  rw [List.length_map, List.length_zip]
  omega
theorem pq_sum (P : Int) : ∀ (cs : List Int), (cs.map (fun c => P / c)).sum = pq P cs
  | [] => rfl
  | c :: cs => by
    rw [List.map_cons, List.sum_cons, pq_sum P cs]
    rfl
/-- what is left -/
def lf (cs ss : List Int) (n : Int) : List Int := (cs.zip ss).map fun p => (p.2 + n) % p.1
theorem lf_get {cs ss : List Int} {n : Int} {i : Nat} {c s : Int} (h1 : cs[i]? = some c) (h2 : ss[i]? = some s) : (lf cs ss n)[i]? = some ((s + n) % c) := by
  unfold lf
  have hz : (cs.zip ss)[i]? = some (c, s) := List.getElem?_zip_eq_some.mpr ⟨h1, h2⟩
  rw [List.getElem?_map, hz]
  rfl
theorem lf_len {cs ss : List Int} {n : Int} (h : cs.length = ss.length) : (lf cs ss n).length = cs.length := by
  unfold lf
  rw [List.length_map, List.length_zip]
  omega
end FR
namespace FR
theorem fc_set_s : ∀ (cs ss : List Int) (i : Nat) {s m : Int}, (∀ c ∈ cs, (2 : Int) ≤ c) → ss[i]? = some s → fc cs ss m ≤ fc cs (ss.set i (s + 1)) m
  | [], _, _, _, _, _, _ => by simp [fc]
  | _ :: _, [], _, _, _, _, h => by simp at h
  | c :: cs, x :: ss, 0, s, m, hc, h => by
    have e : x = s := Option.some.inj h
    subst e
    have h2 : (x + m) / c ≤ (x + 1 + m) / c := Int.ediv_le_ediv (by have := hc c (List.mem_cons_self ..); omega) (by omega)
    show (x + m) / c + fc cs ss m ≤ (x + 1 + m) / c + fc cs ss m
    omega
  | c :: cs, x :: ss, i + 1, s, m, hc, h => by
    have ih := fc_set_s cs ss i (s := s) (m := m) (fun y hy => hc y (List.mem_cons_of_mem _ hy)) (by simpa using h)
    show (x + m) / c + fc cs ss m ≤ (x + m) / c + fc cs (ss.set i (s + 1)) m
    omega
theorem div_anti {x c d : Int} (h0 : 0 ≤ x) (hc : 0 < c) (h : c ≤ d) : x / d ≤ x / c := by
  have h1 : 0 ≤ x / d := Int.ediv_nonneg h0 (by omega)
  refine Int.le_ediv_of_mul_le hc ?_
  have h2 : x / d * c ≤ x / d * d := Int.mul_le_mul_of_nonneg_left h h1
  have h3 : x / d * d ≤ x := Int.ediv_mul_le x (by omega)
  omega
theorem fc_set_c : ∀ (cs ss : List Int) (i : Nat) {c d m : Int}, (∀ c ∈ cs, (2 : Int) ≤ c) → (∀ s ∈ ss, (0 : Int) ≤ s) → 0 ≤ m → cs[i]? = some c → c ≤ d → fc (cs.set i d) ss m ≤ fc cs ss m
  | [], _, _, _, _, _, _, _, _, h, _ => by simp at h
  | _ :: _, [], _, _, _, _, _, _, _, _, _ => by simp [fc]
  | x :: cs, s :: ss, 0, c, d, m, hc, hs, hm, h, hd => by
    have e : x = c := Option.some.inj h
    subst e
    have h2 : (s + m) / d ≤ (s + m) / x := div_anti (by have := hs s (List.mem_cons_self ..); omega) (by have := hc x (List.mem_cons_self ..); omega) hd
    show (s + m) / d + fc cs ss m ≤ (s + m) / x + fc cs ss m
    omega
  | x :: cs, s :: ss, i + 1, c, d, m, hc, hs, hm, h, hd => by
    have ih := fc_set_c cs ss i (c := c) (d := d) (m := m) (fun y hy => hc y (List.mem_cons_of_mem _ hy)) (fun y hy => hs y (List.mem_cons_of_mem _ hy)) hm (by simpa using h) hd
    show (s + m) / x + fc (cs.set i d) ss m ≤ (s + m) / x + fc cs ss m
    omega
theorem set_cut {xs : List Int} {i : Nat} {y : Int} (h : i < xs.length) : xs.take i ++ [y] ++ xs.drop (i + 1) = xs.set i y := by
  rw [List.set_eq_take_append_cons_drop, if_pos h, List.append_assoc]
  rfl
theorem cards_set {cs : List Int} {i : Nat} {d : Int} (h : Cards cs) (h2 : 2 ≤ d) (h20 : d ≤ 20) : Cards (cs.set i d) := by
  refine ⟨by rw [List.length_set]; exact h.1, by rw [List.length_set]; exact h.2.1, fun c hc => ?_⟩
  rcases List.mem_or_eq_of_mem_set hc with g | g
  · exact h.2.2 c g
  · omega
end FR
namespace FR
/-! ### how many are wanted -/
def Want (cs ss : List Int) (a b v : Int) : Prop := 0 ≤ v ∧ (∀ m, a ≤ m → m < b → m + 1 - fc cs ss m ≤ v) ∧ (v = 0 ∨ ∃ m, a ≤ m ∧ m < b ∧ v = m + 1 - fc cs ss m)
theorem want_step {cs ss : List Int} {a b v : Int} (h : Want cs ss a b v) (hab : a ≤ b) : Want cs ss a (b + 1) (if b + 1 - fc cs ss b > v then b + 1 - fc cs ss b else v) := by
  obtain ⟨h0, h1, h2⟩ := h
  split
  · refine ⟨by omega, fun m m0 m1 => ?_, .inr ⟨b, hab, by omega, rfl⟩⟩
    by_cases c : m < b
    · have := h1 m m0 c
      omega
    · have e : m = b := by omega
      rw [e]
      omega
  · refine ⟨h0, fun m m0 m1 => ?_, ?_⟩
    · by_cases c : m < b
      · exact h1 m m0 c
      · have e : m = b := by omega
        rw [e]
        omega
    · rcases h2 with g | ⟨m, m0, m1, g⟩
      · exact .inl g
      · exact .inr ⟨m, m0, by omega, g⟩
theorem want_pays {cs ss : List Int} {n v : Int} (hC : Cards cs) (hl : cs.length = ss.length) (hp : perOf cs ≤ pq (perOf cs) cs) (hn : perOf cs ≤ n) (h : Want cs ss 0 (perOf cs) v) : Want cs ss 0 n v := by
  obtain ⟨h0, h1, h2⟩ := h
  obtain ⟨p1, p2, p3⟩ := perOf_ok hC
  refine ⟨h0, fun m m0 m1 => ?_, ?_⟩
  · have e : m = m % perOf cs + perOf cs * (m / perOf cs) := (Int.emod_add_mul_ediv m (perOf cs)).symm
    have g0 := Int.emod_nonneg m (show perOf cs ≠ 0 by omega)
    have g1 := Int.emod_lt_of_pos m (show 0 < perOf cs by omega)
    have g2 := h1 _ g0 g1
    have hq : 0 ≤ m / perOf cs := Int.ediv_nonneg m0 (by omega)
    have g3 := fc_per cs ss (m := m % perOf cs) (P := perOf cs) (q := m / perOf cs) hl (fun c hc => (hC.2.2 c hc).1) p3
    have g4 : (m / perOf cs) * perOf cs ≤ (m / perOf cs) * pq (perOf cs) cs := Int.mul_le_mul_of_nonneg_left hp hq
    rw [← e] at g3
    rw [g3]
    rw [Int.mul_comm] at g4
    omega
  · rcases h2 with g | ⟨m, m0, m1, g⟩
    · exact .inl g
    · exact .inr ⟨m, m0, by omega, g⟩
theorem want_wears {cs ss : List Int} {n v : Int} (hC : Cards cs) (hl : cs.length = ss.length) (hp : pq (perOf cs) cs < perOf cs) (hn : 0 ≤ n - perOf cs) (h : Want cs ss (n - perOf cs) n v) : Want cs ss 0 n v := by
  obtain ⟨h0, h1, h2⟩ := h
  obtain ⟨p1, p2, p3⟩ := perOf_ok hC
  refine ⟨h0, fun m m0 m1 => ?_, ?_⟩
  · have e : n - 1 - m = (n - 1 - m) % perOf cs + perOf cs * ((n - 1 - m) / perOf cs) := (Int.emod_add_mul_ediv _ (perOf cs)).symm
    have g0 := Int.emod_nonneg (n - 1 - m) (show perOf cs ≠ 0 by omega)
    have g1 := Int.emod_lt_of_pos (n - 1 - m) (show 0 < perOf cs by omega)
    have hq : 0 ≤ (n - 1 - m) / perOf cs := Int.ediv_nonneg (by omega) (by omega)
    have g3 := fc_per cs ss (m := m) (P := perOf cs) (q := (n - 1 - m) / perOf cs) hl (fun c hc => (hC.2.2 c hc).1) p3
    have g4 : ((n - 1 - m) / perOf cs) * pq (perOf cs) cs ≤ ((n - 1 - m) / perOf cs) * perOf cs := Int.mul_le_mul_of_nonneg_left (by omega) hq
    rw [Int.mul_comm _ (perOf cs)] at g4
    have g2 := h1 (m + perOf cs * ((n - 1 - m) / perOf cs)) (by omega) (by omega)
    omega
  · rcases h2 with g | ⟨m, m0, m1, g⟩
    · exact .inl g
    · exact .inr ⟨m, by omega, m1, g⟩
theorem want_le {cs ss : List Int} {n v : Int} (hC : Cards cs) (hs : ∀ s ∈ ss, (0 : Int) ≤ s) (hn : 0 ≤ n) (h : Want cs ss 0 n v) : v ≤ n := by
  rcases h.2.2 with g | ⟨m, m0, m1, g⟩
  · omega
  · have := fc_nonneg cs ss (n := m) (fun c hc => (hC.2.2 c hc).1) hs m0
    omega
theorem want_enough {cs ss : List Int} {n v t : Int} (h : Want cs ss 0 n v) (l : Least cs v ss t) : n ≤ t := by
  obtain ⟨l0, l1, l2⟩ := l
  by_cases c : t < n
  · have := h.2.1 t l0 c
    omega
  · omega
theorem want_fewer {cs ss : List Int} {n v t : Int} (h : Want cs ss 0 n v) (h0 : 0 < v) (l : Least cs (v - 1) ss t) : t < n := by
  obtain ⟨l0, l1, l2⟩ := l
  rcases h.2.2 with g | ⟨m, m0, m1, g⟩
  · omega
  · by_cases c : m < t
    · have := l2 m m0 c
      omega
    · omega
theorem want_fewer' {cs ss : List Int} {n v : Int} (h : Want cs ss 0 n v) (h0 : 0 < v) (l : Never cs (v - 1) ss) : False := by
  rcases h.2.2 with g | ⟨m, m0, m1, g⟩
  · omega
  · have := l m m0
    omega
theorem want_never {cs ss : List Int} {v : Int} (hC : Cards cs) (hl : cs.length = ss.length) (hp : perOf cs ≤ pq (perOf cs) cs) (h : Want cs ss 0 (perOf cs) v) : Never cs v ss :=
  never_of hC hl hp fun m m0 m1 => by
    have := h.2.1 m m0 m1
    omega
theorem never_more {cs ss : List Int} {v w : Int} (h : Never cs v ss) (hw : v ≤ w) : Never cs w ss := fun m m0 => by
  have := h m m0
  omega
theorem wears_ends {cs ss : List Int} {r : Int} (hC : Cards cs) (hl : cs.length = ss.length) (hs : ∀ s ∈ ss, (0 : Int) ≤ s) (hr : 0 ≤ r) (hp : pq (perOf cs) cs < perOf cs) (h : Never cs r ss) : False := by
  obtain ⟨b0, b1⟩ := bound_ok hC hl hs hr hp
  have := h _ b0
  omega
end FR
namespace FR
/-! ### deeds in any order: k rides ridden, G full cards given, zs the stamps now -/
def Gone : List Int → List Int → List Int → Int → Int → Prop
  | c :: cs, s :: ss, z :: zs, k, G => ∃ g, 0 ≤ z ∧ z + c * g = s + k ∧ Gone cs ss zs k (G - g)
  | [], [], [], _, G => G = 0
  | _, _, _, _, _ => False
theorem gone_start : ∀ (cs ss : List Int), cs.length = ss.length → (∀ s ∈ ss, (0 : Int) ≤ s) → Gone cs ss ss 0 0
  | [], [], _, _ => rfl
  | c :: cs, s :: ss, hl, hs => ⟨0, hs s (List.mem_cons_self ..), by omega, by
      have := gone_start cs ss (by simpa using hl) (fun x hx => hs x (List.mem_cons_of_mem _ hx))
      simpa using this⟩
theorem gone_len : ∀ (cs ss zs : List Int) {k G : Int}, Gone cs ss zs k G → zs.length = cs.length ∧ ss.length = cs.length
  | [], [], [], _, _, _ => ⟨rfl, rfl⟩
  | c :: cs, s :: ss, z :: zs, k, G, ⟨g, _, _, h⟩ => by
    have := gone_len cs ss zs h
    simp only [List.length_cons]
    omega
theorem gone_ride : ∀ (cs ss zs : List Int) {k G : Int}, Gone cs ss zs k G → Gone cs ss (zs.map (· + 1)) (k + 1) G
  | [], [], [], _, _, h => h
  | c :: cs, s :: ss, z :: zs, k, G, ⟨g, h0, h1, h2⟩ => ⟨g, by show 0 ≤ z + 1; omega, by show z + 1 + c * g = s + (k + 1); omega, gone_ride cs ss zs h2⟩
theorem gone_give : ∀ (cs ss zs : List Int) (i : Nat) {k G c z : Int}, Gone cs ss zs k G → cs[i]? = some c → zs[i]? = some z → c ≤ z → Gone cs ss (zs.set i (z - c)) k (G + 1)
  | [], [], [], i, _, _, _, _, _, h, _, _ => by simp at h
  | c :: cs, s :: ss, z :: zs, 0, k, G, c', z', ⟨g, h0, h1, h2⟩, hc, hz, h => by
    have e1 : c = c' := Option.some.inj hc
    have e2 : z = z' := Option.some.inj hz
    subst e1 e2
    refine ⟨g + 1, by omega, ?_, ?_⟩
    · rw [Int.mul_add, Int.mul_one]
      omega
    · have e : G + 1 - (g + 1) = G - g := by omega
      rw [e]
      exact h2
  | c :: cs, s :: ss, z :: zs, i + 1, k, G, c', z', ⟨g, h0, h1, h2⟩, hc, hz, h => by
    refine ⟨g, h0, h1, ?_⟩
    have := gone_give cs ss zs i h2 (by simpa using hc) (by simpa using hz) h
    have e : G + 1 - g = G - g + 1 := by omega
    rw [e]
    exact this
theorem gone_le : ∀ (cs ss zs : List Int) {k G : Int}, (∀ c ∈ cs, (2 : Int) ≤ c) → Gone cs ss zs k G → G ≤ fc cs ss k
  | [], [], [], _, G, _, h => by
    have e : G = 0 := h
    simp [fc, e]
  | c :: cs, s :: ss, z :: zs, k, G, hc, ⟨g, h0, h1, h2⟩ => by
    have ih := gone_le cs ss zs (fun x hx => hc x (List.mem_cons_of_mem _ hx)) h2
    have h3 : g ≤ (s + k) / c := Int.le_ediv_of_mul_le (by have := hc c (List.mem_cons_self ..); omega) (by rw [Int.mul_comm]; omega)
    show G ≤ (s + k) / c + fc cs ss k
    omega
theorem gone_end : ∀ (cs ss zs : List Int) {k G : Int}, (∀ c ∈ cs, (2 : Int) ≤ c) → Gone cs ss zs k G → (∀ (i : Nat) (c z : Int), cs[i]? = some c → zs[i]? = some z → z < c) → G = fc cs ss k ∧ zs = lf cs ss k
  | [], [], [], _, G, _, h, _ => by
    have e : G = 0 := h
    simp [fc, lf, e]
  | c :: cs, s :: ss, z :: zs, k, G, hc, ⟨g, h0, h1, h2⟩, hz => by
    have ih := gone_end cs ss zs (fun x hx => hc x (List.mem_cons_of_mem _ hx)) h2 (fun i c z a b => hz (i + 1) c z (by simpa using a) (by simpa using b))
    have hlt : z < c := hz 0 c z rfl rfl
    have c2 := hc c (List.mem_cons_self ..)
    have e1 : s + k = z + c * g := by omega
    have h3 : (s + k) / c = g := by
      rw [e1, Int.add_mul_ediv_left _ _ (by omega), Int.ediv_eq_zero_of_lt h0 hlt]
      omega
    have h4 : (s + k) % c = z := by
      rw [e1, Int.add_mul_emod_self_left, Int.emod_eq_of_lt h0 hlt]
    refine ⟨?_, ?_⟩
    · show G = (s + k) / c + fc cs ss k
      omega
    · show z :: zs = (s + k) % c :: lf cs ss k
      rw [h4, ih.2]
def lsum : List Int → Int
  | [] => 0
  | z :: zs => z + lsum zs
theorem gone_nonneg : ∀ (cs ss zs : List Int) {k G : Int}, Gone cs ss zs k G → ∀ z ∈ zs, (0 : Int) ≤ z
  | [], [], [], _, _, _ => fun z hz => nomatch hz
  | c :: cs, s :: ss, z :: zs, k, G, ⟨g, h0, h1, h2⟩ => fun x hx => by
    rcases List.mem_cons.mp hx with e | e
    · rw [e]
      exact h0
    · exact gone_nonneg cs ss zs h2 x e
theorem lsum_nonneg : ∀ (zs : List Int), (∀ z ∈ zs, (0 : Int) ≤ z) → 0 ≤ lsum zs
  | [], _ => by simp [lsum]
  | z :: zs, h => by
    have := lsum_nonneg zs (fun x hx => h x (List.mem_cons_of_mem _ hx))
    have := h z (List.mem_cons_self ..)
    show 0 ≤ z + lsum zs
    omega
theorem lsum_ride : ∀ (zs : List Int), lsum (zs.map (· + 1)) = lsum zs + zs.length
  | [] => by simp [lsum]
  | z :: zs => by
    have := lsum_ride zs
    show z + 1 + lsum (zs.map (· + 1)) = z + lsum zs + ((zs.length + 1 : Nat) : Int)
    omega
theorem lsum_give : ∀ (zs : List Int) (i : Nat) {z c : Int}, zs[i]? = some z → lsum (zs.set i (z - c)) = lsum zs - c
  | [], _, _, _, h => by simp at h
  | x :: zs, 0, z, c, h => by
    have e : x = z := Option.some.inj h
    subst e
    show x - c + lsum zs = x + lsum zs - c
    omega
  | x :: zs, i + 1, z, c, h => by
    have := lsum_give zs i (c := c) (show zs[i]? = some z by simpa using h)
    show x + lsum (zs.set i (z - c)) = x + lsum zs - c
    omega
/-! ### common multiples of any kind -/
theorem pq_scale : ∀ (cs : List Int) {P W : Int}, (∀ c ∈ cs, (2 : Int) ≤ c) → (∀ c ∈ cs, c ∣ P) → (∀ c ∈ cs, c ∣ W) → pq P cs * W = pq W cs * P
  | [], _, _, _, _, _ => by simp [pq]
  | c :: cs, P, W, hc, hP, hW => by
    have ih := pq_scale cs (P := P) (W := W) (fun x hx => hc x (List.mem_cons_of_mem _ hx)) (fun x hx => hP x (List.mem_cons_of_mem _ hx)) (fun x hx => hW x (List.mem_cons_of_mem _ hx))
    have c2 := hc c (List.mem_cons_self ..)
    obtain ⟨p, hp⟩ := hP c (List.mem_cons_self ..)
    obtain ⟨w, hw⟩ := hW c (List.mem_cons_self ..)
    have e1 : P / c = p := by rw [hp]; exact Int.mul_ediv_cancel_left _ (by omega)
    have e2 : W / c = w := by rw [hw]; exact Int.mul_ediv_cancel_left _ (by omega)
    show (P / c + pq P cs) * W = (W / c + pq W cs) * P
    rw [Int.add_mul, Int.add_mul, ih, e1, e2]
    have e3 : p * W = w * P := by
      rw [hp, hw, Int.mul_left_comm p c w, Int.mul_left_comm w c p, Int.mul_comm p w]
    omega
theorem pays_any {cs : List Int} {P W : Int} (hc : ∀ c ∈ cs, (2 : Int) ≤ c) (hP : ∀ c ∈ cs, c ∣ P) (hW : ∀ c ∈ cs, c ∣ W) (p1 : 1 ≤ P) (w1 : 1 ≤ W) : P ≤ pq P cs ↔ W ≤ pq W cs := by
  have e := pq_scale cs hc hP hW
  constructor
  · intro h
    have h1 : P * W ≤ pq P cs * W := Int.mul_le_mul_of_nonneg_right h (by omega)
    rw [e] at h1
    rw [Int.mul_comm P W] at h1
    exact Int.le_of_mul_le_mul_right h1 (by omega)
  · intro h
    have h1 : W * P ≤ pq W cs * P := Int.mul_le_mul_of_nonneg_right h (by omega)
    rw [← e] at h1
    rw [Int.mul_comm W P] at h1
    exact Int.le_of_mul_le_mul_right h1 (by omega)
theorem never_any {cs ss : List Int} {r W : Int} (hC : Cards cs) (hl : cs.length = ss.length) (w1 : 1 ≤ W) (hW : ∀ c ∈ cs, c ∣ W) (hp : W ≤ pq W cs) (h : ∀ m, 0 ≤ m → m < W → m < r + fc cs ss m) : Never cs r ss := by
  intro m hm
  have e : m = m % W + W * (m / W) := (Int.emod_add_mul_ediv m W).symm
  have h0 := Int.emod_nonneg m (show W ≠ 0 by omega)
  have h1 := Int.emod_lt_of_pos m (show 0 < W by omega)
  have h2 := h _ h0 h1
  have hq : 0 ≤ m / W := Int.ediv_nonneg hm (by omega)
  have h3 := fc_per cs ss (m := m % W) (P := W) (q := m / W) hl (fun c hc => (hC.2.2 c hc).1) hW
  have h4 : (m / W) * W ≤ (m / W) * pq W cs := Int.mul_le_mul_of_nonneg_left hp hq
  rw [← e] at h3
  rw [h3]
  rw [Int.mul_comm] at h4
  omega
end FR
namespace FR
/-! ### no more than 4000 rides where few are begun with, and they wear off -/
def w3_b (a b c : Nat) : Bool := !(decide (2 ≤ a) && decide (2 ≤ b) && decide (2 ≤ c) && decide (b * c + (a * c + a * b) < a * (b * c))) || decide (4012 / a + (4012 / b + 4012 / c) ≤ 3916)
theorem w3_all : ((List.range 21).all fun a => (List.range 21).all fun b => (List.range 21).all fun c => w3_b a b c) = true := by decide +kernel
theorem w3_nat (a : Nat) (ha : a < 21) (b : Nat) (hb : b < 21) (c : Nat) (hc : c < 21) (a2 : 2 ≤ a) (b2 : 2 ≤ b) (c2 : 2 ≤ c) (h : b * c + (a * c + a * b) < a * (b * c)) : 4012 / a + (4012 / b + 4012 / c) ≤ 3916 := by
  have h1 := List.all_eq_true.mp w3_all a (List.mem_range.mpr ha)
  have h2 := List.all_eq_true.mp h1 b (List.mem_range.mpr hb)
  have h3 := List.all_eq_true.mp h2 c (List.mem_range.mpr hc)
  unfold w3_b at h3
  rw [decide_eq_true a2, decide_eq_true b2, decide_eq_true c2, decide_eq_true h] at h3
  exact of_decide_eq_true h3
theorem w2_nat : ∀ a : Nat, a < 21 → ∀ b : Nat, b < 21 → 2 ≤ a → 2 ≤ b → b + a < a * b → 4012 / a + 4012 / b ≤ 3916 := by decide +kernel
theorem as_nat {a : Int} (h2 : 2 ≤ a) (h20 : a ≤ 20) : ∃ n : Nat, a = (n : Int) ∧ n < 21 ∧ 2 ≤ n := ⟨a.toNat, by omega, by omega, by omega⟩
theorem few {s c : Int} (h : s ≤ 12) (hc : 2 ≤ c) : (s + 4000) / c ≤ 4012 / c := Int.ediv_le_ediv (by omega) (by omega)
theorem wears_few : ∀ {cs ss : List Int}, Cards cs → cs.length = ss.length → pq (perOf cs) cs < perOf cs → (∀ s ∈ ss, s ≤ 12) → fc cs ss 4000 ≤ 3916
  | [a], [s], hC, _, hp, hs => by
    obtain ⟨a2, a20⟩ := hC.2.2 a (by simp)
    have h1 := few (hs s (by simp)) a2
    have h2 : (4012 : Int) / a ≤ 4012 / 2 := div_anti (by omega) (by omega) a2
    show (s + 4000) / a + 0 ≤ 3916
    omega
  | [a, b], [s, t], hC, _, hp, hs => by
    obtain ⟨a2, a20⟩ := hC.2.2 a (by simp)
    obtain ⟨b2, b20⟩ := hC.2.2 b (by simp)
    have h1 := few (hs s (by simp)) a2
    have h2 := few (hs t (by simp)) b2
    obtain ⟨p1, _, p3⟩ := perOf_ok hC
    have hd : ∀ c ∈ [a, b], c ∣ a * b := by
      intro c hc
      simp only [List.mem_cons, List.not_mem_nil, or_false] at hc
      rcases hc with e | e <;> rw [e]
      · exact Int.dvd_mul_right a b
      · exact Int.dvd_mul_left a b
    have w1 : 1 ≤ a * b := by
      have := Int.mul_le_mul (show 1 ≤ a by omega) (show 1 ≤ b by omega) (by omega) (by omega)
      omega
    have hw : ¬ a * b ≤ pq (a * b) [a, b] := fun z => by
      have := (pays_any (fun c hc => (hC.2.2 c hc).1) hd p3 w1 p1).mp z
      omega
    have e1 : pq (a * b) [a, b] = b + (a + 0) := by
      show a * b / a + (a * b / b + 0) = b + (a + 0)
      rw [Int.mul_ediv_cancel_left _ (by omega), Int.mul_ediv_cancel _ (by omega)]
    rw [e1] at hw
    obtain ⟨n, rfl, n21, n2⟩ := as_nat a2 a20
    obtain ⟨m, rfl, m21, m2⟩ := as_nat b2 b20
    have := w2_nat n n21 m m21 n2 m2 (by have : ((m + n : Nat) : Int) < ((n * m : Nat) : Int) := by rw [Int.natCast_mul]; omega
                                         omega)
    show (s + 4000) / (n : Int) + ((t + 4000) / (m : Int) + 0) ≤ 3916
    have g1 : (4012 : Int) / (n : Int) = ((4012 / n : Nat) : Int) := rfl
    have g2 : (4012 : Int) / (m : Int) = ((4012 / m : Nat) : Int) := rfl
    omega
  | [a, b, c], [s, t, u], hC, _, hp, hs => by
    obtain ⟨a2, a20⟩ := hC.2.2 a (by simp)
    obtain ⟨b2, b20⟩ := hC.2.2 b (by simp)
    obtain ⟨c2, c20⟩ := hC.2.2 c (by simp)
    have h1 := few (hs s (by simp)) a2
    have h2 := few (hs t (by simp)) b2
    have h3 := few (hs u (by simp)) c2
    obtain ⟨p1, _, p3⟩ := perOf_ok hC
    have hd : ∀ x ∈ [a, b, c], x ∣ a * (b * c) := by
      intro x hx
      simp only [List.mem_cons, List.not_mem_nil, or_false] at hx
      rcases hx with e | e | e <;> rw [e]
      · exact Int.dvd_mul_right a _
      · exact Int.dvd_trans (Int.dvd_mul_right b c) (Int.dvd_mul_left a (b * c))
      · exact Int.dvd_trans (Int.dvd_mul_left b c) (Int.dvd_mul_left a (b * c))
    have w0 : 1 ≤ b * c := by
      have := Int.mul_le_mul (show 1 ≤ b by omega) (show 1 ≤ c by omega) (by omega) (by omega)
      omega
    have w1 : 1 ≤ a * (b * c) := by
      have := Int.mul_le_mul (show 1 ≤ a by omega) w0 (by omega) (by omega)
      omega
    have hw : ¬ a * (b * c) ≤ pq (a * (b * c)) [a, b, c] := fun z => by
      have := (pays_any (fun c hc => (hC.2.2 c hc).1) hd p3 w1 p1).mp z
      omega
    have e1 : pq (a * (b * c)) [a, b, c] = b * c + (a * c + (a * b + 0)) := by
      show a * (b * c) / a + (a * (b * c) / b + (a * (b * c) / c + 0)) = _
      rw [Int.mul_ediv_cancel_left _ (by omega), Int.mul_left_comm a b c, Int.mul_ediv_cancel_left _ (by omega), Int.mul_left_comm b a c, ← Int.mul_assoc, Int.mul_ediv_cancel _ (by omega)]
    rw [e1] at hw
    obtain ⟨n, rfl, n21, n2⟩ := as_nat a2 a20
    obtain ⟨m, rfl, m21, m2⟩ := as_nat b2 b20
    obtain ⟨l, rfl, l21, l2⟩ := as_nat c2 c20
    have := w3_nat n n21 m m21 l l21 n2 m2 l2 (by
      have z : ((m * l + (n * l + n * m) : Nat) : Int) < ((n * (m * l) : Nat) : Int) := by
        rw [Int.natCast_add, Int.natCast_add, Int.natCast_mul, Int.natCast_mul, Int.natCast_mul, Int.natCast_mul, Int.natCast_mul]
        omega
      omega)
    show (s + 4000) / (n : Int) + ((t + 4000) / (m : Int) + ((u + 4000) / (l : Int) + 0)) ≤ 3916
    have g1 : (4012 : Int) / (n : Int) = ((4012 / n : Nat) : Int) := rfl
    have g2 : (4012 : Int) / (m : Int) = ((4012 / m : Nat) : Int) := rfl
    have g3 : (4012 : Int) / (l : Int) = ((4012 / l : Nat) : Int) := rfl
    omega
  | [], _, hC, _, _, _ => absurd hC.1 (by simp)
  | _ :: _ :: _ :: _ :: _, _, hC, _, _, _ => absurd hC.2.1 (by simp)
theorem least_4000 {cs ss : List Int} {r t : Int} (hC : Cards cs) (hl : cs.length = ss.length) (hp : pq (perOf cs) cs < perOf cs) (hs : ∀ s ∈ ss, s ≤ 12) (hr : r ≤ 84) (h : Least cs r ss t) : t ≤ 4000 := by
  have h1 := wears_few hC hl hp hs
  by_cases c : t ≤ 4000
  · exact c
  · have := h.2.2 4000 (by omega) (by omega)
    omega
end FR
namespace FR
theorem pow20 {i : Nat} (h : i ≤ 3) : (20 : Int) ^ i ≤ 8000 := by
  have h3 : i = 0 ∨ i = 1 ∨ i = 2 ∨ i = 3 := by omega
  rcases h3 with e | e | e | e <;> rw [e] <;> decide
theorem whole_step {f c g : Int} (f1 : 1 ≤ f) (c2 : 2 ≤ c) (g0 : 0 < g) (gf : g ∣ f) (gc : g ∣ c) : 1 ≤ f * c / g ∧ f * c / g ≤ f * c ∧ f ∣ f * c / g ∧ c ∣ f * c / g := by
  obtain ⟨c', hc⟩ := gc
  obtain ⟨f', hf⟩ := gf
  have e1 : f * c / g = f * c' := by
    rw [hc, Int.mul_left_comm, Int.mul_ediv_cancel_left _ (by omega)]
  have e2 : f * c / g = f' * c := by
    rw [hf, Int.mul_assoc, Int.mul_ediv_cancel_left _ (by omega)]
  have c1 : 1 ≤ c' := by
    by_cases z : 1 ≤ c'
    · exact z
    · have : g * c' ≤ g * 0 := Int.mul_le_mul_of_nonneg_left (by omega) (by omega)
      omega
  have c3 : c' ≤ c := by
    have : 1 * c' ≤ g * c' := Int.mul_le_mul_of_nonneg_right (by omega) (by omega)
    omega
  have h1 : f * 1 ≤ f * c' := Int.mul_le_mul_of_nonneg_left c1 (by omega)
  have h2 : f * c' ≤ f * c := Int.mul_le_mul_of_nonneg_left c3 (by omega)
  refine ⟨by omega, by omega, ?_, ?_⟩
  · rw [e1]
    exact Int.dvd_mul_right f c'
  · rw [e2]
    exact Int.dvd_mul_left f' c
end FR
namespace FR
theorem least_13 : Least [4] 10 [0] 13 := ⟨by decide, by decide, fun m h0 h1 => by
  show m < 10 + ((0 + m) / 4 + 0)
  omega⟩
theorem least_1 : Least [2, 2] 1 [0, 0] 1 := ⟨by decide, by decide, fun m h0 h1 => by
  show m < 1 + ((0 + m) / 2 + ((0 + m) / 2 + 0))
  omega⟩
theorem never_22 : Never [2, 2] 2 [0, 0] := fun m h0 => by
  show m < 2 + ((0 + m) / 2 + ((0 + m) / 2 + 0))
  omega
theorem most_whole {cs ss : List Int} {r W t : Int} (hC : Cards cs) (hl : cs.length = ss.length) (hp : ¬ pq (perOf cs) cs < perOf cs) (w1 : 1 ≤ W) (hd : ∀ c ∈ cs, c ∣ W) (h : Least cs r ss t) : t ≤ W := by
  by_cases z : t ≤ W
  · exact z
  · obtain ⟨p1, _, p3⟩ := perOf_ok hC
    have hW := (pays_any (fun c hc => (hC.2.2 c hc).1) p3 hd p1 w1).mp (by omega)
    exact (least_never h (never_any hC hl w1 hd hW fun m m0 m1 => h.2.2 m m0 (by omega))).elim
end FR
namespace FR
/-! ### it ends, or never -/
theorem least_search {cs ss : List Int} {r : Int} (hC : Cards cs) (hs : ∀ s ∈ ss, (0 : Int) ≤ s) (hr : 0 ≤ r) : ∀ (n : Nat), (∀ m, 0 ≤ m → m < (n : Int) → m < r + fc cs ss m) ∨ ∃ t, Least cs r ss t
  | 0 => .inl fun m m0 m1 => by omega
  | n + 1 => by
    rcases least_search hC hs hr n with h | h
    · by_cases c : (n : Int) < r + fc cs ss n
      · refine .inl fun m m0 m1 => ?_
        by_cases g : m < (n : Int)
        · exact h m m0 g
        · have e : m = (n : Int) := by omega
          rw [e]
          exact c
      · refine .inr ⟨(n : Int), by omega, ?_, h⟩
        by_cases z : n = 0
        · subst z
          have := fc_nonneg cs ss (n := 0) (fun c hc => (hC.2.2 c hc).1) hs (by omega)
          have e : ((0 : Nat) : Int) = 0 := rfl
          rw [e] at c ⊢
          omega
        · have h1 := h ((n : Int) - 1) (by omega) (by omega)
          have h2 := fc_mono cs ss (m := (n : Int) - 1) (n := (n : Int)) (fun c hc => (hC.2.2 c hc).1) (by omega)
          omega
    · exact .inr h
theorem ends_or {cs ss : List Int} {r : Int} (hC : Cards cs) (hs : ∀ s ∈ ss, (0 : Int) ≤ s) (hr : 0 ≤ r) (h : ∀ t, ¬ Least cs r ss t) : Never cs r ss := by
  intro m m0
  rcases least_search hC hs hr (m.toNat + 1) with g | ⟨t, g⟩
  · exact g m m0 (by omega)
  · exact absurd g (h t)
theorem want_exists (cs ss : List Int) : ∀ n : Nat, ∃ v, Want cs ss 0 (n : Int) v
  | 0 => ⟨0, by omega, fun m m0 m1 => by omega, .inl rfl⟩
  | n + 1 => by
    obtain ⟨v, hv⟩ := want_exists cs ss n
    exact ⟨_, want_step hv (by omega)⟩
theorem want_unique {cs ss : List Int} {n v w : Int} (a : Want cs ss 0 n v) (b : Want cs ss 0 n w) : v = w := by
  have h1 : v ≤ w := by
    rcases a.2.2 with g | ⟨m, m0, m1, g⟩
    · have := b.1
      omega
    · have := b.2.1 m m0 m1
      omega
  have h2 : w ≤ v := by
    rcases b.2.2 with g | ⟨m, m0, m1, g⟩
    · have := a.1
      omega
    · have := a.2.1 m m0 m1
      omega
  omega
/-- from the wanted number on, and from no fewer -/
theorem want_iff {cs ss : List Int} {n v r : Int} (h : Want cs ss 0 n v) (r0 : 0 ≤ r) : (∀ m, 0 ≤ m → m < n → m < r + fc cs ss m) ↔ v ≤ r := by
  constructor
  · intro g
    rcases h.2.2 with e | ⟨m, m0, m1, e⟩
    · omega
    · have := g m m0 m1
      omega
  · intro g m m0 m1
    have := h.2.1 m m0 m1
    omega
theorem least_ge {cs ss : List Int} {r t n : Int} (h : Least cs r ss t) (hC : Cards cs) : n ≤ t ↔ ∀ m, 0 ≤ m → m < n → m < r + fc cs ss m := by
  constructor
  · intro g m m0 m1
    exact h.2.2 m m0 (by omega)
  · intro g
    by_cases c : n ≤ t
    · exact c
    · have := g t h.1 (by omega)
      have := h.2.1
      omega
theorem want_22 {t : Int} (h : Want [2, 2] [0, 0] 0 2 t) : t = 2 := by
  have h1 := h.2.1 1 (by omega) (by omega)
  have e1 : fc [2, 2] [0, 0] 1 = 0 := by decide
  rw [e1] at h1
  have := want_le (cs := [2, 2]) (ss := [0, 0]) ⟨by decide, by decide, by decide⟩ (by decide) (by omega) h
  omega
theorem want_4 {t : Int} (h : Want [4] [0] 0 13 t) : t = 10 := by
  have h1 := h.2.1 12 (by omega) (by omega)
  have e1 : fc [4] [0] 12 = 3 := by decide
  rw [e1] at h1
  rcases h.2.2 with g | ⟨m, m0, m1, g⟩
  · omega
  · have e : fc [4] [0] m = (0 + m) / 4 + 0 := rfl
    rw [e] at g
    omega
end FR
namespace FR
open PySem PySem.Spec PyProof.Rows L2
/-! ### a def that is called: its promise, and where it stands -/
structure Def (P : Program) (w : World) (K : PySem.W.Frag) (mg : Str → Option Value) (base : Heap) (x : Str) (k : Nat) (ps : List Str) (sp : Sp) : Prop where
  ex : ∃ f fd, FnOk P w K mg base CX0 k f fd ps sp ∧ mg x = some (.ref f) ∧ PySem.W.keepIn K (.ref f) = true ∧ Binds K fd ps []
theorem pe_def {X : Cx} {k j : Nat} {ps : List Str} {sp : Sp} {x : Str} {p pos : Pos} {e : Expr} {es : List Expr} {t : TA} (D : Def X.prog X.w X.K X.mg X.base x k ps sp) (hr : Room j X.A) (ha : PA X (e :: es) t) (hg : Gl X x := by rfl) (hl : k ≤ j := by decide)
    (hdb : (x == ("__debug__" : Str)) = false := by decide) (he : starEach (e :: es) X.env = (false, eval e X.env) :: starEach es X.env := by rfl) (hpl : (backTo pos (starEach es X.env)).any (·.1) = false := by rfl) :
    PE X (.Call (.Name x p) (e :: es) [] pos) (tCall sp [] E0 t) := by
  obtain ⟨f, fd, F, m, kp, b⟩ := D.ex
  exact pe_call F (hr.mono hl) hg m kp b .nil pass0 ha hdb he hpl
theorem def_mk {P : Program} {w : World} {K : PySem.W.Frag} {mg : Str → Option Value} {base : Heap} {x : Str} {k : Nat} {ps : List Str} {sp : Sp} {f : Addr} {fd : FuncData} {st : Stmt} (F : Fun K x x st f fd) (ok : FnOk P w K mg base CX0 k f fd ps sp) (m : mg x = some (.ref f)) (b : Binds K fd ps []) : Def P w K mg base x k ps sp :=
  ⟨f, fd, ok, m, F.kp, b⟩
/-! ### heaps: what is kept -/
theorem same_upd {H : Hp} {p : Addr} {o : HO} (h : H p = none) : Same H (upd H p o) := fun b x e => by
  rw [upd_ne (ne_of_none e h)]
  exact e
/-- the two things of a bag: its numbers, its place -/
def BagSh (o : HO) : Prop := ∃ d c, o = .lst [.ref d, .int c]
structure Kp (H H' : Hp) : Prop where
  keep : ∀ a o, H a = some o → ¬ BagSh o → H' a = some o
  bag : ∀ a d c, H a = some (.lst [.ref d, .int c]) → ∃ c', H' a = some (.lst [.ref d, .int c'])
theorem Kp.of {H H' : Hp} (s : Same H H') : Kp H H' := ⟨fun a o e _ => s a o e, fun a d c e => ⟨c, s _ _ e⟩⟩
theorem Kp.refl (H : Hp) : Kp H H := .of (.refl H)
theorem Kp.trans {H H1 H2 : Hp} (x : Kp H H1) (y : Kp H1 H2) : Kp H H2 := by
  refine ⟨fun a o e n => y.keep a o (x.keep a o e n) n, fun a d c e => ?_⟩
  obtain ⟨c1, e1⟩ := x.bag a d c e
  exact y.bag a d c1 e1
/-- what is new to H may be laid or changed -/
theorem Kp.fresh {H H' : Hp} {p : Addr} {o : HO} (x : Kp H H') (h : H p = none) : Kp H (upd H' p o) := by
  refine ⟨fun a u e n => ?_, fun a d c e => ?_⟩
  · rw [upd_ne (ne_of_none e h)]
    exact x.keep a u e n
  · rw [upd_ne (ne_of_none e h)]
    exact x.bag a d c e
theorem Kp.none {H H' : Hp} {p : Addr} (x : Kp H H') (h : H' p = none) : H p = Option.none := by
  cases q : H p with
  | none => rfl
  | some o =>
    by_cases n : BagSh o
    · obtain ⟨d, c, rfl⟩ := n
      obtain ⟨c', e⟩ := x.bag p d c q
      rw [e] at h
      cases h
    · rw [x.keep p o q n] at h
      cases h
theorem Kp.new {H H' : Hp} {p : Addr} {o : HO} (x : Kp H H') (h : H' p = Option.none) : Kp H (upd H' p o) := x.fresh (x.none h)
theorem ntup {xs : List V} : ¬ BagSh (.tup xs) := fun ⟨_, _, e⟩ => nomatch e
theorem nfrz {ob : Obj} {u : HO} : ¬ BagSh (.frz ob u) := fun ⟨_, _, e⟩ => nomatch e
theorem nint {ns : List Int} : ¬ BagSh (.lst (ns.map V.int)) := by
  rintro ⟨d, c, e⟩
  have e' : ns.map V.int = [.ref d, .int c] := HO.lst.inj e
  cases ns with
  | nil => exact nomatch e'
  | cons n r =>
    have := (List.cons.inj e').1
    exact nomatch this
theorem Kp.tup {K : PySem.W.Frag} {H H' : Hp} {a : Addr} {xs : List V} (x : Kp H H') (h : SqT K H a xs) : SqT K H' a xs := by
  rcases h with (h | ⟨o, h⟩) | h
  · exact .inl (.inl (x.keep _ _ h ntup))
  · exact .inl (.inr ⟨o, x.keep _ _ h nfrz⟩)
  · exact .inr h
theorem Kp.ints {K : PySem.W.Frag} {H H' : Hp} {a : Addr} {ns : List Int} (x : Kp H H') (h : SqL K H a (ns.map V.int)) : SqL K H' a (ns.map V.int) := by
  rcases h with (h | ⟨o, h⟩) | h
  · exact .inl (.inl (x.keep _ _ h nint))
  · exact .inl (.inr ⟨o, x.keep _ _ h nfrz⟩)
  · exact .inr h
/-! ### bags -/
def Bag (H : Hp) (b : Addr) : Prop := ∃ (d : Addr) (c : Int) (ds : List Int), H b = some (.lst [.ref d, .int c]) ∧ H d = some (.lst (ds.map V.int)) ∧ ds.length = 400 ∧ ∀ x ∈ ds, (0 : Int) ≤ x ∧ x < 1000
theorem Kp.bags {H H' : Hp} {b : Addr} (x : Kp H H') (h : Bag H b) : Bag H' b := by
  obtain ⟨d, c, ds, h1, h2, h3⟩ := h
  obtain ⟨c', e⟩ := x.bag b d c h1
  exact ⟨d, c', ds, e, x.keep _ _ h2 nint, h3⟩
/-- the place moves on -/
theorem Kp.bump {H : Hp} {b d : Addr} {c c' : Int} (h : H b = some (.lst [.ref d, .int c])) : Kp H (upd H b (.lst [.ref d, .int c'])) := by
  refine ⟨fun a o e n => ?_, fun a d2 c2 e => ?_⟩
  · rw [upd_ne]
    · exact e
    · rintro rfl
      rw [h] at e
      cases e
      exact n ⟨d, c, rfl⟩
  · by_cases q : a = b
    · subst q
      rw [h] at e
      cases e
      exact ⟨c', upd_same⟩
    · exact ⟨c2, by rw [upd_ne q]; exact e⟩
theorem p0 {n : Int} (h : decide (0 < n) = true := by decide) : 0 < n := of_decide_eq_true h
/-! ### lists -/
theorem get_int {ns : List Int} {i : Nat} (h : i < ns.length) : (ns.map V.int)[i]? = some (.int ns[i]) := by
  rw [List.getElem?_map, List.getElem?_eq_getElem h]
  rfl
theorem at_int {ns : List Int} {k : Int} (h0 : 0 ≤ k) (h : k < (ns.length : Int)) : ∃ v, v ∈ ns ∧ ns[k.toNat]? = some v ∧ atI (ns.map V.int) k = some (.int v) := by
  have hk : k.toNat < ns.length := by omega
  refine ⟨ns[k.toNat], List.getElem_mem hk, List.getElem?_eq_getElem hk, ?_⟩
  exact at_of (j := k.toNat) (by omega) (get_int hk)
theorem get_map {ns : List Int} {i : Nat} {x : V} (h : (ns.map V.int)[i]? = some x) : ∃ v, ns[i]? = some v ∧ x = .int v := by
  rw [List.getElem?_map] at h
  cases q : ns[i]? with
  | none =>
    rw [q] at h
    exact nomatch h
  | some v =>
    rw [q] at h
    exact ⟨v, rfl, (Option.some.inj h).symm⟩
end FR
namespace FR
open PySem PySem.Spec PyProof.Rows L2
theorem nrefs {bs : List Addr} : ¬ BagSh (.lst (bs.map V.ref)) := by
  rintro ⟨d, c, e⟩
  have e' : bs.map V.ref = [.ref d, .int c] := HO.lst.inj e
  match bs, e' with
  | [], e' => exact nomatch e'
  | [_], e' => exact nomatch e'
  | _ :: y :: _, e' =>
    have := (List.cons.inj (List.cons.inj e').2).1
    exact nomatch this
theorem bag_upd {H : Hp} {D b : Addr} {bs : List Addr} {o : HO} (h : Bag H b) (e : H D = some (.lst (bs.map V.ref))) : Bag (upd H D o) b := by
  obtain ⟨d, c, ds, h1, h2, h3, h4⟩ := h
  have n1 : b ≠ D := ne_of h1 e (fun z => nrefs ⟨d, c, z.symm⟩)
  have n2 : d ≠ D := ne_of h2 e (fun z => by
    have z' : ds.map V.int = bs.map V.ref := HO.lst.inj z
    match ds, bs, z' with
    | [], _, _ => exact absurd h3 (by decide)
    | x :: r, [], z' => exact nomatch z'
    | x :: r, y :: t, z' => exact nomatch (List.cons.inj z').1)
  exact ⟨d, c, ds, by rw [upd_ne n1]; exact h1, by rw [upd_ne n2]; exact h2, h3, h4⟩
end FR
namespace FR
open PySem PySem.Spec PyProof.Rows L2
theorem ix_listK (K : PySem.W.Frag) {X : Cx} (h : X.K = K := by rfl) : IxR X (rIxL K) := h ▸ ix_list
theorem ix_tupK (K : PySem.W.Frag) {X : Cx} (h : X.K = K := by rfl) : IxR X (rIxT K) := h ▸ ix_tup
theorem call_len_seqK (K : PySem.W.Frag) {X : Cx} (h : X.K = K := by rfl) : CallR X (.builtin "len") (fun xs H Q => ∃ p ys, xs = [.ref p] ∧ (SqL K H p ys ∨ SqT K H p ys) ∧ Q (.int ys.length) H) := h ▸ call_len_seq
end FR
namespace FR
open PySem PySem.Spec PyProof.Rows L2
/-! ### data of any depth -/
theorem dp_len {K : PySem.W.Frag} {H : Hp} : ∀ {xs : List V} {ds : List PyData}, DpAll K H xs ds → xs.length = ds.length
  | _, _, .nil => rfl
  | _, _, .cons _ t => congrArg (· + 1) (dp_len t)
theorem dp_get {K : PySem.W.Frag} {H : Hp} : ∀ {xs : List V} {ds : List PyData} {i : Nat} {x : V}, DpAll K H xs ds → xs[i]? = some x → ∃ d, ds[i]? = some d ∧ Dp K H x d
  | _, _, i, _, .nil, e => by simp at e
  | _, _, 0, _, .cons h _, e => ⟨_, rfl, (Option.some.inj e) ▸ h⟩
  | _, _, i + 1, x, .cons (vs := vs) (ds := ds) _ t, e => by
    have e' : vs[i]? = some x := by simpa using e
    obtain ⟨d, h1, h2⟩ := dp_get t e'
    exact ⟨d, by simpa using h1, h2⟩
theorem Same.seqT {K : PySem.W.Frag} {H H' : Hp} {a : Addr} {xs : List V} (e : Same H H') (h : SqT K H a xs) : SqT K H' a xs := by
  rcases h with (h | ⟨o, h⟩) | h
  · exact .inl (.inl (e _ _ h))
  · exact .inl (.inr ⟨o, e _ _ h⟩)
  · exact .inr h
mutual
theorem Same.dp {K : PySem.W.Frag} {H H' : Hp} (e : Same H H') : ∀ {x : V} {d : PyData}, Dp K H x d → Dp K H' x d
  | _, _, .non => .non
  | _, _, .bl b => .bl b
  | _, _, .int b => .int b
  | _, _, .str b => .str b
  | _, _, .lst s t => .lst (L2.Same.seq e s) (Same.dpa e t)
  | _, _, .tup s t => .tup (Same.seqT e s) (Same.dpa e t)
theorem Same.dpa {K : PySem.W.Frag} {H H' : Hp} (e : Same H H') : ∀ {x : List V} {d : List PyData}, DpAll K H x d → DpAll K H' x d
  | _, _, .nil => .nil
  | _, _, .cons h t => .cons (Same.dp e h) (Same.dpa e t)
end
theorem dp_ints {K : PySem.W.Frag} {H : Hp} : ∀ (ns : List Int), DpAll K H (ns.map V.int) (ns.map PyData.int)
  | [] => .nil
  | n :: r => .cons (.int n) (dp_ints r)
theorem tyT {K : PySem.W.Frag} {H : Hp} {a : Addr} {xs : List V} (h : SqT K H a xs) : TyX K H (.ref a) (.type "tuple") := by
  rcases h with (h | ⟨o, h⟩) | ⟨o, _, _, h, c, _⟩
  · exact .base (.tup h)
  · exact .fTuple h
  · exact .kTuple h c
theorem tyL {K : PySem.W.Frag} {H : Hp} {a : Addr} {xs : List V} (h : SqL K H a xs) : TyX K H (.ref a) (.type "list") := by
  rcases h with (h | ⟨o, h⟩) | ⟨o, _, _, h, c, _⟩
  · exact .base (.lst h)
  · exact .base (.frz h)
  · exact .kList h c
/-! ### what the program tells of data -/
def withinD (lo hi : Int) : PyData → Bool
  | .int i => decide (lo ≤ i) && decide (i ≤ hi)
  | _ => false
def cardsD : PyData → Bool
  | .tuple ds => decide (1 ≤ ds.length) && decide (ds.length ≤ 3) && ds.all (withinD 2 20)
  | _ => false
def stampsD (n : Nat) : PyData → Bool
  | .tuple ds => decide (ds.length = n) && ds.all (withinD 0 1000000000000000000)
  | _ => false
def purseD (n : Nat) : PyData → Bool
  | .tuple [r, s] => withinD 0 1000000000000000000 r && stampsD n s
  | _ => false
theorem all_ints {lo hi : Int} {ns : List Int} (h : ∀ c ∈ ns, lo ≤ c ∧ c ≤ hi) : (ns.map PyData.int).all (withinD lo hi) = true := by
  rw [List.all_map, List.all_eq_true]
  intro c hc
  obtain ⟨h1, h2⟩ := h c hc
  show (decide (lo ≤ c) && decide (c ≤ hi)) = true
  rw [decide_eq_true h1, decide_eq_true h2]
  rfl
theorem cardsD_ok {cs : List Int} (h : Cards cs) : cardsD (.tuple (cs.map PyData.int)) = true := by
  show (decide (1 ≤ (cs.map PyData.int).length) && decide ((cs.map PyData.int).length ≤ 3) && (cs.map PyData.int).all (withinD 2 20)) = true
  rw [List.length_map, all_ints h.2.2, decide_eq_true h.1, decide_eq_true h.2.1]
  rfl
def Stamps (n : Nat) (ss : List Int) : Prop := ss.length = n ∧ ∀ x ∈ ss, (0 : Int) ≤ x ∧ x ≤ 1000000000000000000
theorem stampsD_ok {n : Nat} {ss : List Int} (h : Stamps n ss) : stampsD n (.tuple (ss.map PyData.int)) = true := by
  show (decide ((ss.map PyData.int).length = n) && (ss.map PyData.int).all (withinD 0 1000000000000000000)) = true
  rw [List.length_map, all_ints h.2, decide_eq_true h.1]
  rfl
/-- a purse as it stands -/
def Purse (K : PySem.W.Frag) (H : Hp) (p : Addr) (r : Int) (ss : List Int) : Prop := ∃ sA, SqT K H p [.int r, .ref sA] ∧ SqT K H sA (ss.map V.int)
theorem Purse.dp {K : PySem.W.Frag} {H : Hp} {p : Addr} {r : Int} {ss : List Int} (h : Purse K H p r ss) : Dp K H (.ref p) (.tuple [.int r, .tuple (ss.map PyData.int)]) := by
  obtain ⟨sA, h1, h2⟩ := h
  exact .tup h1 (.cons (.int r) (.cons (.tup h2 (dp_ints ss)) .nil))
theorem purseD_ok {n : Nat} {r : Int} {ss : List Int} (h0 : 0 ≤ r) (h1 : r ≤ 1000000000000000000) (h : Stamps n ss) : purseD n (.tuple [.int r, .tuple (ss.map PyData.int)]) = true := by
  show ((decide (0 ≤ r) && decide (r ≤ 1000000000000000000)) && stampsD n (.tuple (ss.map PyData.int))) = true
  rw [stampsD_ok h, decide_eq_true h0, decide_eq_true h1]
  rfl
theorem Purse.same {K : PySem.W.Frag} {H H' : Hp} {p : Addr} {r : Int} {ss : List Int} (e : Same H H') (h : Purse K H p r ss) : Purse K H' p r ss := by
  obtain ⟨sA, h1, h2⟩ := h
  exact ⟨sA, Same.seqT e h1, Same.seqT e h2⟩
theorem Purse.kp {K : PySem.W.Frag} {H H' : Hp} {p : Addr} {r : Int} {ss : List Int} (e : Kp H H') (h : Purse K H p r ss) : Purse K H' p r ss := by
  obtain ⟨sA, h1, h2⟩ := h
  exact ⟨sA, e.tup h1, e.tup h2⟩
theorem same_fresh {H H' : Hp} {p : Addr} {o : HO} (x : Same H H') (h : H p = none) : Same H (upd H' p o) := fun b u e => by
  rw [upd_ne (ne_of_none e h)]
  exact x b u e
theorem same_new {H H' : Hp} {p : Addr} {o : HO} (x : Same H H') (h : H' p = none) : Same H (upd H' p o) := same_fresh x (x.free h)
theorem take_map {α β : Type} {l : List α} {i : Nat} {z : α} (f : α → β) (h : l[i]? = some z) : (l.take (i + 1)).map f = (l.take i).map f ++ [f z] := by
  rw [List.take_add_one, h, List.map_append]
  rfl
/-- a comprehension over two tuples, one beside the other -/
theorem lc_zipT {K : PySem.W.Frag} {a b : Addr} {xs ys : List V} {g : TG} {tt : TT} {te : TE} {vs : List Nat} {σ : L2.St} {H1 : Hp} {D : Addr} {Qd : Hp → Prop} (hl : xs.length = ys.length) (Pv : Nat → Hp → Prop) (h0 : Pv 0 (upd H1 D (.lst []))) (hq : ∀ i H, Pv i H → SqT K H a xs ∧ SqT K H b ys)
    (hs : ∀ (i : Nat) (x y : V) (T : Addr) (H : Hp), xs[i]? = some x → ys[i]? = some y → Pv i H → H T = none → g (.ref T) (wipe σ vs) (upd H T (.tup [x, y])) fun σ2 H2 => wipe σ2 vs = wipe σ vs ∧ tt σ2 H2 fun b H3 =>
      if b = true then te σ2 H3 fun y H4 => ∃ acc, H4 D = some (.lst acc) ∧ acc.length < sizeLine ∧ Pv (i + 1) (upd H4 D (.lst (acc ++ [y]))) else Pv (i + 1) H3) (hd : ∀ H, Pv xs.length H → Qd H) :
    ∃ W : Nat → Nat → Hp → Prop, (∃ m, W 0 m (upd H1 D (.lst []))) ∧ ∀ i m H, W i m H →
      ((RZ.ItzT K a b).stop i H ∧ Qd H) ∨ ((RZ.ItzT K a b).go i H ∧ ∃ Nx : Hp → Prop, (∀ H', Nx H' → ∃ m', m' < m ∧ W (i + 1) m' H') ∧ ∀ x H', (RZ.ItzT K a b).yld i H x H' → g x (wipe σ vs) H' fun σ2 H2 => wipe σ2 vs = wipe σ vs ∧ tt σ2 H2 fun b H3 =>
        if b = true then te σ2 H3 fun y H4 => ∃ acc, H4 D = some (.lst acc) ∧ acc.length < sizeLine ∧ Nx (upd H4 D (.lst (acc ++ [y]))) else Nx H3) := by
  refine ⟨fun i m H => m = xs.length - i ∧ i ≤ xs.length ∧ Pv i H, ⟨xs.length, rfl, Nat.zero_le _, h0⟩, ?_⟩
  rintro i m H ⟨rfl, hi, p⟩
  obtain ⟨qx, qy⟩ := hq i H p
  by_cases hlt : i < xs.length
  · have g1 : xs[i]? = some xs[i] := List.getElem?_eq_getElem hlt
    have g2 : ys[i]? = some ys[i] := List.getElem?_eq_getElem (by omega)
    refine .inr ⟨⟨_, _, _, _, qx, qy, g1, g2⟩, Pv (i + 1), fun H' p' => ⟨xs.length - (i + 1), by omega, rfl, hlt, p'⟩, fun x H' y => ?_⟩
    obtain ⟨T, x1, x2, rfl, nT, rfl, f1, f2⟩ := y
    exact hs i x1 x2 T H (f1 _ qx) (f2 _ qy) p nT
  · have e : i = xs.length := by omega
    subst e
    exact .inl ⟨⟨_, _, qx, qy, .inl (Nat.le_refl _)⟩, hd H p⟩
end FR
namespace FR
open PySem PySem.Spec PyProof.Rows L2
theorem len2 {α : Type} : ∀ {xs : List α}, xs.length = 2 → ∃ x y, xs = [x, y]
  | [x, y], _ => ⟨x, y, rfl⟩
theorem dp_two {K : PySem.W.Frag} {H : Hp} {x y : V} {ds : List PyData} (h : DpAll K H [x, y] ds) : ∃ d e, ds = [d, e] ∧ Dp K H x d ∧ Dp K H y e := by
  cases h with
  | cons h1 t =>
    cases t with
    | cons h2 u =>
      cases u with
      | nil => exact ⟨_, _, rfl, h1, h2⟩
theorem purse_not2 {n : Nat} : ∀ {ds : List PyData}, ds.length ≠ 2 → purseD n (.tuple ds) = false
  | [], _ => rfl
  | [_], _ => rfl
  | [_, _], h => absurd rfl h
  | _ :: _ :: _ :: _, _ => rfl
end FR
namespace FR
open PySem PySem.Spec PyProof.Rows L2
/-- what is told of a purse -/
def ToldV (cs : List Int) (r : Int) (ss : List Int) : V → Prop
  | .int t => Least cs r ss t
  | .non => Never cs r ss
  | _ => False
def LeftV (cs : List Int) (r : Int) (ss : List Int) (v : V) (H : Hp) : Prop :=
  (v = .non ∧ Never cs r ss) ∨ ∃ (p : Addr) (t : Int), v = .ref p ∧ H p = some (.tup ((lf cs ss t).map V.int)) ∧ Least cs r ss t
end FR
namespace FR
open PySem PySem.Spec PyProof.Rows L2
/-- no fewer are told where no fewer are paid for -/
theorem nf_of {cs ss cs' ss' : List Int} {r r' : Int} {v v' : V} (h : ToldV cs r ss v) (h' : ToldV cs' r' ss' v') (mono : ∀ m, 0 ≤ m → r + fc cs ss m ≤ r' + fc cs' ss' m) : v' = .non ∨ ∃ i j, v' = .int i ∧ v = .int j ∧ j ≤ i := by
  match v', h' with
  | .non, _ => exact .inl rfl
  | .int t', h' =>
    obtain ⟨a0, a1, a2⟩ := h'
    have m1 := mono t' a0
    match v, h with
    | .non, h =>
      have := h t' a0
      omega
    | .int t, h =>
      obtain ⟨b0, b1, b2⟩ := h
      refine .inr ⟨t', t, rfl, rfl, ?_⟩
      by_cases c : t' < t
      · have := b2 t' a0 c
        omega
      · omega
/-- a slice of a tuple, a sum of two: whatever is laid -/
theorem rd_slA {K : PySem.W.Frag} {H : Hp} {Q : VK} {a : Addr} {xs : List V} {lo hi : Option Int} (h : SqT K H a xs) (q : ∀ b H', Same H H' → SqT K H' b (cutV xs lo hi) → Q (.ref b) H') : rSlA K (.ref a) lo hi H Q := by
  refine ⟨a, xs, rfl, h, fun c => ?_, fun c p np => q p _ (same_upd np) (SqT.of upd_same)⟩
  refine q a H (.refl H) ?_
  unfold cutV
  rw [c.1, c.2, List.drop_zero, Nat.sub_zero, List.take_length]
  exact h
theorem rd_catA {K : PySem.W.Frag} {H : Hp} {Q : VK} {a b : Addr} {xs ys : List V} (h1 : SqT K H a xs) (h2 : SqT K H b ys) (hl : xs.length + ys.length ≤ 1000) (q : ∀ p H', Same H H' → SqT K H' p (xs ++ ys) → Q (.ref p) H') : rCatA K (.ref a) (.ref b) H Q := by
  refine ⟨a, b, xs, ys, rfl, rfl, h1, h2, Nat.le_of_lt (small1000 hl), fun e => ?_, fun _ e => ?_, fun _ _ p np => q p _ (same_upd np) (SqT.of upd_same)⟩
  · subst e
    exact q b H (.refl H) h2
  · subst e
    exact q a H (.refl H) (by rw [List.append_nil]; exact h1)
theorem cut_to {ns : List Int} {k : Int} (h0 : 0 ≤ k) : cutV (ns.map V.int) none (some k) = (ns.take k.toNat).map V.int := by
  unfold cutV
  obtain ⟨n, rfl⟩ : ∃ n : Nat, k = (n : Int) := ⟨k.toNat, by omega⟩
  rw [HT.sIx_none, HT.sIx_nat, List.drop_zero, Nat.sub_zero, List.length_map, List.map_take]
  by_cases c : n ≤ ns.length
  · rw [Nat.min_eq_left c]
    rfl
  · rw [Nat.min_eq_right (by omega), ← List.length_map (f := V.int), List.take_length]
    exact (List.take_of_length_le (by rw [List.length_map]; show ns.length ≤ n; omega)).symm
theorem cut_from {ns : List Int} {k : Int} (h0 : 0 ≤ k) : cutV (ns.map V.int) (some k) none = (ns.drop k.toNat).map V.int := by
  unfold cutV
  obtain ⟨n, rfl⟩ : ∃ n : Nat, k = (n : Int) := ⟨k.toNat, by omega⟩
  rw [HT.sIx_none, HT.sIx_nat, List.length_map, List.map_drop]
  by_cases c : n ≤ ns.length
  · rw [Nat.min_eq_left c, List.take_of_length_le (by rw [List.length_drop, List.length_map]; exact Nat.le_refl _)]
    rfl
  · rw [Nat.min_eq_right (by omega), List.drop_eq_nil_of_le (by rw [List.length_map]; exact Nat.le_refl _), List.take_nil]
    exact (List.drop_eq_nil_of_le (by rw [List.length_map]; show ns.length ≤ n; omega)).symm
theorem Kp.same {H H' : Hp} (s : Same H H') : Kp H H' := .of s
theorem get_ref {bs : List Addr} {i : Nat} {x : V} (h : (bs.map V.ref)[i]? = some x) : ∃ b, b ∈ bs ∧ x = .ref b := by
  rw [List.getElem?_map] at h
  cases q : bs[i]? with
  | none =>
    rw [q] at h
    exact nomatch h
  | some b =>
    rw [q] at h
    exact ⟨b, List.mem_of_getElem? q, (Option.some.inj h).symm⟩
end FR
namespace FR
open PySem PySem.Spec PyProof.Rows L2
theorem lay_ints : ∀ ns : List Int, PyData.canLayAll0 (ns.map PyData.int) = true
  | [] => by simp [PyData.canLayAll0]
  | n :: r => by simp [PyData.canLayAll0, PyData.canLay0, lay_ints r]
theorem deep_ints : ∀ ns : List Int, PyData.depthAll (ns.map PyData.int) = 0
  | [] => by simp [PyData.depthAll]
  | n :: r => by simp [PyData.depthAll, PyData.depth, deep_ints r]
theorem shaped_tup (ns : List Int) : SeqAt.shaped (.tuple (ns.map PyData.int)) = true := by
  unfold SeqAt.shaped
  rw [PyData.canLay0, PyData.depth, lay_ints, deep_ints]
  rfl
theorem eqv_tup (ns : List Int) : PyData.eqv (.tuple (ns.map PyData.int)) (.tuple (ns.map PyData.int)) = true := SeqAt.eqv_refl _ (by rw [PyData.canLay0]; exact lay_ints ns)
theorem iteP {c A B : Prop} [Decidable c] (hc : c) (h : A) : if c then A else B := by
  rw [if_pos hc]
  exact h
theorem iteN {c A B : Prop} [Decidable c] (hc : ¬ c) (h : B) : if c then A else B := by
  rw [if_neg hc]
  exact h
theorem nn_int {t : Int} : (!decide (V.int t = V.non)) = true := by
  rw [decide_eq_false (fun z => nomatch z)]
  rfl
theorem none_ir {t : Int} {o : Addr} : V.bl (decide (V.int t = .non)) = V.bl (decide (V.ref o = .non)) := by
  rw [decide_eq_false (fun z => nomatch z), decide_eq_false (fun z => nomatch z)]
theorem told_never {cs ss : List Int} {r : Int} {v : V} (h : ToldV cs r ss v) (n : Never cs r ss) : v = .non := by
  match v, h with
  | .non, _ => rfl
  | .int t, h => exact (least_never h n).elim
theorem told_least {cs ss : List Int} {r t : Int} {v : V} (h : ToldV cs r ss v) (n : Least cs r ss t) : v = .int t := by
  match v, h with
  | .non, h => exact (least_never n h).elim
  | .int u, h => rw [least_unique h n]
end FR
namespace FR
open PySem PySem.Spec PyProof.Rows L2
theorem rd_slFrom {K : PySem.W.Frag} {σ : L2.St} {H : Hp} {Q : VK} {a : Addr} {xs : List V} {lo : Option Int} (h : SqT K H a xs) (q : ∀ b H', Same H H' → SqT K H' b (cutV xs lo none) → Q (.ref b) H') : tNoPart σ H fun u H3 => rSlA K (.ref a) lo u H3 Q := rd_slA h q
end FR
namespace FR
open PySem PySem.Spec PyProof.Rows L2
/-! ### what the top has left -/
def FunAt (K : PySem.W.Frag) (mg : Str → Option Value) (x : Str) (st : Stmt) : Prop := ∃ f fd, Fun K x x st f fd ∧ mg x = some (.ref f)
theorem funAt_mk {K : PySem.W.Frag} {h : Heap} {mg : Str → Option Value} {x : Str} {st : Stmt} {f : Addr} {od an : Option Addr} {sl : Array (Option Value)} {oc kV dc pm cd ct : Value} (X : K.In h) (G : h.Ns mainGlobals mg)
    (a1 : PySem.W.nsIn K mainGlobals x = some (some (.ref f))) (l1 : K.lookup f = some ⟨oc, od, .func (PySem.W.fnOf x x (defArgs st) (defBody st) (defScope st) .none kV dc pm an cd ct), sl⟩) (c1 : PySem.W.codeIn K cd x = true) (k1 : PySem.W.keepIn K (.ref f) = true) : FunAt K mg x st :=
  ⟨f, _, fun_mk (st := st) l1 c1 k1, PySem.W.mg_of X G a1⟩
theorem FunAt.def {P : Program} {w : World} {K : PySem.W.Frag} {mg : Str → Option Value} {base : Heap} {x : Str} {st : Stmt} {k : Nat} {ps : List Str} {sp : Sp} (F : FunAt K mg x st) (ok : ∀ f fd, Fun K x x st f fd → FnOk P w K mg base CX0 k f fd ps sp)
    (h : ∀ (kV doc pm : Value) (an : Option Addr) (cdv ct : Value) (us : List Value), us.length = ps.length → bindArgs (PySem.W.fnOf x x (defArgs st) (defBody st) (defScope st) .none kV doc pm an cdv ct) ⟨us, []⟩ = pure (ps.zip us)) : Def P w K mg base x k ps sp := by
  obtain ⟨f, fd, F, m⟩ := F
  exact ⟨f, fd, ok f fd F, m, F.kp, F.binds h⟩
end FR
namespace FR
open PySem PySem.Spec PyProof.Rows L2
def FunAtX {K : PySem.W.Frag} {h : Heap} (_ : K.In h) (mg : Str → Option Value) (x : Str) (st : Stmt) : Prop := FunAt K mg x st
end FR
namespace FR
open PySem PySem.Spec PyProof.Rows L2
theorem glob_mk {K : PySem.W.Frag} {h : Heap} {mg : Str → Option Value} {x : Str} {n : Int} {v : Value} (X : K.In h) (G : h.Ns mainGlobals mg) (z : PySem.W.nsIn K mainGlobals x = some (some v)) (e : ∃ t, v = .int n t) : ∃ t, mg x = some (.int n t) := by
  obtain ⟨t, rfl⟩ := e
  exact ⟨t, PySem.W.mg_of X G z⟩
end FR
namespace FR
open PySem PySem.Spec PyProof.Rows L2
def EndlessV (cs ss : List Int) (v : V) : Prop := (v = .non ∧ pq (perOf cs) cs < perOf cs) ∨ ∃ t, v = .int t ∧ perOf cs ≤ pq (perOf cs) cs ∧ Want cs ss 0 (perOf cs) t
theorem at_ref {as : List Addr} {k : Int} (h0 : 0 ≤ k) (h : k < (as.length : Int)) : ∃ a, a ∈ as ∧ atI (as.map V.ref) k = some (.ref a) := by
  have hk : k.toNat < as.length := by omega
  refine ⟨as[k.toNat], List.getElem_mem hk, ?_⟩
  refine at_of (j := k.toNat) (by omega) ?_
  rw [List.getElem?_map, List.getElem?_eq_getElem hk]
  rfl
end FR
namespace FR
open PySem PySem.Spec PyProof.Rows L2
/-! ### deeds -/
def DeedV (n : Nat) (v : V) : Prop := v = .str "ride" ∨ ∃ i : Int, v = .int i ∧ 0 ≤ i ∧ i < (n : Int)
def Can (cs : List Int) (x : Int) (zs : List Int) (v : V) : Prop := (v = .str "ride" ∧ 0 < x) ∨ ∃ (i c z : Int), v = .int i ∧ 0 ≤ i ∧ cs[i.toNat]? = some c ∧ zs[i.toNat]? = some z ∧ c ≤ z
def aftX (x : Int) : V → Int
  | .str _ => x - 1
  | _ => x + 1
def aftS (cs zs : List Int) : V → List Int
  | .str _ => zs.map (· + 1)
  | .int i => zs.set i.toNat (zs.getD i.toNat 0 - cs.getD i.toNat 0)
  | _ => zs
def dD : V → PyData
  | .str x => .str x
  | .int i => .int i
  | _ => .none
theorem deeds_dp {K : PySem.W.Frag} {H : Hp} {n : Nat} : ∀ {xs : List V}, (∀ v ∈ xs, DeedV n v) → DpAll K H xs (xs.map dD)
  | [], _ => .nil
  | v :: xs, h => by
    have h1 := deeds_dp (K := K) (H := H) (xs := xs) (fun x hx => h x (List.mem_cons_of_mem _ hx))
    rcases h v (List.mem_cons_self ..) with rfl | ⟨i, rfl, _, _⟩
    · exact .cons (.str _) h1
    · exact .cons (.int i) h1
theorem ride_ok : PyData.canLay0 (.str "ride") = true := by
  rw [PyData.canLay0]
  decide +kernel
theorem deeds_lay {n : Nat} : ∀ {xs : List V}, (∀ v ∈ xs, DeedV n v) → PyData.canLayAll0 (xs.map dD) = true ∧ PyData.depthAll (xs.map dD) = 0
  | [], _ => by simp [PyData.canLayAll0, PyData.depthAll]
  | v :: xs, h => by
    have h1 := deeds_lay (xs := xs) (fun x hx => h x (List.mem_cons_of_mem _ hx))
    rcases h v (List.mem_cons_self ..) with rfl | ⟨i, rfl, _, _⟩
    · simp only [List.map_cons, dD, PyData.canLayAll0, PyData.depthAll, PyData.depth, ride_ok, h1.1, h1.2]
      exact ⟨rfl, rfl⟩
    · simp only [List.map_cons, dD, PyData.canLayAll0, PyData.canLay0, PyData.depthAll, PyData.depth, h1.1, h1.2]
      exact ⟨rfl, rfl⟩
theorem deeds_shaped {n : Nat} {xs : List V} (h : ∀ v ∈ xs, DeedV n v) : SeqAt.shaped (.list (xs.map dD)) = true := by
  unfold SeqAt.shaped
  rw [PyData.canLay0, PyData.depth, (deeds_lay h).1, (deeds_lay h).2]
  rfl
theorem shaped_nil : SeqAt.shaped (.list []) = true := by
  unfold SeqAt.shaped
  rw [PyData.canLay0, PyData.depth, PyData.canLayAll0, PyData.depthAll]
  rfl
theorem deeds_none {xs : List V} (h : xs = []) : (!PyData.eqv (.list (xs.map dD)) (.list [])) = false := by
  subst h
  rw [PyData.eqv]
  rfl
theorem deeds_some {xs : List V} (h : xs ≠ []) : (!PyData.eqv (.list (xs.map dD)) (.list [])) = true := by
  match xs, h with
  | _ :: _, _ =>
    rw [PyData.eqv]
    rfl
end FR
namespace FR
open PySem PySem.Spec PyProof.Rows L2
theorem ndeeds {n : Nat} {xs : List V} (h : ∀ v ∈ xs, DeedV n v) : ¬ BagSh (.lst xs) := by
  rintro ⟨d, c, e⟩
  have e' : xs = [.ref d, .int c] := HO.lst.inj e
  rcases h (.ref d) (by rw [e']; exact List.mem_cons_self ..) with g | ⟨i, g, _⟩ <;> exact nomatch g
theorem at_any {xs : List V} {k : Int} (h0 : 0 ≤ k) (h : k < (xs.length : Int)) : ∃ v, v ∈ xs ∧ atI xs k = some v := by
  have hk : k.toNat < xs.length := by omega
  exact ⟨xs[k.toNat], List.getElem_mem hk, at_of (j := k.toNat) (by omega) (List.getElem?_eq_getElem hk)⟩
/-- all deeds, in their order -/
def deedsL (n : Int) : List V := [.str "ride"] ++ rgV 0 n
theorem deedsL_len (n : Nat) : (deedsL n).length = n + 1 := by
  unfold deedsL
  rw [List.length_append, rgV_length, List.length_singleton]
  omega
theorem deedsL_mem {n : Nat} {v : V} : v ∈ deedsL n ↔ DeedV n v := by
  unfold deedsL DeedV rgV
  rw [List.mem_append, List.mem_singleton, List.mem_map]
  constructor
  · rintro (h | ⟨i, h1, h2⟩)
    · exact .inl h
    · rw [List.mem_range] at h1
      exact .inr ⟨0 + (i : Int), h2.symm, by omega, by omega⟩
  · rintro (h | ⟨i, rfl, h1, h2⟩)
    · exact .inl h
    · exact .inr ⟨i.toNat, List.mem_range.mpr (by omega), congrArg V.int (by omega)⟩
theorem nn_ref {p : Addr} : (!decide (V.ref p = V.non)) = true := by
  rw [decide_eq_false (fun z => nomatch z)]
  rfl
def OnV (K : PySem.W.Frag) (cs : List Int) (r : Int) (ss : List Int) (most : Int) (v : V) (H : Hp) : Prop :=
  (v = .non ∧ ∀ t, Least cs r ss t → most < t) ∨ ∃ (p s' : Addr) (t : Int), v = .ref p ∧ H p = some (.tup [.int t, .ref s']) ∧ SqT K H s' ((lf cs ss t).map V.int) ∧ Least cs r ss t ∧ t ≤ most
end FR
namespace FR
open PySem PySem.Spec PyProof.Rows L2
theorem shaped_non : SeqAt.shaped .none = true := by
  unfold SeqAt.shaped
  rw [PyData.canLay0, PyData.depth]
  rfl
theorem eqv_non : PyData.eqv .none .none = true := by rw [PyData.eqv]
theorem due_lay (t : Int) (ns : List Int) : PyData.canLay0 (.tuple [.int t, .tuple (ns.map PyData.int)]) = true := by
  rw [PyData.canLay0, PyData.canLayAll0, PyData.canLayAll0, PyData.canLayAll0, PyData.canLay0, PyData.canLay0, lay_ints]
  rfl
theorem due_shaped (t : Int) (ns : List Int) : SeqAt.shaped (.tuple [.int t, .tuple (ns.map PyData.int)]) = true := by
  unfold SeqAt.shaped
  rw [due_lay, PyData.depth, PyData.depthAll, PyData.depthAll, PyData.depthAll, PyData.depth, PyData.depth, deep_ints]
  rfl
theorem due_eqv (t : Int) (ns : List Int) : PyData.eqv (.tuple [.int t, .tuple (ns.map PyData.int)]) (.tuple [.int t, .tuple (ns.map PyData.int)]) = true := SeqAt.eqv_refl _ (due_lay t ns)
theorem SqT.same2 {K : PySem.W.Frag} {H H' : Hp} {a : Addr} {xs : List V} (h : SqT K H a xs) (e : Same H H') : SqT K H' a xs := Same.seqT e h
end FR
set_option maxHeartbeats 1000000
namespace FR
open PySem PySem.Spec PyProof.Rows L2
/-! ### an exception that has come down in the frame of X, ahead of its clauses -/
structure Down (X : Cx) (pins : List (Addr × Obj)) (σ : L2.St) (H : Hp) (B : Heap) (a : Addr) (cls : Value) (d : Option Addr) (t : Shared) : Prop where
  ok : X.Ok
  fly : HandSPX.FlyingZ B (X.env :: X.outer) a (L2N.Zn cls d) t.heap
  none : H a = Option.none
  inv : ∀ g : Heap, HandSPX.FlyingZ B (X.env :: X.outer) a (L2N.Zn cls d) g → t.heap.UpToSlots g → Inv X pins σ H { t with heap := g }
section
variable {X : Cx} {pins : List (Addr × Obj)} {σ : L2.St} {H : Hp} {B : Heap} {a : Addr} {cls : Value} {d : Option Addr} {t : Shared}
theorem Down.apart (Y : Down X pins σ H B a cls d t) (frame : X.env.frame = some X.env.locals) : a ≠ X.env.locals ∧ a ∉ X.fs := by
  obtain ⟨ob, fs, at_, _, isF⟩ := Y.fly.there
  have far : a ∉ frs (X.env :: X.outer) := by
    intro isIn
    obtain ⟨_, ob2, at2, noF⟩ := Y.fly.2.2.1.mem isIn
    rw [at_] at at2
    cases at2
    exact noF _ isF
  constructor
  · intro e
    refine far (List.mem_filterMap.mpr ⟨X.env, List.mem_cons_self, ?_⟩)
    rw [frame, e]
  · intro isIn
    obtain ⟨v, hv, e⟩ := List.mem_filterMap.mp isIn
    exact far (List.mem_filterMap.mpr ⟨v, List.mem_cons_of_mem _ hv, e⟩)
theorem Down.here (Y : Down X pins σ H B a cls d t) : Inv X pins σ H t := Y.inv t.heap Y.fly (Heap.UpToSlots.refl _)
/-- one named clause, whatever clauses follow -/
theorem clause_as {i : Nat} {x n : Str} {c : Value} {first : Stmt} {more : List Stmt} {p1 p2 : Pos} {rest : List ExceptHandler} {ts : Addr → Value → Option Addr → TS} {Wo : WX} {D : Ends} (Y : Down X pins σ H B a cls d t) (frame : X.env.frame = some X.env.locals)
    (nd : X.N.Nodup) (slot : X.N[i]? = some n) (isLoc : X.env.kindOf n = some .local) (nm : Names X x c)
    (suite : ∀ (a : Addr) (oe : Obj) (cls : Value) (d : Option Addr) (pn : List (Addr × Obj)), L2N.Zn cls d oe → (∃ vs, oe.data = .fields vs) → PSs (X.suite a ((a, oe) :: pn)) (first :: more) (ts a cls d))
    (wish : wAs X.K c i ts Wo D cls d σ H) (on : Wo cls d σ H → wpAny (model X.prog X.w) X.A (handleBy (.ref a) X.env rest) (SP X pins D) X.xe t) :
    wpAny (model X.prog X.w) X.A (handleBy (.ref a) X.env (.ExceptHandler (some (.Name x p1)) (some n) (first :: more) p2 :: rest)) (SP X pins D) X.xe t := by
  obtain ⟨offL, offF⟩ := Y.apart frame
  obtain ⟨ob, fs, at_, kind, isF⟩ := Y.fly.there
  have inSuite := Y.here.suite at_ isF Y.none offL offF
  obtain ⟨b, ask, yes, no⟩ := wish
  have asks := PySem.W.exm_one (M := model X.prog X.w) Y.here.kIn (fun _ _ _ _ k q => wpAny_typeOf_ref (k _ _ at_) (by rw [kind.1]; exact q)) ask
  refine wpAny_handleBy_cons (codeAny_handlers_test ?_) (fun z => by cases z)
  have reads : ∀ {Q E : Value → Shared → Prop}, Q c t → wpAny (model X.prog X.w) (X.A.mark (some (.ref a))) (eval (.Name x p1) X.env) Q E t := by
    intro Q E got
    rcases nm with ⟨g, dbg, m | ⟨m, v, ne⟩⟩
    · exact ld_glob (X := X.suite a ((a, ob) :: (X.pn ++ pins))) inSuite g m got dbg
    · exact ld_blt (X := X.suite a ((a, ob) :: (X.pn ++ pins))) inSuite g m v got ne dbg
  refine reads (asks.here ?_)
  cases b with
  | false => exact on (no rfl)
  | true =>
    refine codeAny_handlers_suite_as (HandSPX.lands_againZ Y.fly fun g fly2 up2 => ?_)
    obtain ⟨ob2, fs2, at2, kind2, isF2⟩ := fly2.there
    have inSuite2 := (Y.inv g fly2 up2).suite at2 isF2 Y.none offL offF
    refine store_ok (X := X.suite a ((a, ob2) :: (X.pn ++ pins))) (v := V.ref a) inSuite2 nd slot (.inl isLoc) rfl (fun t5 inv5 => ?_) (.inr isLoc)
    have run := (suite a ob2 cls d (X.pn ++ pins) kind2 ⟨_, isF2⟩).run [] t5 _ H _ inv5 (yes rfl a Y.none)
    refine wpAny_mono run (fun f t6 got => ?_) (fun _ _ z => z.elim)
    have gone : ∀ {σ6 : L2.St} {H6 : Hp} {Q : Shared → Prop}, Inv (X.suite a ((a, ob2) :: (X.pn ++ pins))) [] σ6 H6 t6 → (∀ t7, Inv X pins (σ6.set i Option.none) H6 t7 → Q t7) →
        wpAny (model X.prog X.w) X.A (do bindName X.env n .none; unbindBehindTheSuite X.env n p2) (fun _ => Q) X.xe t6 := fun inv6 q => gone_ok (inv6.unsuite Y.ok) nd slot isLoc q
    match f, got with
    | .next, ⟨_, _, inv6, q6⟩ => exact gone inv6 fun _ inv7 => ⟨_, _, inv7, q6⟩
    | .brk, ⟨_, _, inv6, q6⟩ => exact gone inv6 fun _ inv7 => ⟨_, _, inv7, q6⟩
    | .cont, ⟨_, _, inv6, q6⟩ => exact gone inv6 fun _ inv7 => ⟨_, _, inv7, q6⟩
    | .ret _, ⟨_, _, _, inv6, r6, q6⟩ => exact gone inv6 fun _ inv7 => ⟨_, _, _, inv7, r6, q6⟩
end
/-- try: body, except x1 as n: .., except x2 as n: ..; nothing else comes out of the body -/
theorem ps_try_as2 {X : Cx} {i : Nat} {x1 x2 n : Str} {c1 c2 : Value} {body : List Stmt} {f1 f2 : Stmt} {m1 m2 : List Stmt} {p1 p2 p3 p4 pos : Pos} {tb : WX → TS} {ts1 ts2 : Addr → Value → Option Addr → TS}
    (stk : X.stack = X.env :: X.outer) (frame : X.env.frame = some X.env.locals) (nd : X.N.Nodup) (slot : X.N[i]? = some n) (isLoc : X.env.kindOf n = some .local) (nm1 : Names X x1 c1) (nm2 : Names X x2 c2)
    (hb : ∀ (W : WX) (pn : List (Addr × Obj)) (xe : Value → Shared → Prop), L2N.Takes (X.tr pn xe) W → PassesOwn (model X.prog X.w) X.A X.env xe → PSs (X.tr pn xe) body (tb W))
    (s1 : ∀ (a : Addr) (oe : Obj) (cls : Value) (d : Option Addr) (pn : List (Addr × Obj)), L2N.Zn cls d oe → (∃ vs, oe.data = .fields vs) → PSs (X.suite a ((a, oe) :: pn)) (f1 :: m1) (ts1 a cls d))
    (s2 : ∀ (a : Addr) (oe : Obj) (cls : Value) (d : Option Addr) (pn : List (Addr × Obj)), L2N.Zn cls d oe → (∃ vs, oe.data = .fields vs) → PSs (X.suite a ((a, oe) :: pn)) (f2 :: m2) (ts2 a cls d)) :
    PS X (.Try body [.ExceptHandler (some (.Name x1 p1)) (some n) (f1 :: m1) p2, .ExceptHandler (some (.Name x2 p3)) (some n) (f2 :: m2) p4] [] [] pos)
      (fun D σ H => tb (wAs X.K c1 i ts1 (wAs X.K c2 i ts2 (fun _ _ _ _ => False) D) D) D σ H) := by
  refine ⟨fun pins s σ H D I h => wpAny_Try_except ?_⟩
  have fr : X.A.frames = some (X.env :: X.outer) := I.ok.frames.trans (congrArg some stk)
  refine wpAny_mono ((hb _ (X.pn ++ pins) _ ?_ PassesOwn.looking).run [] s σ H D (I.toTry _) h) (fun f t got => ?_) (fun _ _ z => z)
  · rintro u t ⟨a, B, sI, pins', σ', H', cls, d, rfl, inv', nb, up, sky, free, os, ag, wish⟩
    have inv := inv'.ofTry I.ok
    rw [show (X.tr (X.pn ++ pins) _).stack = X.env :: X.outer from stk] at sky
    refine L2N.Sky.land L2N.Zn.steady fr frame sky fun g fly up2 => ?_
    have Y : Down X pins σ' H' B a cls d { t with heap := g } := ⟨I.ok, fly, free, fun g2 fly2 up3 => inv.landed nb fly2.1 ((up.trans up2).trans up3) os ag⟩
    exact clause_as Y frame nd slot isLoc nm1 s1 wish fun wish2 => clause_as Y frame nd slot isLoc nm2 s2 wish2 False.elim
  · match f, got with
    | .next, ⟨_, _, inv, q⟩ => exact wpAny_execs_nil ⟨_, _, inv.ofTry I.ok, q⟩
    | .brk, ⟨_, _, inv, q⟩ => exact ⟨_, _, inv.ofTry I.ok, q⟩
    | .cont, ⟨_, _, inv, q⟩ => exact ⟨_, _, inv.ofTry I.ok, q⟩
    | .ret _, ⟨_, _, _, inv, r, q⟩ => exact ⟨_, _, _, inv.ofTry I.ok, r, q⟩
end FR
set_option maxHeartbeats 2000000
namespace FR
open PySem PySem.Spec PyProof.Rows L2 HotX
section
variable {prog : Program} {w : World} {A : Around} {E : Value → Shared → Prop} {s : Shared}
/-- where an exception is handled: the list's iterator comes to its end -/
theorem list_end_hot {it l x1 : Addr} {i : Nat} {items : Array Value} {Q : Option Value → Shared → Prop} (hot : HotAt A x1 s.heap) (ne : x1 ≠ it) (iter : s.heap.IsListIter it l i) (isl : s.heap.IsList l items) (out : items[i]? = none)
    (fin : ∀ g, Heap.ExtBut it s.heap g → Q none { s with heap := g }) : wpAny (model prog w) A (pyNext (.ref it)) Q E s := by
  obtain ⟨oi, geti, _, dati⟩ := id iter
  obtain ⟨ol, getl, _, nl, datl⟩ := isl
  obtain ⟨hh, o1, v1, get1, dat1, ctx1⟩ := hot
  unfold pyNext
  refine wpAny_bind (wpAny_attempt ?_)
  refine wpAny_callSpecial?_slot (name := Str.ofString "__next__") iter.typeIs slot_listiter_next ?_
  refine wpAny_call_entry slot_listiter_next iter.typeIs entry_listiter_next ?_ (args_listiter_next _)
  refine wpAny_bind (m := field (.ref it) 0) (wpAny_field geti dati (x := .ref l) rfl ?_)
  rw [if_neg (show ¬ (Value.ref l == Value.none) = true by simp)]
  refine wpAny_bind (m := field (.ref it) 1) (wpAny_field geti dati (x := .int i 0) rfl ?_)
  refine wpAny_bind (m := seqItems? (.ref l)) (wpAny_seqItems getl datl ?_)
  simp only [Int.toNat_natCast, out]
  refine wpAny_bind (wpAny_rule (wpAny_bind (wpAny_setField geti dati (by simp) ?_)))
  refine wpAny_bind (m := newExc (.type "StopIteration") []) ?_
  simp only [newExc, newTuple]
  refine wpAny_bind (wpAny_newObj_type (wpAny_bind (m := firstArgMember _ _) (wpAny_of_eq (a := Value.none) (by first | rfl | (simp only [firstArgMember]; rfl)) (wpAny_newObj_type ?_ (by size_fits)))) (by size_fits))
  have old : ∀ b o, b ≠ it → s.heap.get? b = some o → ∀ f, ((s.heap.update it f).get? b = some o) := fun b o nb e f => (Heap.get?_update_other _ _ (Ne.symm nb)).trans e
  refine raiseNew_hot ⟨hh, o1, v1, Heap.get?_push_of_some _ (Heap.get?_push_of_some _ (old x1 o1 ne get1 _)), dat1, ctx1⟩ (Nat.ne_of_lt (Heap.lt_size (Heap.get?_push_of_some _ (old x1 o1 ne get1 _)))) (Heap.get?_push_size _ rfl) rfl (by first | (simp; done) | (simp; omega)) ?_
  refine wpAny_bind (wpAny_isInstance (T := "StopIteration") (b := true) ⟨_, Heap.get?_update_self _ (Heap.get?_push_size _ rfl) rfl, rfl⟩ isSubtype_stop (wpAny_pure (fin _ fun b o nb e => ?_)))
  rw [Heap.get?_update_other _ _ (Nat.ne_of_gt (Heap.lt_size (Heap.get?_push_of_some _ (old b o nb e _))))]
  exact Heap.get?_push_of_some _ (Heap.get?_push_of_some _ (old b o nb e _))
theorem tup_end_hot {it l x1 : Addr} {i : Nat} {items : Array Value} {Q : Option Value → Shared → Prop} (hot : HotAt A x1 s.heap) (ne : x1 ≠ it) (iter : IsTupIter s.heap it l i) (isl : IsTup s.heap l items) (out : items[i]? = none)
    (fin : ∀ g, Heap.ExtBut it s.heap g → Q none { s with heap := g }) : wpAny (model prog w) A (pyNext (.ref it)) Q E s := by
  obtain ⟨oi, geti, _, dati⟩ := id iter
  obtain ⟨ol, getl, _, nl, datl⟩ := isl
  obtain ⟨hh, o1, v1, get1, dat1, ctx1⟩ := hot
  unfold pyNext
  refine wpAny_bind (wpAny_attempt ?_)
  refine wpAny_callSpecial?_slot (name := Str.ofString "__next__") iter.typeIs slot_tupleiter_next ?_
  refine wpAny_call_entry slot_tupleiter_next iter.typeIs entry_tupleiter_next ?_ (args_tupleiter_next _)
  refine wpAny_bind (m := field (.ref it) 0) (wpAny_field geti dati (x := .ref l) rfl ?_)
  rw [if_neg (show ¬ (Value.ref l == Value.none) = true by simp)]
  refine wpAny_bind (m := field (.ref it) 1) (wpAny_field geti dati (x := .int i 0) rfl ?_)
  refine wpAny_bind (m := seqItems? (.ref l)) (wpAny_seqItems getl datl ?_)
  simp only [Int.toNat_natCast, out]
  refine wpAny_bind (wpAny_rule (wpAny_bind (wpAny_setField geti dati (by simp) ?_)))
  refine wpAny_bind (m := newExc (.type "StopIteration") []) ?_
  simp only [newExc, newTuple]
  refine wpAny_bind (wpAny_newObj_type (wpAny_bind (m := firstArgMember _ _) (wpAny_of_eq (a := Value.none) (by first | rfl | (simp only [firstArgMember]; rfl)) (wpAny_newObj_type ?_ (by size_fits)))) (by size_fits))
  have old : ∀ b o, b ≠ it → s.heap.get? b = some o → ∀ f, ((s.heap.update it f).get? b = some o) := fun b o nb e f => (Heap.get?_update_other _ _ (Ne.symm nb)).trans e
  refine raiseNew_hot ⟨hh, o1, v1, Heap.get?_push_of_some _ (Heap.get?_push_of_some _ (old x1 o1 ne get1 _)), dat1, ctx1⟩ (Nat.ne_of_lt (Heap.lt_size (Heap.get?_push_of_some _ (old x1 o1 ne get1 _)))) (Heap.get?_push_size _ rfl) rfl (by first | (simp; done) | (simp; omega)) ?_
  refine wpAny_bind (wpAny_isInstance (T := "StopIteration") (b := true) ⟨_, Heap.get?_update_self _ (Heap.get?_push_size _ rfl) rfl, rfl⟩ isSubtype_stop (wpAny_pure (fin _ fun b o nb e => ?_)))
  rw [Heap.get?_update_other _ _ (Nat.ne_of_gt (Heap.lt_size (Heap.get?_push_of_some _ (old b o nb e _))))]
  exact Heap.get?_push_of_some _ (Heap.get?_push_of_some _ (old b o nb e _))
/-- a tuple into names, where an exception is handled -/
theorem unpack_hot {t x1 : Addr} {items : Array Value} {Q : List Value → Shared → Prop} (hot : HotAt A x1 s.heap) (isT : IsTup s.heap t items)
    (fin : ∀ g, Heap.ExtBut s.heap.objs.size s.heap g → Q items.toList { s with heap := g }) : wpAny (model prog w) A (unpackItems (.ref t) items.size none) Q E s := by
  obtain ⟨hh, o1, v1, get1, dat1, ctx1⟩ := hot
  have apart : t ≠ s.heap.objs.size := by
    obtain ⟨o, e, _⟩ := isT
    exact Nat.ne_of_lt (Heap.lt_size e)
  have apart1 : x1 ≠ s.heap.objs.size := Nat.ne_of_lt (Heap.lt_size get1)
  unfold unpackItems notIterableAtAll
  refine wpAny_bind (wpAny_bind (wpAny_specialOf isT.typeIs slot_tuple_iter.lookup (wpAny_pure ?_)))
  simp only [Bool.false_eq_true, if_false]
  refine wpAny_bind (wpAny_holding (iter_tuple isT (wpAny_bind (wpAny_holding ?_))))
  refine draw_tuple apart items.size 0 _ _ ⟨_, Heap.get?_push_size _ rfl, rfl, rfl⟩ (isT.push _) (by omega) fun g1 iter1 same1 => ?_
  rw [show List.take items.size (List.drop 0 items.toList) = items.toList by rw [List.drop_zero]; exact List.take_of_length_le (by simp), if_neg (by simp)]
  have get1' : g1.get? x1 = some o1 := same1.extBut x1 o1 apart1 (Heap.get?_push_of_some _ get1)
  refine wpAny_bind (wpAny_holding (tup_end_hot (s := { s with heap := g1 }) ⟨hh, o1, v1, get1', dat1, ctx1⟩ apart1 iter1 ((isT.push _).extBut same1.extBut apart) (by simp) fun g2 ext2 => ?_))
  simp only [Option.isSome_none, Bool.false_eq_true, if_false]
  exact wpAny_pure (fin g2 fun b o nb e => ext2 b o nb (same1.extBut b o nb (Heap.get?_push_of_some _ e)))
theorem assign_hot {env : Env} {elts : List Expr} {k : Nat} {pos : Pos} {t x1 : Addr} {items : Array Value} {Q : Unit → Shared → Prop} (hot : HotAt A x1 s.heap) (isT : IsTup s.heap t items) (many : (assignEach elts env).length = items.size) (noStar : (assignEach elts env).findIdx? (·.1) = none)
    (on : ∀ g, Heap.ExtBut s.heap.objs.size s.heap g → wpAny (model prog w) A (assignInOrder ((assignEach elts env).map (·.2)) items.toList) Q E { s with heap := g }) : wpAny (model prog w) A (assign (.Tuple elts k pos) env (.ref t)) Q E s := by
  rw [assign_Tuple]
  refine wpAny_bind (wpAny_standAt ?_)
  unfold unpack
  rw [many, noStar]
  exact wpAny_bind (wpAny_holding (unpack_hot hot isT on))
end
/-- in X an exception is handled, whose class is one of the program's own and whose context is None -/
def HotO (A : Around) (x1 : Addr) (h : Heap) : Prop := A.handled = some (.ref x1) ∧ ∃ (o : Obj) (vs : Array Value) (C : Addr), h.get? x1 = some o ∧ o.cls = .ref C ∧ o.data = .fields vs ∧ vs[2]? = some .none
theorem HotO.at {A : Around} {x1 : Addr} {h : Heap} (y : HotO A x1 h) : HotAt A x1 h := by
  obtain ⟨a, o, vs, _, e, _, d, c⟩ := y
  exact ⟨a, o, vs, e, d, c⟩
def Warm (X : Cx) : Prop := ∀ (pins : List (Addr × Obj)) (σ : L2.St) (H : Hp) (s : Shared), Inv X pins σ H s → ∃ x1, HotO X.A x1 s.heap
theorem pg_tupH {X : Cx} {es : List Expr} {k n : Nat} {t : TGs} {pos : Pos} (warm : Warm X) (parts : PGs X es t) (many : (assignEach es X.env).length = n := by rfl) (noStar : (assignEach es X.env).findIdx? (·.1) = none := by rfl) : PG X (.Tuple es k pos) (gTup X.K n t) := by
  refine ⟨fun pins s σ H v u Q I rel wish => ?_⟩
  obtain ⟨a, xs, rfl, sq, len, wish⟩ := wish
  cases rel
  obtain ⟨its, rv, isT, hz⟩ := I.tuple sq
  obtain ⟨x1, hot⟩ := warm _ _ _ _ I
  refine assign_hot hot.at isT (by simp [many, ← len, rv.length]) noStar fun g ext => ?_
  have I2 : Inv X pins σ H { s with heap := g } := I.kept (t' := s.toks) fun b o e => ext b o (Nat.ne_of_lt (Heap.lt_size e)) e
  exact parts.run pins _ σ H xs _ Q I2 (by simpa using rv) wish
end FR
set_option maxHeartbeats 2000000
namespace FR
open PySem PySem.Spec PyProof.Rows L2 HotX
/-- the handled exception stands apart from all that X may change -/
def WarmP (X : Cx) : Prop := ∃ (x1 : Addr) (o : Obj), (x1, o) ∈ X.pn ∧ X.A.handled = some (.ref x1) ∧ ∃ (vs : Array Value) (C : Addr), o.cls = .ref C ∧ o.data = .fields vs ∧ vs[2]? = some .none
theorem WarmP.warm {X : Cx} (y : WarmP X) : Warm X := by
  obtain ⟨x1, o, isIn, hh, vs, C, c, d, n⟩ := y
  intro pins σ H s I
  exact ⟨x1, hh, o, vs, C, (I.pin (x1, o) (List.mem_append_left _ isIn)).1, c, d, n⟩
theorem warm_suite {X : Cx} {a C : Addr} {oe : Obj} {d : Option Addr} {pn : List (Addr × Obj)} (z : L2N.Zn (.ref C) d oe) (f : ∃ vs, oe.data = .fields vs) : WarmP (X.suite a ((a, oe) :: pn)) := by
  obtain ⟨vs, f⟩ := f
  exact ⟨a, oe, List.mem_cons_self, rfl, vs, C, z.1, f, z.2.2 vs f⟩
/-- a list's turn where an exception is handled -/
theorem list_item {X : Cx} {pins : List (Addr × Obj)} {σ : L2.St} {H : Hp} {s : Shared} {E : Value → Shared → Prop} {tg : Expr} {a it : Addr} {i : Nat} (I : Inv X pins σ H s) (ap : FpOk X pins H it) (st : s.heap.IsListIter it a i) (go : (Itl X.K a).go i H) :
    wpAny (model X.prog X.w) X.A (pyNext (.ref it)) (fun r s1 => ∃ u, r = some u ∧ wpAny (model X.prog X.w) X.A (letOwnedTupleGo tg (.ref it) u) (fun _ s2 => ∃ x, Inv X pins σ H s2 ∧ RelV x u ∧ (Itl X.K a).yld i H x H ∧ s2.heap.IsListIter it a (i + 1)) E s1) E s := by
  obtain ⟨xs, x, sq, at_⟩ := go
  obtain ⟨its, rv, isl, _⟩ := I.list sq
  obtain ⟨u, atu, ru⟩ := rv.get at_
  obtain ⟨z0, z1, _, z3, z4, z5⟩ := ap
  refine wpAny_pyNext_list_item st isl.isList (x := u) (by simpa using atu) fun g st2 sb => ⟨u, rfl, ?_⟩
  have I2 : Inv X pins σ H { s with heap := g } := I.turned (t' := s.toks) (fun b ob nb e => (sb.2 b nb).trans e) z0 z1 z3 z4 z5
  obtain ⟨ob, e, c, d⟩ := id st2
  exact go_of (s := { s with heap := g }) e c d (by decide) ⟨x, I2, ru, ⟨rfl, fun ys hy => by rw [I.list_inj hy sq]; exact at_⟩, st2⟩
theorem list_done {X : Cx} {pins : List (Addr × Obj)} {σ : L2.St} {H : Hp} {s : Shared} {E : Value → Shared → Prop} {a it : Addr} {i : Nat} (warm : Warm X) (I : Inv X pins σ H s) (ap : FpOk X pins H it) (st : s.heap.IsListIter it a i) (stop : (Itl X.K a).stop i H) :
    wpAny (model X.prog X.w) X.A (pyNext (.ref it)) (fun r s1 => r = none ∧ Inv X pins σ H s1) E s := by
  obtain ⟨xs, sq, len⟩ := stop
  obtain ⟨its, rv, isl, _⟩ := I.list sq
  obtain ⟨z0, z1, _, z3, z4, z5⟩ := ap
  have hl := rv.length
  obtain ⟨x1, hot⟩ := warm _ _ _ _ I
  have ne : x1 ≠ it := by
    rintro rfl
    obtain ⟨_, o, vs, C, e, c, _⟩ := hot
    obtain ⟨ob, e2, c2, _⟩ := st
    rw [e] at e2
    cases e2
    rw [c] at c2
    cases c2
  exact list_end_hot hot.at ne st isl.isList (by simp; omega) fun g ext => ⟨rfl, I.turned (t' := s.toks) (fun b o nb e => ext b o nb e) z0 z1 z3 z4 z5⟩
/-- [elt for target in list if ..] where an exception is handled -/
theorem pe_lcH {X : Cx} {elt tg l : Expr} {ifs : List Expr} {scope : Scope} {own : List (Str × Nat)} {pos : Pos} {tl : TE} {g : TG} {tt : TT} {te : TE} (warm : WarmP X) (stk : X.stack = X.env :: X.outer) (frame : X.env.frame = some X.env.locals) (nd : X.N.Nodup) (hl : PE X l tl)
    (ok : BlkOk X.N X.env.scope scope own) (hg : ∀ (s : Shared) (H : Hp) (C : Addr) (cl : List (Str × Addr)) (fp : List Addr), Warm (X.blk s H scope (compEnvC scope cl C X.env) fp) → PG (X.blk s H scope (compEnvC scope cl C X.env) fp) tg g)
    (ht : ∀ (s : Shared) (H : Hp) (C : Addr) (cl : List (Str × Addr)) (fp : List Addr), PTs (X.blk s H scope (compEnvC scope cl C X.env) fp) ifs tt)
    (he : ∀ (s : Shared) (H : Hp) (C : Addr) (cl : List (Str × Addr)) (fp : List Addr), PE (X.blk s H scope (compEnvC scope cl C X.env) fp) elt te) (fold : ∀ x, foldedSetIterable l X.env x = pure x := by intro _; rfl) :
    PE X (.ListComp elt [⟨tg, l, ifs, 0⟩] scope pos) (tLc (iList X.K tl) g tt te (own.map (·.2))) := by
  refine ⟨fun pins s σ H Q I h => ?_⟩
  rw [eval_ListComp]
  have caught : ∀ y ∈ scope.names, y.2 = .free → ∃ c, X.env.cells.lookup y.1 = some c := by
    intro y hy e
    rcases ok.free y hy e with z | z
    · exact I.ok.has _ (.inl z)
    · exact I.ok.has _ (.inr z)
  refine wpAny_comprehension_free (use := none) rfl fold (closure_ok caught) ok.kind (fun y hy e => (ok.uniq y hy).trans (congrArg some e)) (thn (hl.run pins s σ H _ I h) fun v0 s1 made => ?_)
  obtain ⟨x0, H1, I1, r1, a, rfl, ⟨xs, sq⟩, wish⟩ := made
  cases r1
  obtain ⟨its, rv, isl, _⟩ := I1.list sq
  refine wpAny_pyIter_list isl.isList ?_
  -- the iterator
  generalize hit : s1.heap.objs.size = it
  generalize hs2 : ({ s1 with heap := s1.heap.push _ } : Shared) = s2
  have I2 : Inv X pins σ H1 s2 := by
    rw [← hs2]
    exact I1.kept (t' := s1.toks) fun b o e => Heap.get?_push_of_some _ e
  have st2 : s2.heap.IsListIter it a 0 := by
    rw [← hs2, ← hit]
    exact ⟨_, Heap.get?_push_size _ rfl, rfl, rfl⟩
  have ap2 : FpOk X pins H1 it := I1.fpOk (by rw [hit]; exact Nat.le_refl _) (I1.hok.fresh (by rw [hit]; exact Nat.le_refl _))
  refine wpAny_newObj_type (newEnv_comp ?_) (by show 0 ≤ sizeLine; decide)
  -- the new list
  generalize hD : s2.heap.objs.size = D
  generalize hs3 : ({ s2 with heap := s2.heap.push { cls := .type "list", data := .seq ([] : List Value).toArray } } : Shared) = s3
  have newD : H1 D = none := I2.hok.fresh (Nat.le_of_eq hD)
  obtain ⟨W, ⟨m0, w0⟩, turn⟩ := wish D newD
  have heap3 : s3.heap = s2.heap.push { cls := .type "list", data := .seq ([] : List Value).toArray } := by rw [← hs3]
  have I3 : Inv X pins σ (upd H1 D (.lst [])) s3 := by
    rw [← hs3]
    refine I2.laid (t' := s2.toks) (fun b o e => Heap.get?_push_of_some _ e) (Nat.le_of_eq hD) ⟨Nat.zero_le _, [], 0, .nil, ?_⟩
    rw [← hD]
    exact Heap.get?_push_size _ rfl
  have itLt : it < s2.heap.objs.size := by
    obtain ⟨o, e, _⟩ := st2
    exact Heap.lt_size e
  have itNe : it ≠ D := by
    rw [← hD]
    exact Nat.ne_of_lt itLt
  have ap3 : FpOk X pins (upd H1 D (.lst [])) it := ⟨by rw [upd_ne itNe]; exact ap2.1, ap2.2⟩
  have st3 : s3.heap.IsListIter it a 0 := st2.at fun o e => by
    rw [heap3]
    exact Heap.get?_push_of_some _ e
  have I4 := block_start (fp := [it]) I3 ok nd fun b hb => by
    rw [List.mem_singleton.mp hb]
    exact ⟨ap3, by rw [heap3, Heap.size_push]; exact Nat.lt_succ_of_lt itLt⟩
  -- the handled exception, in the block
  have blkWarm : ∀ ce : Env, Warm (X.blk s3 (upd H1 D (.lst [])) scope ce [it]) := by
    obtain ⟨x1, o, isIn, hh, vs, C, c, d, n⟩ := warm
    intro ce pins' σ' H' s' I'
    obtain ⟨p1, p2, p3, p4, _⟩ := I3.pin (x1, o) (List.mem_append_left _ isIn)
    have offF : x1 ∉ (X.blk s3 (upd H1 D (.lst [])) scope ce [it]).fs := by
      intro z
      obtain ⟨v, hv, e⟩ := List.mem_filterMap.mp z
      have hv' : v ∈ X.env :: X.outer := by
        rw [← stk]
        exact hv
      rcases List.mem_cons.mp hv' with g | g
      · rw [g, frame] at e
        exact p3 (Option.some.inj e).symm
      · exact p4 (List.mem_filterMap.mpr ⟨v, g, e⟩)
    have offI : x1 ∉ [it] := by
      intro z
      have z := List.mem_singleton.mp z
      obtain ⟨ob, e2, c2, _⟩ := st3
      rw [← z] at e2
      have e3 := p1.symm.trans e2
      cases e3
      rw [c] at c2
      cases c2
    exact ⟨x1, hh, o, vs, C, I'.base.keep x1 o p1 p2 offF offI, c, d, n⟩
  have wm := blkWarm (compEnvC scope (cellsFrom (s3.heap.objs.size + 1) scope.names (cloFrom X.env.cells scope.names [])) s3.heap.objs.size X.env)
  have pg := hg s3 (upd H1 D (.lst [])) s3.heap.objs.size (cellsFrom (s3.heap.objs.size + 1) scope.names (cloFrom X.env.cells scope.names [])) [it] wm
  have pt := ht s3 (upd H1 D (.lst [])) s3.heap.objs.size (cellsFrom (s3.heap.objs.size + 1) scope.names (cloFrom X.env.cells scope.names [])) [it]
  have pe := he s3 (upd H1 D (.lst [])) s3.heap.objs.size (cellsFrom (s3.heap.objs.size + 1) scope.names (cloFrom X.env.cells scope.names [])) [it]
  change codeAny _ _ (.compStart (.ListComp elt [⟨tg, l, ifs, 0⟩] scope pos) 0 (.ref it) (.ref D) (compEnvC scope (cellsFrom (s3.heap.objs.size + 1) scope.names (cloFrom X.env.cells scope.names [])) s3.heap.objs.size X.env))
    (compPost (model X.prog X.w) X.A X.xe none (EP X pins σ Q) (.ref D) s3.heap.objs.size) { s3 with heap := pushCells (s3.heap.push { cls := .type "dict", data := .dict #[] }) scope.names }
  generalize hce : compEnvC scope (cellsFrom (s3.heap.objs.size + 1) scope.names (cloFrom X.env.cells scope.names [])) s3.heap.objs.size X.env = ce at I4 pg pt pe wm ⊢
  have ceL : ce.locals = s3.heap.objs.size := by
    subst hce
    rfl
  generalize hs4 : ({ s3 with heap := pushCells (s3.heap.push { cls := .type "dict", data := .dict #[] }) scope.names } : Shared) = s4 at I4 ⊢
  have st4 : s4.heap.IsListIter it a 0 := st3.at fun o e => by
    rw [← hs4]
    exact pushCells_keeps _ _ _ _ (Heap.get?_push_of_some _ e)
  generalize hH3 : upd H1 D (.lst []) = H3 at I3 I4 pg pt pe wm w0 ap3
  have me : it ∈ [it] := List.mem_singleton.mpr rfl
  have apB : ∀ {σ' : L2.St} {H' : Hp} {t : Shared}, Inv (X.blk s3 H3 scope ce [it]) [] σ' H' t → H' it = none → FpOk (X.blk s3 H3 scope ce [it]) [] H' it := fun I' n =>
    ⟨n, (I'.ok.exf it me).1, I'.ok.exfs it me, .inl me, fun x c e => (I'.ok.exf it me).2 x c e, fun p hp => absurd (show p ∈ ([] : List (Addr × Obj)) ++ [] from hp) (by simp)⟩
  have loop : codeAny (model X.prog X.w) X.A (.compLoop (.ListComp elt [⟨tg, l, ifs, 0⟩] scope pos) 0 (.ref it) (.ref D) ce) (compPost (model X.prog X.w) X.A X.xe none (EP X pins σ Q) (.ref D) s3.heap.objs.size) s4 := by
    refine compLoop_any (fun n t => ∃ i H', Inv (X.blk s3 H3 scope ce [it]) [] (wipe σ (own.map (·.2))) H' t ∧ t.heap.IsListIter it a i ∧ H' it = none ∧ W i n H') ?_ m0 ⟨0, H3, I4, st4, ap3.1, w0⟩
    rintro n t5 ⟨i, H5, I5, st5, n5, w5⟩
    rcases turn i n H5 w5 with ⟨stop, q5⟩ | ⟨go, Nx, hNx, step⟩
    · refine thnF (list_done (X := X.blk s3 H3 scope ce [it]) wm I5 (apB I5 n5) st5 stop) fun r t6 ⟨hr, I6⟩ => ?_
      subst hr
      have I7 : Inv X pins σ H5 t6 := I3.call' (ch := [it]) I6.os I6.base I6.hok I6.bare fun b hb => by
        rw [List.mem_singleton.mp hb]
        exact ⟨ap3.2.2.2.1, ap3.2.1, ap3.2.2.2.2.1, ap3.2.2.2.2.2⟩
      have nC : H5 s3.heap.objs.size = none := ceL ▸ (show H5 ce.locals = none from I6.free)
      obtain ⟨m, ns, _⟩ := I6.loc
      have apC := I3.fpOk (H' := H5) (Nat.le_refl _) nC
      refine ⟨m, ceL ▸ (show t6.heap.Ns ce.locals m from ns), fun g sb => ⟨.ref D, H5, ?_, rfl, q5⟩⟩
      exact I7.turned (t' := t6.toks) (fun b o nb e => (sb.2 b nb).trans e) apC.1 apC.2.1 apC.2.2.2.1 apC.2.2.2.2.1 apC.2.2.2.2.2
    · refine thnF (list_item (X := X.blk s3 H3 scope ce [it]) (tg := tg) I5 (apB I5 n5) st5 go) fun r t6 ⟨u, hr, h6⟩ => ?_
      subst hr
      refine thnF h6 fun _ t7 ⟨x, I7, r7, y7, st7⟩ => ?_
      obtain ⟨oi, gi, ci, di⟩ := id st7
      have I7' := I7.pinned (fp := [it]) (fun b hb => by rw [List.mem_singleton.mp hb]; exact apB I7 n5) (fun b hb => by
        rw [List.mem_singleton.mp hb]
        exact ⟨oi, gi, fun v z => by rw [di] at z; cases z⟩)
      refine thnF (pg.run _ t7 _ H5 x u _ I7' r7 (step x H5 y7)) fun _ t8 ⟨σ8, H8, I8, w8, q8⟩ => ?_
      refine thnF (pt.run _ t8 σ8 H8 _ I8 q8) fun b t9 ⟨H9, I9, q9⟩ => ?_
      have fin : ∀ {t' : Shared} {H' : Hp}, Inv (X.blk s3 H3 scope ce [it]) ([] ++ pinsAt [it] t7.heap) σ8 H' t' → Nx H' → ∃ m, m < n ∧ ∃ i H', Inv (X.blk s3 H3 scope ce [it]) [] (wipe σ (own.map (·.2))) H' t' ∧ t'.heap.IsListIter it a i ∧ H' it = none ∧ W i m H' := by
        intro t' H' I' nx
        obtain ⟨m', hm, w'⟩ := hNx H' nx
        obtain ⟨gi', ni', _⟩ := I'.pin (it, oi) (List.mem_append_right _ (List.mem_append_right _ (mem_pinsAt me gi)))
        have len : (wipe σ (own.map (·.2))).length = σ8.length := by rw [← w8, wipe_length]
        refine ⟨m', hm, i + 1, H', (I'.unpinned (pins := [])).weak len (fun j v e => (wipe_some (by rw [w8]; exact e)).1), ?_, ni', w'⟩
        exact st7.at fun o e => by
          rw [gi] at e
          cases e
          exact gi'
      cases b with
      | false => exact fin I9 q9
      | true =>
        refine thnF (pe.run _ t9 σ8 H9 _ I9 q9) fun z t10 ⟨yv, H10, I10, r10, acc, hD10, hz10, nx⟩ => ?_
        exact app_ok (X := X.blk s3 H3 scope ce [it]) I10 hD10 hz10 r10 fun t11 I11 => fin I11 nx
  exact codeAny_compStart_list loop (wpAny_pyIter_listiter st4 loop)
end FR
set_option maxHeartbeats 2000000
namespace FR
open PySem PySem.Spec PyProof.Rows L2 HotX
/-! ### xs[i] op= e -/
def rGetL (K : PySem.W.Frag) : V → V → Hp → VK → Prop := fun o i H Q => ∃ p xs k v, o = .ref p ∧ i = .int k ∧ SqL K H p xs ∧ 0 ≤ k ∧ k < 2 ^ 63 ∧ xs[k.toNat]? = some v ∧ Q v H
theorem get_list {X : Cx} : PGet X (rGetL X.K) := by
  intro pins s σ H o i ov iv Q I ro ri h
  obtain ⟨p, xs, k, v, rfl, rfl, sq, k0, k1, at_, q⟩ := h
  cases ro
  obtain ⟨tk, rfl⟩ := ri
  obtain ⟨its, rv, isl, _⟩ := I.list sq
  obtain ⟨u, atu, ru⟩ := rv.get at_
  exact wpAny_getItem_list isl.isList k0 k1 (by simpa using atu) ⟨v, H, I, ru, q⟩
/-! ### defs that raise -/
structure ExcT (K : PySem.W.Frag) (mg : Str → Option Value) (x : Str) (C : Addr) : Prop where
  g : mg x = some (.ref C)
  ex : PySem.W.excIn K C [.type "ValueError", .type "Exception", .type "BaseException", .type "object"] "ValueError.__new__" = true
  kp : PySem.W.keepIn K (.ref C) = true
  sb : PySem.W.subIn K (.ref C) (.type "BaseException") = some true
  ty : PySem.W.typeIn K (.ref C) = some (.type "type")
theorem ps_raiseX {X : Cx} {x m : Str} {C : Addr} {j : Nat} {W : WX} {p p2 p3 p4 : Pos} (T : ExcT X.K X.mg x C) (tk : L2N.Takes X W) (hg : Gl X x := by rfl) (hc : X.calm = true := by rfl) (hdb : (x == ("__debug__" : Str)) = false := by decide) :
    PS X (.Raise (some (.Call (.Name x p) [.Constant (.str m) j p2] [] p3)) none p4) (fun _ σ H => W (.ref C) none σ H) :=
  L2N.ps_raise hc tk (L2N.pmk_own PySem.F.excBase_ValueError T.ex T.g T.kp (raises_own T.sb T.ty) hg hdb)
theorem okN {P : Program} {w : World} {K : PySem.W.Frag} {mg : Str → Option Value} {base : Heap} {x qual : Str} {st : Stmt} {f : Addr} {fd : FuncData} {N ps : List Str} {k : Nat} {sp : Sp} (F : Fun K x qual st f fd) (S : FnScope N ps (defScope st)) (len : ∀ vs H Q E, sp vs H Q E → vs.length = ps.length)
    (hbody : ∀ (cdv : Value) (A : Around) (outer : List Env) (s : Shared) (H : Hp) (vs : List V) (Q : VK) (E : XK), Room k (A.deeper (envOfC qual (defScope st) s.heap.objs.size f cdv)) → sp vs H Q E →
      ∃ t, PSs (cxOf (L2N.CX P w) P w K mg base N qual (defScope st) f cdv A outer s H E) (defBody st) t ∧ t { nx := fun _ H' => Q .non H', rt := Q } (L2.start N vs) H) : FnOk P w K mg base (L2N.CX P w) (k + 1) f fd ps sp := by
  obtain ⟨oc, od, kV, doc, pm, an, cdv, ct, osl, rfl, lk, hcd⟩ := F.ex
  exact fn_of lk hcd S len fun A outer s H vs Q E room wish => hbody cdv A outer s H vs Q E room wish
structure DefX (P : Program) (w : World) (K : PySem.W.Frag) (mg : Str → Option Value) (base : Heap) (x : Str) (k : Nat) (ps : List Str) (sp : Sp) : Prop where
  ex : ∃ f fd, FnOk P w K mg base (L2N.CX P w) k f fd ps sp ∧ mg x = some (.ref f) ∧ PySem.W.keepIn K (.ref f) = true ∧ Binds K fd ps []
theorem pe_defX {X : Cx} {k j : Nat} {ps : List Str} {sp : Sp} {x : Str} {p pos : Pos} {e : Expr} {es : List Expr} {t : TA} {E : XK} (D : DefX X.prog X.w X.K X.mg X.base x k ps sp) (hr : Room j X.A) (tk : L2N.Takes X (fun cls d _ H => E cls d H)) (ha : PA X (e :: es) t) (hg : Gl X x := by rfl) (hl : k ≤ j := by decide)
    (hdb : (x == ("__debug__" : Str)) = false := by decide) (he : starEach (e :: es) X.env = (false, eval e X.env) :: starEach es X.env := by rfl) (hpl : (backTo pos (starEach es X.env)).any (·.1) = false := by rfl) :
    PE X (.Call (.Name x p) (e :: es) [] pos) (tCall sp [] E t) := by
  obtain ⟨f, fd, F, m, kp, b⟩ := D.ex
  exact pe_call F (hr.mono hl) hg m kp b .nil (L2N.passes_call tk fun _ _ _ _ h => h) ha hdb he hpl
/-- a def as a value: its promise goes with its address -/
structure HeldX (P : Program) (w : World) (K : PySem.W.Frag) (mg : Str → Option Value) (base : Heap) (k : Nat) (f : Addr) (sp : Sp) : Prop where
  ex : ∃ (fd : FuncData) (ps : List Str), FnOk P w K mg base (L2N.CX P w) k f fd ps sp ∧ PySem.W.keepIn K (.ref f) = true ∧ Binds K fd ps []
def tCallV (i : Nat) (S : Addr → Sp → Prop) (W : WX) (t : TA) : TE := fun σ H Q => ∃ f sp, σ[i]? = some (some (.ref f)) ∧ S f sp ∧ t σ H fun vs H1 => sp vs H1 Q (fun cls d H' => W cls d σ H')
theorem pe_callV {X : Cx} {k i : Nat} {x : Str} {p pos : Pos} {e : Expr} {es : List Expr} {t : TA} {W : WX} (hr : Room k X.A) (slot : X.N[i]? = some x) (vis : Vis X.env.scope x) (tk : L2N.Takes X W) (ha : PA X (e :: es) t)
    (hdb : (x == ("__debug__" : Str)) = false := by decide) (hcd : (x == ("__classdict__" : Str)) = false := by decide) (he : starEach (e :: es) X.env = (false, eval e X.env) :: starEach es X.env := by rfl) (hpl : (backTo pos (starEach es X.env)).any (·.1) = false := by rfl) :
    PE X (.Call (.Name x p) (e :: es) [] pos) (tCallV i (HeldX X.prog X.w X.K X.mg X.base k) W t) := by
  refine ⟨fun pins s σ H Q I h => ?_⟩
  obtain ⟨f, sp, at_, ⟨fd, ps, F, kp, b⟩, wish⟩ := h
  refine wpAny_Call_Name_kw (thn ((pe_var (pos := p) slot vis hdb hcd).run pins s σ H (fun v H1 => v = .ref f ∧ H = H1) I ⟨.ref f, at_, rfl, rfl⟩) fun u s1 got => ?_)
  obtain ⟨v, H1, I1, rel, rfl, rfl⟩ := got
  cases rel
  refine PySem.W.callWith_K (h₀ := X.base) I.ok.mod.kin kp (thn (ha.run pos pins s1 σ _ _ I1 wish) fun us s2 got => ?_) he hpl
  obtain ⟨vs, H2, I2, r, q⟩ := got
  exact ⟨I2.kIn, run_fnS (E := fun σ cls d H' => W cls d σ H') F hr b (L2N.passAt tk σ) I2 r q⟩
/-- isinstance(e, c), e the exception that the suite holds: its class is told by the wish -/
def rIsE2 (K : PySem.W.Frag) (cls : Value) (d : Option Addr) (a : Addr) : List V → Hp → VK → Prop := fun xs H Q => ∃ (C : Addr) (c : V) (cv : Value) (b : Bool), cls = .ref C ∧ d = none ∧ ExcC K C ∧ xs = [.ref a, c] ∧ (∀ u, RelV c u → u = cv) ∧ PySem.W.kitOne K (.ref C) cv = some b ∧ Q (.bl b) H
theorem call_isE2 {X : Cx} {a : Addr} {oe : Obj} {cls : Value} {d : Option Addr} {pn : List (Addr × Obj)} (z : L2N.Zn cls d oe) (f : ∃ vs, oe.data = .fields vs) : CallR (X.suite a ((a, oe) :: pn)) (.builtin "isinstance") (rIsE2 X.K cls d a) := by
  intro pins s σ H xs us Q I r h
  obtain ⟨C, c, cv, b, rfl, rfl, ex, rfl, one, e, q⟩ := h
  exact call_isE ex z.zc f pins s σ H _ us Q I r ⟨c, cv, b, rfl, one, e, q⟩
end FR
set_option maxHeartbeats 2000000
namespace FR
open PySem PySem.Spec PyProof.Rows L2
/-! ### rows of deeds -/
def deedD (n : Int) : PyData → Bool
  | .str x => decide (V.str x = V.str "ride")
  | d => withinD 0 (n - 1) d
def rowD (n : Int) : PyData → Bool
  | .list ds => decide (ds.length ≤ 100) && ds.all (deedD n)
  | _ => false
def canB (cs : List Int) (x : Int) (zs : List Int) : V → Bool
  | .str _ => decide (0 < x)
  | .int i => decide (cs.getD i.toNat 0 ≤ zs.getD i.toNat 0)
  | _ => false
theorem can_iff {cs zs : List Int} {x : Int} {v : V} (hl : zs.length = cs.length) (h : DeedV cs.length v) : Can cs x zs v ↔ canB cs x zs v = true := by
  rcases h with rfl | ⟨i, rfl, i0, i1⟩
  · constructor
    · rintro (⟨_, h⟩ | ⟨i, c, z, h, _⟩)
      · exact decide_eq_true h
      · exact nomatch h
    · intro h
      exact .inl ⟨rfl, of_decide_eq_true h⟩
  · obtain ⟨c, _, hc, _⟩ := at_int (ns := cs) (k := i) i0 i1
    obtain ⟨z, _, hz, _⟩ := at_int (ns := zs) (k := i) i0 (by omega)
    have e : canB cs x zs (.int i) = decide (c ≤ z) := by
      show decide (cs.getD i.toNat 0 ≤ zs.getD i.toNat 0) = _
      rw [List.getD_eq_getElem?_getD, List.getD_eq_getElem?_getD, hc, hz]
      rfl
    rw [e, decide_eq_true_eq]
    constructor
    · rintro (⟨h, _⟩ | ⟨i', c', z', h, _, h1, h2, h3⟩)
      · exact nomatch h
      · cases h
        rw [hc] at h1
        rw [hz] at h2
        cases h1
        cases h2
        exact h3
    · intro h
      exact .inr ⟨i, c, z, rfl, i0, hc, hz, h⟩
def stepO (cs : List Int) : Option (Int × List Int) → V → Option (Int × List Int)
  | none, _ => none
  | some (x, zs), v => if canB cs x zs v = true then some (aftX x v, aftS cs zs v) else none
def rowO (cs : List Int) (st : Option (Int × List Int)) (row : List V) : Option (Int × List Int) := row.foldl (stepO cs) st
def PurseO (K : PySem.W.Frag) (cs : List Int) (H : Hp) (v : V) : Option (Int × List Int) → Prop
  | none => v = .non
  | some (x, zs) => ∃ p, v = .ref p ∧ Purse K H p x zs ∧ zs.length = cs.length
def dataO : Option (Int × List Int) → PyData
  | none => .none
  | some (x, zs) => .tuple [.int x, .tuple (zs.map PyData.int)]
theorem PurseO.dp {K : PySem.W.Frag} {cs : List Int} {H : Hp} {v : V} : ∀ {o : Option (Int × List Int)}, PurseO K cs H v o → Dp K H v (dataO o)
  | none, h => (show v = .non from h) ▸ .non
  | some (x, zs), h => by
    obtain ⟨p, rfl, hp, _⟩ := h
    exact hp.dp
theorem dataO_shaped : ∀ o : Option (Int × List Int), SeqAt.shaped (dataO o) = true
  | none => shaped_non
  | some (x, zs) => due_shaped x zs
theorem dataO_eqv : ∀ o : Option (Int × List Int), PyData.eqv (dataO o) (dataO o) = true
  | none => eqv_non
  | some (x, zs) => due_eqv x zs
theorem PurseO.same {K : PySem.W.Frag} {cs : List Int} {H H' : Hp} {v : V} (s : Same H H') : ∀ {o : Option (Int × List Int)}, PurseO K cs H v o → PurseO K cs H' v o
  | none, h => h
  | some (x, zs), ⟨p, e, h, l⟩ => ⟨p, e, h.same s, l⟩
theorem PurseO.kp {K : PySem.W.Frag} {cs : List Int} {H H' : Hp} {v : V} (s : Kp H H') : ∀ {o : Option (Int × List Int)}, PurseO K cs H v o → PurseO K cs H' v o
  | none, h => h
  | some (x, zs), ⟨p, e, h, l⟩ => ⟨p, e, h.kp s, l⟩
theorem aftS_len {cs zs : List Int} {v : V} : (aftS cs zs v).length = zs.length := by
  unfold aftS
  split
  · rw [List.length_map]
  · rw [List.length_set]
  · rfl
theorem rowO_none (cs : List Int) : ∀ row : List V, rowO cs none row = none
  | [] => rfl
  | _ :: r => rowO_none cs r
theorem rowO_snoc {cs : List Int} {st : Option (Int × List Int)} {row : List V} {v : V} : rowO cs st (row ++ [v]) = stepO cs (rowO cs st row) v := by
  unfold rowO
  rw [List.foldl_append]
  rfl
theorem rowD_deeds {K : PySem.W.Frag} {H : Hp} {n : Nat} {ds : List PyData} {xs : List V} (hx : DpAll K H xs ds) (h : ds.all (deedD (n : Int)) = true) : ∀ v ∈ xs, DeedV n v := by
  intro v hv
  obtain ⟨i, hi, e⟩ := List.getElem_of_mem hv
  obtain ⟨d, hd, hp⟩ := dp_get hx (by rw [List.getElem?_eq_getElem hi, e])
  have h1 := List.all_eq_true.mp h d (List.mem_of_getElem? hd)
  cases hp with
  | str x =>
    have := of_decide_eq_true h1
    exact .inl this
  | int j =>
    have h2 : (decide (0 ≤ j) && decide (j ≤ (n : Int) - 1)) = true := h1
    rw [Bool.and_eq_true, decide_eq_true_eq, decide_eq_true_eq] at h2
    exact .inr ⟨j, rfl, h2.1, by omega⟩
  | non => exact nomatch h1
  | bl b => exact nomatch h1
  | lst _ _ => exact nomatch h1
  | tup _ _ => exact nomatch h1
end FR
set_option maxHeartbeats 2000000
namespace FR
open PySem PySem.Spec PyProof.Rows L2
/-! ### who is refused: the words, the classes at C 0, C 1, .. -/
def kinN : Nat → Str
  | 0 => "NoCards" | 1 => "NoPurse" | 2 => "NoStamps" | 3 => "NoRow" | 4 => "NoNumber" | 5 => "NoPurses" | 6 => "NoSeen" | 7 => "NoRide" | 8 => "NoKind" | 9 => "NoLoan" | _ => "NothingLeft"
/-- what is wished may be weakened -/
def MonoSp (sp : Sp) : Prop := ∀ (vs : List V) (H : Hp) (Q Q' : VK) (E E' : XK), sp vs H Q E → (∀ v H', Q v H' → Q' v H') → (∀ c d H', E c d H' → E' c d H') → sp vs H Q' E'
structure Kin (K : PySem.W.Frag) (mg : Str → Option Value) (C : Nat → Addr) (tf rd : Addr) : Prop where
  w : ∀ j, j < 11 → mg (kinN j) = some (.ref (C j))
  tf : mg "TooFew" = some (.ref tf)
  rd : mg "RideError" = some (.ref rd)
structure KinOf (K : PySem.W.Frag) (C : Nat → Addr) (tf rd : Addr) (i : Nat) : Prop where
  lt : i < 11
  ex : ExcC K (C i)
  k : ∀ j, j < 11 → PySem.W.kitOne K (.ref (C i)) (.ref (C j)) = some (decide (i = j))
  v : PySem.W.kitOne K (.ref (C i)) (.type "ValueError") = some true
  n : PySem.W.exmOne K (.ref (C i)) (.ref tf) = some false
  y : PySem.W.exmOne K (.ref (C i)) (.ref rd) = some true
/-- isinstance(e, the j-th class), e in slot 5 -/
def tIs (K : PySem.W.Frag) (C : Nat → Addr) (a : Addr) (cls : Value) (d : Option Addr) (j : Nat) : TE := tCB (rIsE2 K cls d a) (tCons (tVar 5) (tCons (tC (.ref (C j))) tNil))
def tPr (K : PySem.W.Frag) (C : Nat → Addr) (a : Addr) (cls : Value) (d : Option Addr) (x : Str) (j : Nat) : TE := tTup (tCons (tC (.str x)) (tCons (tIs K C a cls d j) tNil))
/-- what the pair of a word is -/
theorem pr_rd {K : PySem.W.Frag} {C : Nat → Addr} {tf rd a : Addr} {i j : Nat} {x : Str} {σ : L2.St} {H : Hp} {Q : VK} (T : KinOf K C tf rd i) (hj : j < 11) (e : σ[5]? = some (some (.ref a))) (q : ∀ t, H t = none → Q (.ref t) (upd H t (.tup [.str x, .bl (decide (i = j))]))) : tPr K C a (.ref (C i)) none x j σ H Q :=
  ⟨_, e, C i, .ref (C j), .ref (C j), _, rfl, rfl, T.ex, rfl, fun _ r => r, T.k j hj, (by show 2 ≤ sizeLine; decide), q⟩
/-- the words, each beside whether it is so -/
def tWords (K : PySem.W.Frag) (C : Nat → Addr) (a : Addr) (cls : Value) (d : Option Addr) (kin : TE) : TS :=
  tSeq (tAsg (tLst (tCons (tPr K C a cls d "NoCards" 0) (tCons (tPr K C a cls d "NoPurse" 1) tNil))) (gName 6))
  (tSeq (tAsg (tOp rCat (tVar 6) (tLst (tCons (tPr K C a cls d "NoStamps" 2) tNil))) (gName 6))
  (tSeq (tAsg (tOp rCat (tVar 6) (tLst (tCons (tPr K C a cls d "NoRow" 3) (tCons (tPr K C a cls d "NoNumber" 4) tNil)))) (gName 6))
  (tSeq (tAsg (tOp rCat (tVar 6) (tLst (tCons (tPr K C a cls d "NoPurses" 5) (tCons (tPr K C a cls d "NoSeen" 6) tNil)))) (gName 6))
  (tSeq (tAsg (tOp rCat (tVar 6) (tLst (tCons (tPr K C a cls d "NoRide" 7) (tCons (tPr K C a cls d "NoKind" 8) tNil)))) (gName 6))
  (tSeq (tAsg (tOp rCat (tVar 6) (tLst (tCons (tPr K C a cls d "NoLoan" 9) tNil))) (gName 6))
  (tSeq (tDrop (tBM K "list" rAppend (tVar 6) (tCons (tPr K C a cls d "NothingLeft" 10) tNil)))
  (tAsg kin (gName 4))))))))
def tLcH (cls : Value) (wi : TI) (g : TG) (tt : TT) (te : TE) (vs : List Nat) : TE := fun σ H Q => (∃ C, cls = .ref C) ∧ tLc wi g tt te vs σ H Q
theorem pe_lcH2 {X : Cx} {a : Addr} {oe : Obj} {cls : Value} {d : Option Addr} {pn : List (Addr × Obj)} {elt tg l : Expr} {ifs : List Expr} {scope : Scope} {own : List (Str × Nat)} {pos : Pos} {tl : TE} {g : TG} {tt : TT} {te : TE} (z : L2N.Zn cls d oe) (f : ∃ vs, oe.data = .fields vs) (stk : X.stack = X.env :: X.outer) (frame : X.env.frame = some X.env.locals) (nd : X.N.Nodup)
    (hl : PE (X.suite a ((a, oe) :: pn)) l tl) (ok : BlkOk X.N X.env.scope scope own) (hg : ∀ (s : Shared) (H : Hp) (C : Addr) (cl : List (Str × Addr)) (fp : List Addr), Warm ((X.suite a ((a, oe) :: pn)).blk s H scope (compEnvC scope cl C X.env) fp) → PG ((X.suite a ((a, oe) :: pn)).blk s H scope (compEnvC scope cl C X.env) fp) tg g)
    (ht : ∀ (s : Shared) (H : Hp) (C : Addr) (cl : List (Str × Addr)) (fp : List Addr), PTs ((X.suite a ((a, oe) :: pn)).blk s H scope (compEnvC scope cl C X.env) fp) ifs tt) (he : ∀ (s : Shared) (H : Hp) (C : Addr) (cl : List (Str × Addr)) (fp : List Addr), PE ((X.suite a ((a, oe) :: pn)).blk s H scope (compEnvC scope cl C X.env) fp) elt te)
    (fold : ∀ x, foldedSetIterable l X.env x = pure x := by intro _; rfl) : PE (X.suite a ((a, oe) :: pn)) (.ListComp elt [⟨tg, l, ifs, 0⟩] scope pos) (tLcH cls (iList X.K tl) g tt te (own.map (·.2))) := by
  refine ⟨fun pins s σ H Q I h => ?_⟩
  obtain ⟨⟨C, rfl⟩, h⟩ := h
  exact (pe_lcH (X := X.suite a ((a, oe) :: pn)) (warm_suite z f) stk frame nd hl ok hg ht he fold).run pins s σ H Q I h
def tKin (K : PySem.W.Frag) (a : Addr) (cls : Value) (d : Option Addr) : TE :=
  tOp rCat (tLcH cls (iList K (tVar 6)) (gTup K 2 (gCons (gName 7) (gCons (gName 8) gNil))) (tB (tVar 8)) (tVar 7) [7, 8]) (tLst (tCons (tCB (rIsE2 K cls d a) (tCons (tVar 5) (tCons (tC (.ty "ValueError")) tNil))) tNil))
end FR
namespace FR
open PySem PySem.Spec PyProof.Rows L2
/-- the words that are so, and whether it is a ValueError -/
theorem kin_rd {K : PySem.W.Frag} {C : Nat → Addr} {tf rd a w : Addr} {i : Nat} {s0 s1 s2 s3 s4 s7 s8 : Option V} {Hf : Hp} {words : List V} {D : Ends} (T : KinOf K C tf rd i) (ew : Hf w = some (.lst words)) (len : words.length = 11)
    (hall : ∀ (k : Nat) (x : V), words[k]? = some x → ∃ t, x = .ref t ∧ Hf t = some (.tup [.str (kinN k), .bl (decide (i = k))]))
    (q : ∀ p H'', Same Hf H'' → H'' p = some (.lst [.str (kinN i), .bl true]) → D.nx [s0, s1, s2, s3, some (.ref p), some (.ref a), some (.ref w), s7, s8] H'') :
    tAsg (tKin K a (.ref (C i)) none) (gName 4) D [s0, s1, s2, s3, s4, some (.ref a), some (.ref w), s7, s8] Hf := by
  have lt := T.lt
  refine ⟨⟨C i, rfl⟩, _, rfl, w, rfl, ⟨_, SqL.of ew⟩, fun L nL => ?_⟩
  refine lc_list (K := K) (a := w) (xs := words) (fun k H' => Same Hf H' ∧ H' L = some (.lst (if i < k then [.str (kinN i)] else []))) ?_ ?_ ?_ ?_
  · exact ⟨same_new (.refl Hf) nL, by rw [upd_same, if_neg (by omega)]⟩
  · rintro k H' hk ⟨sm, e⟩
    exact SqL.of (sm _ _ ew)
  · rintro k x H' hk ⟨sm, e⟩
    obtain ⟨t, rfl, et⟩ := hall k x hk
    refine ⟨t, _, rfl, SqT.of (sm _ _ et), rfl, _, _, rfl, _, _, rfl, rfl, rfl, _, rfl, _, rfl, ite2 (fun c => ?_) (fun c => ?_)⟩
    · have c' := of_decide_eq_true c
      subst c'
      rw [if_neg (by omega)] at e
      refine ⟨_, rfl, _, e, (by show 0 < sizeLine; decide), same_fresh sm nL, ?_⟩
      rw [upd_same, if_pos (by omega)]
      rfl
    · have c' : ¬ i = k := fun z => c (decide_eq_true z)
      refine ⟨sm, ?_⟩
      rw [e]
      by_cases z : i < k
      · rw [if_pos z, if_pos (by omega)]
      · rw [if_neg z, if_neg (by omega)]
  · rintro H' ⟨sm, e⟩
    rw [len, if_pos lt] at e
    refine ⟨_, rfl, C i, .ty "ValueError", .type "ValueError", true, rfl, rfl, T.ex, rfl, fun _ r => r, T.v, (by show 1 ≤ sizeLine; decide), fun v nv => ?_⟩
    have s1 := same_upd (o := .lst [.bl true]) nv
    refine ⟨L, v, _, _, rfl, rfl, s1 _ _ e, upd_same, (by show 2 ≤ sizeLine; decide), fun p np => ?_⟩
    exact q p _ (same_new (sm.trans s1) np) upd_same
end FR
namespace FR
open PySem PySem.Spec PyProof.Rows L2
/-- a def that may raise, called where it is known not to -/
theorem pe_defX0 {X : Cx} {k j : Nat} {ps : List Str} {sp : Sp} {x : Str} {p pos : Pos} {e : Expr} {es : List Expr} {t : TA} (D : DefX X.prog X.w X.K X.mg X.base x k ps sp) (hr : Room j X.A) (ha : PA X (e :: es) t) (hg : Gl X x := by rfl) (hl : k ≤ j := by decide)
    (hdb : (x == ("__debug__" : Str)) = false := by decide) (he : starEach (e :: es) X.env = (false, eval e X.env) :: starEach es X.env := by rfl) (hpl : (backTo pos (starEach es X.env)).any (·.1) = false := by rfl) :
    PE X (.Call (.Name x p) (e :: es) [] pos) (tCall sp [] E0 t) := by
  obtain ⟨f, fd, F, m, kp, b⟩ := D.ex
  refine pe_call F (hr.mono hl) hg m kp b .nil (fun _ _ _ _ _ _ _ h => ?_) ha hdb he hpl
  obtain ⟨_, _, _, _, _, _, _, _, _, _, _, _, z⟩ := h
  exact z.elim
theorem deeds_eqv {n : Nat} {xs : List V} (h : ∀ v ∈ xs, DeedV n v) : PyData.eqv (.list (xs.map dD)) (.list (xs.map dD)) = true := SeqAt.eqv_refl _ (by rw [PyData.canLay0]; exact (deeds_lay h).1)
theorem deeds_row {n : Nat} : ∀ {xs : List V}, (∀ v ∈ xs, DeedV n v) → (xs.map dD).all (deedD (n : Int)) = true
  | [], _ => rfl
  | v :: r, h => by
    have h1 := deeds_row (n := n) (xs := r) (fun x hx => h x (List.mem_cons_of_mem _ hx))
    rw [List.map_cons, List.all_cons, h1, Bool.and_true]
    rcases h v (List.mem_cons_self ..) with rfl | ⟨i, rfl, i0, i1⟩
    · show decide (V.str "ride" = V.str "ride") = true
      exact decide_eq_true rfl
    · show (decide (0 ≤ i) && decide (i ≤ (n : Int) - 1)) = true
      rw [decide_eq_true i0, decide_eq_true (by omega)]
      rfl
theorem rowD_of {n : Nat} {xs : List V} (h : ∀ v ∈ xs, DeedV n v) (l : xs.length ≤ 100) : rowD (n : Int) (.list (xs.map dD)) = true := by
  show (decide ((xs.map dD).length ≤ 100) && (xs.map dD).all (deedD (n : Int))) = true
  rw [List.length_map, decide_eq_true l, deeds_row h]
  rfl
theorem norow_shaped : SeqAt.shaped (.list [.str "NoRow", .bool true]) = true := by
  unfold SeqAt.shaped
  rw [PyData.canLay0, PyData.canLayAll0, PyData.canLayAll0, PyData.canLayAll0, PyData.depth, PyData.depthAll, PyData.depthAll, PyData.depthAll, PyData.canLay0, PyData.canLay0, PyData.depth, PyData.depth]
  decide +kernel
theorem norow_eqv : PyData.eqv (.list [.str "NoRow", .bool true]) (.list [.str "NoRow", .bool true]) = true := SeqAt.eqv_refl _ (by
  have := norow_shaped
  unfold SeqAt.shaped at this
  exact (Bool.and_eq_true_iff.mp this).1)
end FR
namespace FR
open PySem PySem.Spec PyProof.Rows L2
/-- a list is changed: tuples stay -/
theorem sqT_upd {K : PySem.W.Frag} {H : Hp} {a l : Addr} {xs ys : List V} {o : HO} (h : SqT K H a xs) (e : H l = some (.lst ys)) : SqT K (upd H l o) a xs := by
  rcases h with (h | ⟨ob, h⟩) | h
  · exact .inl (.inl (by rw [upd_ne (ne_of h e (fun z => nomatch z))]; exact h))
  · exact .inl (.inr ⟨ob, by rw [upd_ne (ne_of h e (fun z => nomatch z))]; exact h⟩)
  · exact .inr h
theorem PurseO.updL {K : PySem.W.Frag} {cs : List Int} {H : Hp} {l : Addr} {ys : List V} {o : HO} {v : V} (e : H l = some (.lst ys)) : ∀ {u : Option (Int × List Int)}, PurseO K cs H v u → PurseO K cs (upd H l o) v u
  | none, h => h
  | some (x, zs), ⟨p, e1, ⟨s, h1, h2⟩, l'⟩ => ⟨p, e1, ⟨s, sqT_upd h1 e, sqT_upd h2 e⟩, l'⟩
theorem deedsE_none {xs : List V} (h : xs = []) : PyData.eqv (.list (xs.map dD)) (.list []) = true := by
  have := deeds_none h
  rwa [Bool.not_eq_false'] at this
theorem deedsE_some {xs : List V} (h : xs ≠ []) : PyData.eqv (.list (xs.map dD)) (.list []) = false := by
  have := deeds_some h
  rwa [Bool.not_eq_true'] at this
theorem stepO_no {cs zs : List Int} {x : Int} {v : V} (hl : zs.length = cs.length) (h : DeedV cs.length v) (n : ¬ Can cs x zs v) : stepO cs (some (x, zs)) v = none := by
  show (if canB cs x zs v = true then _ else none) = none
  rw [if_neg (fun z => n ((can_iff hl h).mpr z))]
theorem stepO_yes {cs zs : List Int} {x : Int} {v : V} (hl : zs.length = cs.length) (h : DeedV cs.length v) (n : Can cs x zs v) : stepO cs (some (x, zs)) v = some (aftX x v, aftS cs zs v) := by
  show (if canB cs x zs v = true then _ else none) = _
  rw [if_pos ((can_iff hl h).mp n)]
end FR
namespace FR
open PySem PySem.Spec PyProof.Rows L2
/-- what is no row -/
theorem bads_all {K : PySem.W.Frag} {H : Hp} {n : Nat} {t1 t2 t3 t4 t5 t6 t8 t10 t11 : Addr} (e1 : H t1 = some (.tup [.str "ride"])) (e2 : H t2 = some (.lst [.str "Ride"])) (e3 : H t3 = some (.lst [.int (n : Int)])) (e4 : H t4 = some (.lst [.int (-1)])) (e5 : H t5 = some (.lst [.non])) (e6 : H t6 = some (.lst [.bl false]))
    (e8 : H t8 = some (.lst (List.replicate 101 [V.str "ride"]).flatten)) (e10 : H t10 = some (.tup [.str "ride"])) (e11 : H t11 = some (.lst [.ref t10])) : ∀ x ∈ ([.non, .ref t1, .ref t2, .ref t3, .ref t4, .ref t5, .ref t6, .ref t8, .str "ride", .ref t11] : List V), ∃ d, Dp K H x d ∧ rowD (n : Int) d = false := by
  intro x hx
  simp only [List.mem_cons, List.not_mem_nil, or_false] at hx
  rcases hx with rfl | rfl | rfl | rfl | rfl | rfl | rfl | rfl | rfl | rfl
  · exact ⟨_, .non, rfl⟩
  · exact ⟨_, .tup (SqT.of e1) (.cons (.str _) .nil), rfl⟩
  · refine ⟨_, .lst (SqL.of e2) (.cons (.str _) .nil), ?_⟩
    show (decide (1 ≤ 100) && (decide (V.str "Ride" = V.str "ride") && true)) = false
    decide +kernel
  · refine ⟨_, .lst (SqL.of e3) (.cons (.int _) .nil), ?_⟩
    show (decide (1 ≤ 100) && ((decide (0 ≤ (n : Int)) && decide ((n : Int) ≤ (n : Int) - 1)) && true)) = false
    rw [decide_eq_false (show ¬ (n : Int) ≤ (n : Int) - 1 by omega), Bool.and_false, Bool.false_and, Bool.and_false]
  · exact ⟨_, .lst (SqL.of e4) (.cons (.int _) .nil), rfl⟩
  · exact ⟨_, .lst (SqL.of e5) (.cons .non .nil), rfl⟩
  · exact ⟨_, .lst (SqL.of e6) (.cons (.bl _) .nil), rfl⟩
  · refine ⟨_, .lst (SqL.of e8) (deeds_dp (n := n) fun v hv => ?_), ?_⟩
    · obtain ⟨l, hl, hv'⟩ := List.mem_flatten.mp hv
      rw [List.eq_of_mem_replicate hl] at hv'
      exact .inl (List.mem_singleton.mp hv')
    · show (decide (((List.replicate 101 [V.str "ride"]).flatten.map dD).length ≤ 100) && ((List.replicate 101 [V.str "ride"]).flatten.map dD).all (deedD (n : Int))) = false
      rw [List.length_map, decide_eq_false (by decide +kernel), Bool.false_and]
  · exact ⟨_, .str _, rfl⟩
  · exact ⟨_, .lst (SqL.of e11) (.cons (.tup (SqT.of e10) (.cons (.str _) .nil)) .nil), rfl⟩
end FR
set_option maxHeartbeats 2000000
namespace FR
open PySem PySem.Spec PyProof.Rows L2
/-! ### the end: defs that raise, classes -/
theorem FunAt.defX {P : Program} {w : World} {K : PySem.W.Frag} {mg : Str → Option Value} {base : Heap} {x : Str} {st : Stmt} {k : Nat} {ps : List Str} {sp : Sp} (F : FunAt K mg x st) (ok : ∀ f fd, Fun K x x st f fd → FnOk P w K mg base (L2N.CX P w) k f fd ps sp)
    (h : ∀ (kV doc pm : Value) (an : Option Addr) (cdv ct : Value) (us : List Value), us.length = ps.length → bindArgs (PySem.W.fnOf x x (defArgs st) (defBody st) (defScope st) .none kV doc pm an cdv ct) ⟨us, []⟩ = pure (ps.zip us)) : DefX P w K mg base x k ps sp := by
  obtain ⟨f, fd, F, m⟩ := F
  exact ⟨f, fd, ok f fd F, m, F.kp, F.binds h⟩
theorem DefX.held {P : Program} {w : World} {K : PySem.W.Frag} {mg : Str → Option Value} {base : Heap} {x : Str} {k j : Nat} {ps : List Str} {sp : Sp} (D : DefX P w K mg base x k ps sp) (h : k ≤ j) : ∃ f, mg x = some (.ref f) ∧ HeldX P w K mg base j f sp := by
  obtain ⟨f, fd, F, m, kp, b⟩ := D.ex
  exact ⟨f, m, fd, ps, F.mono h, kp, b⟩
def ExcAtX {K : PySem.W.Frag} {h : Heap} (_ : K.In h) (mg : Str → Option Value) (x : Str) : Prop := ∃ C, ExcT K mg x C
theorem excT_mk {K : PySem.W.Frag} {h : Heap} {mg : Str → Option Value} {x : Str} {C : Addr} (X : K.In h) (G : h.Ns mainGlobals mg) (a1 : PySem.W.nsIn K mainGlobals x = some (some (.ref C))) (ex : PySem.W.excIn K C [.type "ValueError", .type "Exception", .type "BaseException", .type "object"] "ValueError.__new__" = true)
    (kp : PySem.W.keepIn K (.ref C) = true) (sb : PySem.W.subIn K (.ref C) (.type "BaseException") = some true) (ty : PySem.W.typeIn K (.ref C) = some (.type "type")) : ExcAtX X mg x := ⟨C, PySem.W.mg_of X G a1, ex, kp, sb, ty⟩
theorem sglob_mk {K : PySem.W.Frag} {h : Heap} {mg : Str → Option Value} {x n : Str} {v : Value} (X : K.In h) (G : h.Ns mainGlobals mg) (z : PySem.W.nsIn K mainGlobals x = some (some v)) (e : ∃ t, v = .str n t) : ∃ t, mg x = some (.str n t) := by
  obtain ⟨t, rfl⟩ := e
  exact ⟨t, PySem.W.mg_of X G z⟩
/-- an own class asked for by isinstance -/
theorem kit_ref {K : PySem.W.Frag} {C D : Addr} {b : Bool} (hd : PySem.W.hasDictIn K C = true) (ht : PySem.W.typeIn K (.ref C) = some (.type "type")) (h : PySem.W.subIn K (.ref D) (.ref C) = some b) (hs : PySem.W.subIn K (.ref D) (.ref D) = some true) : PySem.W.kitOne K (.ref D) (.ref C) = some b := by
  unfold PySem.W.kitOne
  by_cases q : (Value.ref D == Value.ref C) = true
  · have e : D = C := Value.ref.inj (beq_iff_eq.mp q)
    subst e
    rw [if_pos q]
    exact hs.symm.trans h
  · rw [if_neg q]
    obtain ⟨cd, hc, _⟩ := PySem.W.any_some hd
    show (if ((PySem.W.clsIn K C).isSome && PySem.W.typeIn K (.ref C) == some (.type "type")) = true then PySem.W.subIn K (.ref D) (.ref C) else none) = some b
    have e2 : ((PySem.W.clsIn K C).isSome && PySem.W.typeIn K (.ref C) == some (.type "type")) = true := by rw [hc, ht] <;> rfl
    rw [if_pos e2]
    exact h
def cOf (c0 c1 c2 c3 c4 c5 c6 c7 c8 c9 c10 : Addr) : Nat → Addr
  | 0 => c0 | 1 => c1 | 2 => c2 | 3 => c3 | 4 => c4 | 5 => c5 | 6 => c6 | 7 => c7 | 8 => c8 | 9 => c9 | _ => c10
theorem kin_mk {K : PySem.W.Frag} {h : Heap} {mg : Str → Option Value} {c0 c1 c2 c3 c4 c5 c6 c7 c8 c9 c10 tf rd : Addr} (X : K.In h) (G : h.Ns mainGlobals mg)
    (a0 : PySem.W.nsIn K mainGlobals "NoCards" = some (some (.ref c0)))
    (a1 : PySem.W.nsIn K mainGlobals "NoPurse" = some (some (.ref c1)))
    (a2 : PySem.W.nsIn K mainGlobals "NoStamps" = some (some (.ref c2)))
    (a3 : PySem.W.nsIn K mainGlobals "NoRow" = some (some (.ref c3)))
    (a4 : PySem.W.nsIn K mainGlobals "NoNumber" = some (some (.ref c4)))
    (a5 : PySem.W.nsIn K mainGlobals "NoPurses" = some (some (.ref c5)))
    (a6 : PySem.W.nsIn K mainGlobals "NoSeen" = some (some (.ref c6)))
    (a7 : PySem.W.nsIn K mainGlobals "NoRide" = some (some (.ref c7)))
    (a8 : PySem.W.nsIn K mainGlobals "NoKind" = some (some (.ref c8)))
    (a9 : PySem.W.nsIn K mainGlobals "NoLoan" = some (some (.ref c9)))
    (a10 : PySem.W.nsIn K mainGlobals "NothingLeft" = some (some (.ref c10)))
    (atf : PySem.W.nsIn K mainGlobals "TooFew" = some (some (.ref tf))) (ard : PySem.W.nsIn K mainGlobals "RideError" = some (some (.ref rd))) : Kin K mg (cOf c0 c1 c2 c3 c4 c5 c6 c7 c8 c9 c10) tf rd := by
  refine ⟨fun j hj => ?_, PySem.W.mg_of X G atf, PySem.W.mg_of X G ard⟩
  match j, hj with
  | 0, _ => exact PySem.W.mg_of X G a0
  | 1, _ => exact PySem.W.mg_of X G a1
  | 2, _ => exact PySem.W.mg_of X G a2
  | 3, _ => exact PySem.W.mg_of X G a3
  | 4, _ => exact PySem.W.mg_of X G a4
  | 5, _ => exact PySem.W.mg_of X G a5
  | 6, _ => exact PySem.W.mg_of X G a6
  | 7, _ => exact PySem.W.mg_of X G a7
  | 8, _ => exact PySem.W.mg_of X G a8
  | 9, _ => exact PySem.W.mg_of X G a9
  | 10, _ => exact PySem.W.mg_of X G a10
theorem kinOf_mk {K : PySem.W.Frag} {c0 c1 c2 c3 c4 c5 c6 c7 c8 c9 c10 tf rd ci : Addr} {i : Nat} (lt : i < 11) (hc : cOf c0 c1 c2 c3 c4 c5 c6 c7 c8 c9 c10 i = ci)
    (hg : PySem.W.findIn K (.ref ci) "__getattribute__" = some (some (.builtin "BaseException.__getattribute__"))) (hk : PySem.W.findIn K (.ref ci) "__getattr__" = some none) (hs : PySem.W.subIn K (.ref ci) (.type "BaseException") = some true) (hd : PySem.W.hasDictIn K ci = true)
    (ha : PySem.W.findIn K (.ref ci) "__class__" = some (some (.builtin "object.__class__"))) (hn : PySem.W.specialIn K (.builtin "object.__class__") "__get__" = some (some (.builtin "getset_descriptor.__get__"))) (ht : PySem.W.takesIn K (.builtin "object.__class__") = some true) (hm : PySem.W.mroIn K ci (.type "object") = some true)
    (me : PySem.W.subIn K (.ref ci) (.ref ci) = some true) (sv : PySem.W.subIn K (.ref ci) (.type "ValueError") = some true)
    (d0 : PySem.W.hasDictIn K c0 = true) (t0 : PySem.W.typeIn K (.ref c0) = some (.type "type")) (s0 : PySem.W.subIn K (.ref ci) (.ref c0) = some (decide (i = 0)))
    (d1 : PySem.W.hasDictIn K c1 = true) (t1 : PySem.W.typeIn K (.ref c1) = some (.type "type")) (s1 : PySem.W.subIn K (.ref ci) (.ref c1) = some (decide (i = 1)))
    (d2 : PySem.W.hasDictIn K c2 = true) (t2 : PySem.W.typeIn K (.ref c2) = some (.type "type")) (s2 : PySem.W.subIn K (.ref ci) (.ref c2) = some (decide (i = 2)))
    (d3 : PySem.W.hasDictIn K c3 = true) (t3 : PySem.W.typeIn K (.ref c3) = some (.type "type")) (s3 : PySem.W.subIn K (.ref ci) (.ref c3) = some (decide (i = 3)))
    (d4 : PySem.W.hasDictIn K c4 = true) (t4 : PySem.W.typeIn K (.ref c4) = some (.type "type")) (s4 : PySem.W.subIn K (.ref ci) (.ref c4) = some (decide (i = 4)))
    (d5 : PySem.W.hasDictIn K c5 = true) (t5 : PySem.W.typeIn K (.ref c5) = some (.type "type")) (s5 : PySem.W.subIn K (.ref ci) (.ref c5) = some (decide (i = 5)))
    (d6 : PySem.W.hasDictIn K c6 = true) (t6 : PySem.W.typeIn K (.ref c6) = some (.type "type")) (s6 : PySem.W.subIn K (.ref ci) (.ref c6) = some (decide (i = 6)))
    (d7 : PySem.W.hasDictIn K c7 = true) (t7 : PySem.W.typeIn K (.ref c7) = some (.type "type")) (s7 : PySem.W.subIn K (.ref ci) (.ref c7) = some (decide (i = 7)))
    (d8 : PySem.W.hasDictIn K c8 = true) (t8 : PySem.W.typeIn K (.ref c8) = some (.type "type")) (s8 : PySem.W.subIn K (.ref ci) (.ref c8) = some (decide (i = 8)))
    (d9 : PySem.W.hasDictIn K c9 = true) (t9 : PySem.W.typeIn K (.ref c9) = some (.type "type")) (s9 : PySem.W.subIn K (.ref ci) (.ref c9) = some (decide (i = 9)))
    (d10 : PySem.W.hasDictIn K c10 = true) (t10 : PySem.W.typeIn K (.ref c10) = some (.type "type")) (s10 : PySem.W.subIn K (.ref ci) (.ref c10) = some (decide (i = 10)))
    (dtf : PySem.W.hasDictIn K tf = true) (ttf : PySem.W.typeIn K (.ref tf) = some (.type "type")) (btf : PySem.W.subIn K (.ref tf) (.type "BaseException") = some true) (stf : PySem.W.subIn K (.ref ci) (.ref tf) = some false)
    (drd : PySem.W.hasDictIn K rd = true) (trd : PySem.W.typeIn K (.ref rd) = some (.type "type")) (brd : PySem.W.subIn K (.ref rd) (.type "BaseException") = some true) (srd : PySem.W.subIn K (.ref ci) (.ref rd) = some true) : KinOf K (cOf c0 c1 c2 c3 c4 c5 c6 c7 c8 c9 c10) tf rd i := by
  subst hc
  refine ⟨lt, ⟨hg, hk, hs, hd, ha, hn, ht, hm⟩, fun j hj => ?_, ?_, PySem.W.exm_ref btf dtf ttf stf, PySem.W.exm_ref brd drd trd srd⟩
  · match j, hj with
    | 0, _ => exact kit_ref d0 t0 s0 me
    | 1, _ => exact kit_ref d1 t1 s1 me
    | 2, _ => exact kit_ref d2 t2 s2 me
    | 3, _ => exact kit_ref d3 t3 s3 me
    | 4, _ => exact kit_ref d4 t4 s4 me
    | 5, _ => exact kit_ref d5 t5 s5 me
    | 6, _ => exact kit_ref d6 t6 s6 me
    | 7, _ => exact kit_ref d7 t7 s7 me
    | 8, _ => exact kit_ref d8 t8 s8 me
    | 9, _ => exact kit_ref d9 t9 s9 me
    | 10, _ => exact kit_ref d10 t10 s10 me
  · unfold PySem.W.kitOne
    rw [if_neg (by intro q; exact nomatch beq_iff_eq.mp q)]
    unfold PySem.W.kitCls
    dsimp only
    rw [if_pos (by decide +kernel)]
    exact sv
def KinL (K : PySem.W.Frag) (C : Nat → Addr) (tf rd : Addr) : List Nat → Prop
  | [] => True
  | i :: is => KinOf K C tf rd i ∧ KinL K C tf rd is
theorem kinL_nil {K : PySem.W.Frag} {C : Nat → Addr} {tf rd : Addr} : KinL K C tf rd [] := trivial
theorem kinL_cons {K : PySem.W.Frag} {C : Nat → Addr} {tf rd : Addr} {i : Nat} {is : List Nat} (h : KinOf K C tf rd i) (t : KinL K C tf rd is) : KinL K C tf rd (i :: is) := ⟨h, t⟩
def KinAtX {K : PySem.W.Frag} {h : Heap} (_ : K.In h) (mg : Str → Option Value) (is : List Nat) : Prop := ∃ C tf rd, Kin K mg C tf rd ∧ KinL K C tf rd is
theorem kinAt_mk {K : PySem.W.Frag} {h : Heap} {mg : Str → Option Value} {is : List Nat} {C : Nat → Addr} {tf rd : Addr} (X : K.In h) (a : Kin K mg C tf rd) (b : KinL K C tf rd is) : KinAtX X mg is := ⟨C, tf, rd, a, b⟩
end FR
set_option maxHeartbeats 2000000
namespace FR
open PySem PySem.Spec PyProof.Rows L2 LamX NdefX
/-! ### lambdas with parameters, which capture nothing -/
/-- at f stands a lambda: F tells its words, b its body -/
def LamO (f : Addr) (F : NF) (b : Expr) : HO := .ext fun h => ∃ (od : Option Addr) (sl : Array (Option Value)) (pm ctv : Value), h.get? f = some (⟨.type "function", od, .func (PySem.W.kla_fn "<lambda>" F.qual F.params b F.scope F.cl pm (.ref F.c) ctv), sl⟩ : Obj)
theorem lamO_ne {f : Addr} {F : NF} {b : Expr} (ps : Array Value) : LamO f F b ≠ .tbl ps := by
  intro z
  unfold LamO at z
  exact nomatch z
theorem lamO_get {P : Program} {w : World} {H : Hp} {h : Heap} {f : Addr} {F : NF} {b : Expr} (ok : HOk P w H h) (e : H f = some (LamO f F b)) : ∃ (od : Option Addr) (sl : Array (Option Value)) (pm ctv : Value), h.get? f = some (⟨.type "function", od, .func (PySem.W.kla_fn "<lambda>" F.qual F.params b F.scope F.cl pm (.ref F.c) ctv), sl⟩ : Obj) :=
  (ok f _ e).1
theorem inv_lamO {X : Cx} {pins : List (Addr × Obj)} {σ : L2.St} {H : Hp} {s : Shared} {F : NF} {b : Expr} {tk : Nat} {pm ctv : Value} (I : Inv X pins σ H s) :
    Inv X pins σ (upd H s.heap.objs.size (LamO s.heap.objs.size F b)) { s with heap := s.heap.push (PySem.W.kla_obj "<lambda>" F.qual F.params b F.scope F.cl pm F.c ctv), toks := tk } := by
  have at_ : (s.heap.push (PySem.W.kla_obj "<lambda>" F.qual F.params b F.scope F.cl pm F.c ctv)).get? s.heap.objs.size = some (PySem.W.kla_obj "<lambda>" F.qual F.params b F.scope F.cl pm F.c ctv) := Heap.get?_push_size _ rfl
  refine I.laid (a := s.heap.objs.size) (fun _ _ e => Heap.get?_push_of_some _ e) (Nat.le_refl _) ⟨⟨_, _, pm, ctv, at_⟩, ⟨_, at_⟩, ?_⟩
  rintro h1 h2 ⟨od, sl, p', t', z⟩ st
  exact ⟨od, sl, p', t', st _ z⟩
theorem clo_nil {cells : List (Str × Addr)} {names : List (Str × NameKind)} (nf : ∀ y ∈ names, y.2 ≠ .free) : cloFrom cells names [] = [] := by
  refine List.eq_nil_iff_forall_not_mem.mpr ?_
  rintro ⟨n, c⟩ hm
  rcases cloFrom_mem hm with z | ⟨z, _⟩
  · exact nomatch z
  · exact nf _ z rfl
/-- what a lambda's making leaves -/
theorem lam_lay {X : Cx} {pins : List (Addr × Obj)} {σ : L2.St} {H : Hp} {s : Shared} {T : List (Addr × Str)} {c P : Addr} {params : Arguments} {b : Expr} {scope : Scope} {pos : Pos} {E : Value → Shared → Prop} {Q : Value → Shared → Prop} (I : Inv X pins σ H s) (TB : TabB X.base X.mg c P) (code : X.env.code = .ref c)
    (mem : (P, X.env.qual ++ "<lambda>") ∈ T) (one : ∀ p ∈ T, p.1 = P → p.2 = X.env.qual ++ "<lambda>") (tabs : Tabs T H) (dflt : defaultsOf params X.env = ([], [])) (nf : ∀ y ∈ scope.names, y.2 ≠ .free)
    (go : ∀ (f c' : Addr) (H1 : Hp) (s' : Shared), Inv X pins σ H1 s' → ExtN H H1 → Tabs T H1 → H f = none → H1 f = some (LamO f ⟨"<lambda>", X.env.qual ++ "<lambda>", params, [], scope, [], c'⟩ b) → H1 c' = some (CodeO c' (X.env.qual ++ "<lambda>")) → Q (.ref f) s') :
    wpAny (model X.prog X.w) X.A (eval (.Lambda params b scope pos) X.env) Q E s := by
  obtain ⟨ps, eP, tri, among⟩ := tabs _ mem
  have hcl : closureFor scope X.env = pure [] := by
    have z := closure_ok (scope := scope) (env := X.env) (fun y hy e => absurd e (nf y hy))
    rw [clo_nil nf] at z
    exact z
  have getP : s.heap.get? P = some { cls := .none, data := .fields ps } := I.hok P _ eP
  have blt : s.heap.BuiltinsAt X.mg P := TB.bm.keeps I.bk
  refine PySem.W.kla_eval dflt ?_
  rcases hc : codeAmong pos ps.toList with _ | cv
  · refine PySem.W.kla_makeFunction (clos := []) (mg := X.mg) (c := c) (P := P) (ps := ps) hcl I.ok.glob (I.mod.glob.keeps I.bk) code (TB.code.keeps I.bk) getP tri hc TB.gP blt ?_
    intro c' ctv h' tk keep ge lt rec tab
    obtain ⟨c2, oc, vs, t, e2, hoc, hdat, hq⟩ := rec
    cases e2
    have nC : H c' = none := I.hok.fresh ge
    have I1 := inv_table (t' := tk) (more := #[rawInt pos.line, rawInt pos.col, .ref c']) (h' := h') I eP (fun d o n e => keep d o n e) tab ge ⟨oc, vs, t, hoc, hdat, hq⟩
    have ext : ExtN H (upd (upd H P (.tbl (ps ++ #[rawInt pos.line, rawInt pos.col, .ref c']))) c' (CodeO c' (X.env.qual ++ "<lambda>"))) := by
      intro d o e n
      have d1 : d ≠ c' := ne_of_none e nC
      have d2 : d ≠ P := by
        rintro rfl
        rw [eP] at e
        exact n ps (Option.some.inj e).symm
      rw [upd_ne d1, upd_ne d2]
      exact e
    have toL : (ps ++ #[rawInt pos.line, rawInt pos.col, .ref c']).toList = ps.toList ++ [rawInt pos.line, rawInt pos.col, .ref c'] := by simp
    have tabs1 : Tabs T (upd (upd H P (.tbl (ps ++ #[rawInt pos.line, rawInt pos.col, .ref c']))) c' (CodeO c' (X.env.qual ++ "<lambda>"))) := by
      intro p hp
      by_cases q : p.1 = P
      · rw [one p hp q, q]
        refine ⟨_, (upd_ne (ne_of_none eP nC)).trans upd_same, toL ▸ PySem.TriplesOk_snoc _ _ _ _ tri, ?_⟩
        intro p' cv hcv
        rw [toL] at hcv
        rcases among_app _ tri hcv with z | z
        · obtain ⟨c0, e1, e2⟩ := among p' cv z
          exact ⟨c0, e1, ext _ _ e2 codeO_ne⟩
        · exact ⟨c', z, upd_same⟩
      · obtain ⟨ps', a1, a2, a3⟩ := tabs p hp
        refine ⟨ps', (upd_ne (ne_of_none a1 nC)).trans ((upd_ne q).trans a1), a2, ?_⟩
        intro p' cv hcv
        obtain ⟨c0, e1, e2⟩ := a3 p' cv hcv
        exact ⟨c0, e1, ext _ _ e2 codeO_ne⟩
    have nF := I1.hok.fresh (Nat.le_refl _)
    have I2 := inv_lamO (F := ⟨"<lambda>", X.env.qual ++ "<lambda>", params, [], scope, [], c'⟩) (b := b) (tk := tk) (pm := (X.mg "__name__").getD .none) (ctv := ctv) I1
    refine go h'.objs.size c' _ _ I2 ?_ (tabs1.ext ?_) (I.hok.fresh (Nat.le_trans ge (Nat.le_of_lt lt))) upd_same ((upd_ne (Nat.ne_of_lt lt)).trans upd_same)
    · intro d o e n
      have e1 := ext d o e n
      exact (upd_ne (ne_of_none e1 nF)).trans e1
    · intro d o e
      exact (upd_ne (ne_of_none e nF)).trans e
  · obtain ⟨c', rfl, hco⟩ := among pos cv hc
    refine PySem.W.kla_makeFunctionHit (clos := []) (mg := X.mg) (c := c) (P := P) (ps := ps) hcl I.ok.glob (I.mod.glob.keeps I.bk) code (TB.code.keeps I.bk) getP tri hc blt ?_
    intro ctv h' tk keep ge
    have I1 : Inv X pins σ H { s with heap := h', toks := tk } := I.kept keep
    have nF : H h'.objs.size = none := I1.hok.fresh (Nat.le_refl _)
    have I2 := inv_lamO (F := ⟨"<lambda>", X.env.qual ++ "<lambda>", params, [], scope, [], c'⟩) (b := b) (tk := tk) (pm := (X.mg "__name__").getD .none) (ctv := ctv) I1
    have ext : ∀ d o, H d = some o → upd H h'.objs.size (LamO h'.objs.size ⟨"<lambda>", X.env.qual ++ "<lambda>", params, [], scope, [], c'⟩ b) d = some o := fun d o e => (upd_ne (ne_of_none e nF)).trans e
    exact go h'.objs.size c' _ _ I2 (fun d o e _ => ext d o e) (tabs.ext ext) nF upd_same (ext _ _ hco)
/-- the reading of a lambda -/
def tLamV (T : List (Addr × Str)) (mk : Addr → NF) (b : Expr) : TE := fun _ H Q => Tabs T H ∧ ∀ (f c' : Addr) (H1 : Hp), ExtN H H1 → Tabs T H1 → H f = none → H1 f = some (LamO f (mk c') b) → H1 c' = some (CodeO c' (mk c').qual) → Q (.ref f) H1
theorem pe_lamV {X : Cx} {T : List (Addr × Str)} {c P : Addr} {params : Arguments} {b : Expr} {scope : Scope} {pos : Pos} (TB : TabB X.base X.mg c P) (code : X.env.code = .ref c) (mem : (P, X.env.qual ++ "<lambda>") ∈ T) (one : ∀ p ∈ T, p.1 = P → p.2 = X.env.qual ++ "<lambda>")
    (dflt : defaultsOf params X.env = ([], [])) (nf : ∀ y ∈ scope.names, y.2 ≠ .free) : PE X (.Lambda params b scope pos) (tLamV T (fun c' => ⟨"<lambda>", X.env.qual ++ "<lambda>", params, [], scope, [], c'⟩) b) := by
  refine ⟨fun pins s σ H Q I h => ?_⟩
  obtain ⟨tabs, h⟩ := h
  exact lam_lay I TB code mem one tabs dflt nf fun f c' H1 s' I1 ext t1 n0 e1 e2 => ⟨.ref f, H1, I1, rfl, h f c' H1 ext t1 n0 e1 e2⟩
/-- a lambda's promise -/
structure LOk (P : Program) (w : World) (K : PySem.W.Frag) (mg : Str → Option Value) (base : Heap) (k : Nat) (f : Addr) (F : NF) (b : Expr) (sp : Sp) : Prop where
  run : ∀ (A : Around) (outer : List Env) (s : Shared) (H : Hp) (us : List Value) (vs : List V) (Q : VK) (E : XK), Room k A → Env0 P w K mg base A outer s H → H f = some (LamO f F b) → H F.c = some (CodeO F.c F.qual) → Vals vs us → sp vs H Q E →
    codeAny (model P w) A (.call (.ref f) ⟨us, []⟩) (CR (L2N.CX P w) outer P w H s Q E) s
theorem LOk.mono {P : Program} {w : World} {K : PySem.W.Frag} {mg : Str → Option Value} {base : Heap} {j k : Nat} {f : Addr} {F : NF} {b : Expr} {sp : Sp} (o : LOk P w K mg base j f F b sp) (h : j ≤ k) : LOk P w K mg base k f F b sp :=
  ⟨fun A outer s H us vs Q E hr => o.run A outer s H us vs Q E (hr.mono h)⟩
theorem lok_of {P : Program} {w : World} {K : PySem.W.Frag} {mg : Str → Option Value} {base : Heap} {k : Nat} {f : Addr} {F : NF} {b : Expr} {N ps : List Str} {sp : Sp} (S : NScope N ps [] F.scope) (cl : F.cl = [])
    (bind : ∀ (pm ctv : Value) (us : List Value), us.length = ps.length → bindArgs (PySem.W.kla_fn "<lambda>" F.qual F.params b F.scope F.cl pm (.ref F.c) ctv) ⟨us, []⟩ = pure (ps.zip us)) (len : ∀ vs H Q E, sp vs H Q E → vs.length = ps.length)
    (body : ∀ (A : Around) (outer : List Env) (s : Shared) (H : Hp) (vs : List V) (Q : VK) (E : XK), Room k (A.deeper (envF F f s.heap.objs.size)) → sp vs H Q E → ∃ t, PE (ncx (L2N.CX P w) P w K mg base N F f A outer s H E) b t ∧ t (startF N vs []) H Q) : LOk P w K mg base (k + 1) f F b sp := by
  refine ⟨fun A outer s H us vs Q E hr e0 ef ec r wish => ?_⟩
  have hl := len _ _ _ _ wish
  have lim : s.heap.NoLimit := e0.mod.nolimit.keeps fun d o e => (e0.bs d o e).1
  have cells : CellsAt F.cl [] [] s.heap H := by
    rw [cl]
    exact ⟨rfl, fun y c e => (nomatch e), fun x y c e => (nomatch e), fun i y e => (nomatch e)⟩
  obtain ⟨od, sl, pm, ctv, ho⟩ := lamO_get e0.hok ef
  refine PySem.W.kla_callFunE hr.depth ho rfl S.co S.gen rfl (codeO_at e0.hok ec) ?_
  rw [bind pm ctv us (by rw [← r.length]; exact hl)]
  refine wpAny_pure (wpAny_newFunctionEnv S.nocell (fun y hy => S.par y.1 (List.of_mem_zip (show (y.1, y.2) ∈ ps.zip us from hy)).1) (fun h1 ns sb => ⟨lim.fresh _ sb, ?_⟩) S.kind)
  have keep : ∀ d o, s.heap.get? d = some o → h1.get? d = some o := fun d o e => sb.extBut d o (Nat.ne_of_lt (Heap.lt_size e)) (Heap.get?_push_of_some _ e)
  obtain ⟨t, pe, wish'⟩ := body A outer s H vs Q E (hr.deeper _) wish
  have I : Inv (ncx (L2N.CX P w) P w K mg base N F f A outer s H E) [] (startF N vs []) H { s with heap := h1, toks := s.toks + (ps.zip us).length } := inv_startN S hr.hd e0 hl r cells ns keep
  show codeAny _ _ (.expr b (envF F f s.heap.objs.size)) _ _
  refine PySem.W.kla_codeExpr (wpAny_mono (pe.run [] _ _ H Q I wish') ?_ fun e s' hs => hs)
  rintro v s' ⟨v', H', J, rv, q⟩
  exact ⟨v', H', J.os, J.bare, J.base, J.hok, rv, q⟩
/-- what may be called: a def of the program's, or a lambda that stands in H -/
def HeldH (P : Program) (w : World) (K : PySem.W.Frag) (mg : Str → Option Value) (base : Heap) (k : Nat) (f : Addr) (sp : Sp) (H : Hp) : Prop :=
  HeldX P w K mg base k f sp ∨ ∃ F b, LOk P w K mg base k f F b sp ∧ H f = some (LamO f F b) ∧ H F.c = some (CodeO F.c F.qual)
theorem HeldH.same {P : Program} {w : World} {K : PySem.W.Frag} {mg : Str → Option Value} {base : Heap} {k : Nat} {f : Addr} {sp : Sp} {H H' : Hp} (h : HeldH P w K mg base k f sp H) (s : Same H H') : HeldH P w K mg base k f sp H' := by
  rcases h with h | ⟨F, b, o, e1, e2⟩
  · exact .inl h
  · exact .inr ⟨F, b, o, s _ _ e1, s _ _ e2⟩
def tCallH (i : Nat) (P : Program) (w : World) (K : PySem.W.Frag) (mg : Str → Option Value) (base : Heap) (k : Nat) (W : WX) (t : TA) : TE := fun σ H Q => ∃ f sp, σ[i]? = some (some (.ref f)) ∧ ((HeldX P w K mg base k f sp ∧ t σ H fun vs H1 => sp vs H1 Q (fun cls d H' => W cls d σ H')) ∨
  ∃ F b, LOk P w K mg base k f F b sp ∧ H f = some (LamO f F b) ∧ t σ H fun vs H1 => H1 f = some (LamO f F b) ∧ H1 F.c = some (CodeO F.c F.qual) ∧ sp vs H1 Q (fun cls d H' => W cls d σ H'))
theorem pe_callH {X : Cx} {k i : Nat} {x : Str} {p pos : Pos} {e : Expr} {es : List Expr} {t : TA} {W : WX} (hr : Room k X.A) (slot : X.N[i]? = some x) (vis : Vis X.env.scope x) (tk : L2N.Takes X W) (ha : PA X (e :: es) t)
    (hdb : (x == ("__debug__" : Str)) = false := by decide) (hcd : (x == ("__classdict__" : Str)) = false := by decide) (he : starEach (e :: es) X.env = (false, eval e X.env) :: starEach es X.env := by rfl) (hpl : (backTo pos (starEach es X.env)).any (·.1) = false := by rfl) :
    PE X (.Call (.Name x p) (e :: es) [] pos) (tCallH i X.prog X.w X.K X.mg X.base k W t) := by
  refine ⟨fun pins s σ H Q I h => ?_⟩
  obtain ⟨f, sp, at_, h⟩ := h
  rcases h with ⟨hx, wish⟩ | ⟨F, b, lk, ef, wish⟩
  · exact (pe_callV (k := k) (i := i) hr slot vis tk ha hdb hcd he hpl).run pins s σ H Q I ⟨f, sp, at_, hx, wish⟩
  · refine wpAny_Call_Name_kw (thn ((pe_var (pos := p) slot vis hdb hcd).run pins s σ H (fun v H1 => v = .ref f ∧ H = H1) I ⟨.ref f, at_, rfl, rfl⟩) fun u s1 got => ?_)
    obtain ⟨v, H1, I1, rel, rfl, rfl⟩ := got
    cases rel
    have fa : ∀ {pins : List (Addr × Obj)} {σ : L2.St} {H : Hp} {s : Shared}, Inv X pins σ H s → H f = some (LamO f F b) → PySem.W.FnAt f s.heap := by
      intro pins σ H s J e
      obtain ⟨od, sl, pm, ctv, ho⟩ := lamO_get J.hok e
      exact ⟨_, od, _, sl, ho⟩
    refine PySem.W.callWith_F (first := []) (fa I1 ef) (thn (ha.run pos pins s1 σ _ _ I1 wish) fun us s2 got => ?_) he hpl
    obtain ⟨vs, H2, I2, r, e1, e2, q⟩ := got
    refine ⟨fa I2 e1, ?_⟩
    show wpAny _ _ (call (.ref f) us) _ _ _
    refine wpAny_call (codeAny_mono (lk.run X.A X.stack s2 H2 us vs Q (fun cls d H' => W cls d σ H') hr I2.env0 e1 e2 r q) ?_)
    intro r s' hq
    match r, hq with
    | .error e, hq => exact L2N.passAt tk σ pins H2 s2 e s' I2 hq
    | .ok (.ret u), hq => exact I2.after hq
    | .ok .next, hq => exact hq.elim
    | .ok .brk, hq => exact hq.elim
    | .ok .cont, hq => exact hq.elim
end FR
namespace FR
open PySem PySem.Spec PyProof.Rows L2 LamX NdefX
theorem held3 {P : Program} {w : World} {K : PySem.W.Frag} {mg : Str → Option Value} {base : Heap} {k : Nat} {f : Addr} {sp : Sp} {σ : L2.St} {H : Hp} {Q : VK} {W : WX} {x y z : V} (h : HeldH P w K mg base k f sp H) (e1 : σ[1]? = some (some x)) (e2 : σ[2]? = some (some y)) (e3 : σ[3]? = some (some z)) (q : sp [x, y, z] H Q (fun cls d H' => W cls d σ H')) :
    (HeldX P w K mg base k f sp ∧ tCons (tVar 1) (tCons (tVar 2) (tCons (tVar 3) tNil)) σ H fun vs H1 => sp vs H1 Q (fun cls d H' => W cls d σ H')) ∨
      ∃ F b, LOk P w K mg base k f F b sp ∧ H f = some (LamO f F b) ∧ tCons (tVar 1) (tCons (tVar 2) (tCons (tVar 3) tNil)) σ H fun vs H1 => H1 f = some (LamO f F b) ∧ H1 F.c = some (CodeO F.c F.qual) ∧ sp vs H1 Q (fun cls d H' => W cls d σ H') := by
  rcases h with h | ⟨F, b, lk, a1, a2⟩
  · exact .inl ⟨h, x, e1, y, e2, z, e3, q⟩
  · exact .inr ⟨F, b, lk, a1, x, e1, y, e2, z, e3, a1, a2, q⟩
end FR
set_option maxHeartbeats 2000000
namespace FR
open PySem PySem.Spec PyProof.Rows L2 LamX
theorem call_repr_bl {X : Cx} : CallR X (.builtin "repr") (fun xs H Q => ∃ b : Bool, xs = [.bl b] ∧ Q (.str (if b then "True" else "False")) H) := by
  intro pins s σ H xs us Q I r h
  obtain ⟨b, rfl, q⟩ := h
  obtain ⟨u, rfl, rx⟩ := vals1 r
  cases rx
  exact PySem.P.repr_of_bool ⟨.str _, H, I.tok _, ⟨_, rfl⟩, q⟩
/-- a def whose code object is told -/
theorem okC {P : Program} {w : World} {K : PySem.W.Frag} {mg : Str → Option Value} {base : Heap} {x qual : Str} {st : Stmt} {f : Addr} {fd : FuncData} {N ps : List Str} {k : Nat} {sp : Sp} (F : Fun K x qual st f fd) (S : FnScope N ps (defScope st)) (len : ∀ vs H Q E, sp vs H Q E → vs.length = ps.length)
    (body : ∀ (A : Around) (outer : List Env) (s : Shared) (H : Hp) (vs : List V) (Q : VK) (E : XK), Room k (A.deeper (envOfC qual (defScope st) s.heap.objs.size f fd.code)) → sp vs H Q E →
      ∃ t, PSs (cxOf CX0 P w K mg base N qual (defScope st) f fd.code A outer s H E).nox (defBody st) t ∧ t { nx := fun _ H' => Q .non H', rt := Q } (L2.start N vs) H) : FnOk P w K mg base CX0 (k + 1) f fd ps sp := by
  obtain ⟨oc, od, kV, doc, pm, an, cdv, ct, osl, rfl, lk, hcd⟩ := F.ex
  refine fn_of lk hcd S len fun A outer s H vs Q E room wish => ?_
  obtain ⟨t, pt, q⟩ := body A outer s H vs Q E room wish
  exact ⟨t, pt.nox, q⟩
/-! ### data of bounded width and depth -/
def Sz (m : Nat) : Nat → PyData → Prop
  | 0, .list _ => False
  | 0, .tuple _ => False
  | n + 1, .list ds => ds.length ≤ m ∧ ∀ d ∈ ds, Sz m n d
  | n + 1, .tuple ds => ds.length ≤ m ∧ ∀ d ∈ ds, Sz m n d
  | _, _ => True
theorem Sz.mono {m m' : Nat} (hm : m ≤ m') : ∀ {n n' : Nat} {d : PyData}, n ≤ n' → Sz m n d → Sz m' n' d
  | 0, n', d, hn, h => by
    cases d <;> first | exact h.elim | (cases n' <;> exact True.intro)
  | n + 1, 0, d, hn, h => by omega
  | n + 1, n' + 1, d, hn, h => by
    cases d with
    | list ds => exact ⟨Nat.le_trans h.1 hm, fun e he => Sz.mono hm (by omega) (h.2 e he)⟩
    | tuple ds => exact ⟨Nat.le_trans h.1 hm, fun e he => Sz.mono hm (by omega) (h.2 e he)⟩
    | _ => exact True.intro
def AllD (K : PySem.W.Frag) (H : Hp) (m n : Nat) (xs : List V) : Prop := ∀ x ∈ xs, ∃ d, Dp K H x d ∧ Sz m n d
section
variable {K : PySem.W.Frag} {H H' : Hp} {m m' n n' : Nat} {xs ys : List V} {x : V} {d : PyData}
theorem AllD.same (h : AllD K H m n xs) (s : Same H H') : AllD K H' m n xs := by
  intro x hx
  obtain ⟨d, h1, h2⟩ := h x hx
  exact ⟨d, Same.dp s h1, h2⟩
theorem AllD.mono (h : AllD K H m n xs) (hm : m ≤ m') (hn : n ≤ n') : AllD K H m' n' xs := by
  intro x hx
  obtain ⟨d, h1, h2⟩ := h x hx
  exact ⟨d, h1, h2.mono hm hn⟩
theorem AllD.nil : AllD K H m n [] := fun x hx => nomatch hx
theorem AllD.cons (h : Dp K H x d) (z : Sz m n d) (t : AllD K H m n xs) : AllD K H m n (x :: xs) := by
  intro y hy
  rcases List.mem_cons.mp hy with rfl | g
  · exact ⟨d, h, z⟩
  · exact t y g
theorem AllD.app (h : AllD K H m n xs) (t : AllD K H m n ys) : AllD K H m n (xs ++ ys) := by
  intro y hy
  rcases List.mem_append.mp hy with g | g
  · exact h y g
  · exact t y g
theorem AllD.sub (h : AllD K H m n xs) (s : ∀ y ∈ ys, y ∈ xs) : AllD K H m n ys := fun y hy => h y (s y hy)
theorem cut_mem {lo hi : Option Int} : ∀ y ∈ cutV xs lo hi, y ∈ xs := fun _ hy => List.mem_of_mem_drop (List.mem_of_mem_take hy)
theorem AllD.of {ds : List PyData} (h : DpAll K H xs ds) (z : ∀ d ∈ ds, Sz m n d) : AllD K H m n xs := by
  intro x hx
  obtain ⟨i, hi, e⟩ := List.getElem_of_mem hx
  obtain ⟨d, hd, hp⟩ := dp_get h (by rw [List.getElem?_eq_getElem hi, e])
  exact ⟨d, hp, z d (List.mem_of_getElem? hd)⟩
theorem AllD.all : ∀ {xs : List V}, AllD K H m n xs → ∃ ds, DpAll K H xs ds ∧ ds.length = xs.length ∧ ∀ d ∈ ds, Sz m n d
  | [], _ => ⟨[], .nil, rfl, fun d hd => nomatch hd⟩
  | x :: xs, h => by
    obtain ⟨d, h1, h2⟩ := h x (List.mem_cons_self ..)
    obtain ⟨ds, g1, g2, g3⟩ := AllD.all (xs := xs) (fun y hy => h y (List.mem_cons_of_mem _ hy))
    refine ⟨d :: ds, .cons h1 g1, congrArg (· + 1) g2, fun e he => ?_⟩
    rcases List.mem_cons.mp he with rfl | g
    · exact h2
    · exact g3 e g
theorem AllD.lst {a : Addr} (h : AllD K H m n xs) (l : xs.length ≤ m) (e : H a = some (.lst xs)) : ∃ d, Dp K H (.ref a) d ∧ Sz m (n + 1) d := by
  obtain ⟨ds, g1, g2, g3⟩ := h.all
  exact ⟨.list ds, .lst (SqL.of e) g1, by rw [g2]; exact l, g3⟩
theorem AllD.tup {a : Addr} (h : AllD K H m n xs) (l : xs.length ≤ m) (e : SqT K H a xs) : ∃ d, Dp K H (.ref a) d ∧ Sz m (n + 1) d := by
  obtain ⟨ds, g1, g2, g3⟩ := h.all
  exact ⟨.tuple ds, .tup e g1, by rw [g2]; exact l, g3⟩
end
/-! ### all but the tables of code objects is kept -/
theorem ext_same {H H' : Hp} (s : Same H H') : ExtN H H' := fun b o e _ => s b o e
theorem ntbl_lst {xs : List V} (ps : Array Value) : HO.lst xs ≠ .tbl ps := fun z => nomatch z
theorem ntbl_tup {xs : List V} (ps : Array Value) : HO.tup xs ≠ .tbl ps := fun z => nomatch z
theorem ntbl_frz {o : Obj} {u : HO} (ps : Array Value) : HO.frz o u ≠ .tbl ps := fun z => nomatch z
theorem ext_seqT {K : PySem.W.Frag} {H H' : Hp} {a : Addr} {xs : List V} (e : ExtN H H') (h : SqT K H a xs) : SqT K H' a xs := by
  rcases h with (h | ⟨o, h⟩) | h
  · exact .inl (.inl (e _ _ h ntbl_tup))
  · exact .inl (.inr ⟨o, e _ _ h ntbl_frz⟩)
  · exact .inr h
theorem ext_seqL {K : PySem.W.Frag} {H H' : Hp} {a : Addr} {xs : List V} (e : ExtN H H') (h : SqL K H a xs) : SqL K H' a xs := by
  rcases h with (h | ⟨o, h⟩) | h
  · exact .inl (.inl (e _ _ h ntbl_lst))
  · exact .inl (.inr ⟨o, e _ _ h ntbl_frz⟩)
  · exact .inr h
mutual
theorem ext_dp {K : PySem.W.Frag} {H H' : Hp} (e : ExtN H H') : ∀ {x : V} {d : PyData}, Dp K H x d → Dp K H' x d
  | _, _, .non => .non
  | _, _, .bl b => .bl b
  | _, _, .int b => .int b
  | _, _, .str b => .str b
  | _, _, .lst s t => .lst (ext_seqL e s) (ext_dpa e t)
  | _, _, .tup s t => .tup (ext_seqT e s) (ext_dpa e t)
theorem ext_dpa {K : PySem.W.Frag} {H H' : Hp} (e : ExtN H H') : ∀ {x : List V} {d : List PyData}, DpAll K H x d → DpAll K H' x d
  | _, _, .nil => .nil
  | _, _, .cons h t => .cons (ext_dp e h) (ext_dpa e t)
end
theorem ext_purse {K : PySem.W.Frag} {H H' : Hp} {p : Addr} {r : Int} {ss : List Int} (e : ExtN H H') (h : Purse K H p r ss) : Purse K H' p r ss := by
  obtain ⟨sA, h1, h2⟩ := h
  exact ⟨sA, ext_seqT e h1, ext_seqT e h2⟩
/-- all but the bags' places and the tables -/
structure Kq (H H' : Hp) : Prop where
  keep : ∀ a o, H a = some o → ¬ BagSh o → (∀ ps, o ≠ .tbl ps) → H' a = some o
  bag : ∀ a d c, H a = some (.lst [.ref d, .int c]) → ∃ c', H' a = some (.lst [.ref d, .int c'])
theorem Kq.of {H H' : Hp} (k : Kp H H') : Kq H H' := ⟨fun a o e n _ => k.keep a o e n, k.bag⟩
theorem Kq.ext {H H' : Hp} (k : ExtN H H') : Kq H H' := ⟨fun a o e _ n => k a o e n, fun a d c e => ⟨c, k _ _ e ntbl_lst⟩⟩
theorem Kq.trans {H H1 H2 : Hp} (x : Kq H H1) (y : Kq H1 H2) : Kq H H2 := by
  refine ⟨fun a o e n t => y.keep a o (x.keep a o e n t) n t, fun a d c e => ?_⟩
  obtain ⟨c1, e1⟩ := x.bag a d c e
  exact y.bag a d c1 e1
theorem Kq.bags {H H' : Hp} {b : Addr} (x : Kq H H') (h : Bag H b) : Bag H' b := by
  obtain ⟨d, c, ds, h1, h2, h3⟩ := h
  obtain ⟨c', e⟩ := x.bag b d c h1
  exact ⟨d, c', ds, e, x.keep _ _ h2 nint ntbl_lst, h3⟩
theorem Kp.tabs {T : List (Addr × Str)} {H H' : Hp} (k : Kp H H') (t : Tabs T H) : Tabs T H' := by
  intro p hp
  obtain ⟨ps, h1, h2, h3⟩ := t p hp
  refine ⟨ps, k.keep _ _ h1 (fun ⟨_, _, z⟩ => nomatch z), h2, fun pos cv hc => ?_⟩
  obtain ⟨c, e1, e2⟩ := h3 pos cv hc
  exact ⟨c, e1, k.keep _ _ e2 (fun ⟨_, _, z⟩ => by unfold CodeO at z; exact nomatch z)⟩
theorem same_tabs {T : List (Addr × Str)} {H H' : Hp} (s : Same H H') (t : Tabs T H) : Tabs T H' := t.ext s
/-- a list display's or a slice's ints -/
theorem rd_slI {K : PySem.W.Frag} {H : Hp} {Q : VK} {a : Addr} {ns : List Int} {k : Int} (h0 : 0 ≤ k) (h : SqL K H a (ns.map V.int)) (q : ∀ p, H p = none → Q (.ref p) (upd H p (.lst ((ns.drop k.toNat).map V.int)))) : rSlL K (.ref a) (some k) none H Q := by
  refine ⟨a, _, rfl, h, fun p np => ?_⟩
  rw [cut_from h0]
  exact q p np
end FR
namespace FR
open PySem PySem.Spec PyProof.Rows L2
def oddL (t1 t2 t3 t4 t5 t6 t7 t8 t9 t11 t13 t15 t16 : Addr) : List V := (([.non, .bl true, .bl false, .int (-1), .int 0, .int 1, .int 2, .int 20, .int 21, .int (10 ^ (Int.toNat 18)), .int (10 ^ (Int.toNat 18) + 1), .int (10 ^ (Int.toNat 30)), .str "", .str "ride", .str "a"] : List V) ++ [.ref t1, .ref t2, .ref t3, .ref t4, .ref t5, .ref t6, .ref t7]) ++ [.ref t8, .ref t9, .ref t11, .ref t13, .ref t15, .ref t16, .str "rides"]
theorem odd_all {K : PySem.W.Frag} {H : Hp} {t1 t2 t3 t4 t5 t6 t7 t8 t9 t10 t11 t12 t13 t14 t15 t16 : Addr} (e1 : H t1 = some (.tup [])) (e2 : H t2 = some (.lst [])) (e3 : H t3 = some (.tup [.int 0])) (e4 : H t4 = some (.tup [.int 2])) (e5 : H t5 = some (.lst [.int 2])) (e6 : H t6 = some (.tup [.int 2, .int 2])) (e7 : H t7 = some (.tup [.int 1, .int 2])) (e8 : H t8 = some (.tup [.int 21])) (e9 : H t9 = some (.tup [.int 2, .int 3, .int 4, .int 5]))
    (e10 : H t10 = some (.tup [.int 0])) (e11 : H t11 = some (.tup [.int 0, .ref t10])) (e12 : H t12 = some (.tup [])) (e13 : H t13 = some (.tup [.int 0, .ref t12])) (e14 : H t14 = some (.tup [.int 0])) (e15 : H t15 = some (.lst [.int 0, .ref t14])) (e16 : H t16 = some (.tup [.non])) : AllD K H 4 2 (oddL t1 t2 t3 t4 t5 t6 t7 t8 t9 t11 t13 t15 t16) := by
  have iz : ∀ {n : Nat} {i : Int}, Sz 4 n (.int i) := fun {n i} => by cases n <;> exact True.intro
  have A0 : ∀ {ns : List Int}, AllD K H 4 0 (ns.map V.int) := fun {ns} => .of (dp_ints ns) (fun d hd => by obtain ⟨i, _, rfl⟩ := List.mem_map.mp hd; exact iz)
  have sq : ∀ {t : Addr} {ns : List Int}, ns.length ≤ 4 → (H t = some (.tup (ns.map V.int)) ∨ H t = some (.lst (ns.map V.int))) → ∃ d, Dp K H (.ref t) d ∧ Sz 4 2 d := by
    intro t ns l h
    rcases h with h | h
    · obtain ⟨d, g1, g2⟩ := (A0 (ns := ns)).tup (by rw [List.length_map]; exact l) (SqT.of h)
      exact ⟨d, g1, g2.mono (Nat.le_refl _) (by decide)⟩
    · obtain ⟨d, g1, g2⟩ := (A0 (ns := ns)).lst (by rw [List.length_map]; exact l) h
      exact ⟨d, g1, g2.mono (Nat.le_refl _) (by decide)⟩
  have two : ∀ {t u : Addr} {ns : List Int}, ns.length ≤ 4 → H u = some (.tup (ns.map V.int)) → (H t = some (.tup [.int 0, .ref u]) ∨ H t = some (.lst [.int 0, .ref u])) → ∃ d, Dp K H (.ref t) d ∧ Sz 4 2 d := by
    intro t u ns l hu h
    obtain ⟨d, g1, g2⟩ := (A0 (ns := ns)).tup (by rw [List.length_map]; exact l) (SqT.of hu)
    have A1 : AllD K H 4 1 [.int 0, .ref u] := .cons (.int 0) iz (.cons g1 g2 .nil)
    rcases h with h | h
    · exact A1.tup (show 2 ≤ 4 by decide) (SqT.of h)
    · exact A1.lst (show 2 ≤ 4 by decide) h
  intro x hx
  unfold oddL at hx
  simp only [List.cons_append, List.nil_append, List.mem_cons, List.not_mem_nil, or_false] at hx
  rcases hx with rfl | rfl | rfl | rfl | rfl | rfl | rfl | rfl | rfl | rfl | rfl | rfl | rfl | rfl | rfl | rfl | rfl | rfl | rfl | rfl | rfl | rfl | rfl | rfl | rfl | rfl | rfl | rfl | rfl
  · exact ⟨_, .non, True.intro⟩
  · exact ⟨_, .bl _, True.intro⟩
  · exact ⟨_, .bl _, True.intro⟩
  iterate 9 exact ⟨_, .int _, True.intro⟩
  iterate 3 exact ⟨_, .str _, True.intro⟩
  · exact sq (ns := []) (by decide) (.inl e1)
  · exact sq (ns := []) (by decide) (.inr e2)
  · exact sq (ns := [0]) (by decide) (.inl e3)
  · exact sq (ns := [2]) (by decide) (.inl e4)
  · exact sq (ns := [2]) (by decide) (.inr e5)
  · exact sq (ns := [2, 2]) (by decide) (.inl e6)
  · exact sq (ns := [1, 2]) (by decide) (.inl e7)
  · exact sq (ns := [21]) (by decide) (.inl e8)
  · exact sq (ns := [2, 3, 4, 5]) (by decide) (.inl e9)
  · exact two (ns := [0]) (by decide) e10 (.inl e11)
  · exact two (ns := []) (by decide) e12 (.inl e13)
  · exact two (ns := [0]) (by decide) e14 (.inr e15)
  · refine ⟨_, .tup (SqT.of e16) (.cons .non .nil), ?_⟩
    exact ⟨by decide, fun d hd => by rw [List.mem_singleton.mp hd]; exact True.intro⟩
  · exact ⟨_, .str _, True.intro⟩
end FR
namespace FR
open PySem PySem.Spec PyProof.Rows L2
theorem kit2 {K : PySem.W.Frag} {a : String} {b1 b2 : Bool} (h1 : kitB a "tuple" = some b1) (h2 : kitB a "list" = some b2) : PySem.W.kitAny K (.type a) [.type "tuple", .type "list"] = some (b1 || b2) := by
  refine kitAny_cons (b := b1) (kit_ty h1) (fun e => ?_) (fun e => by rw [e]; rfl)
  rw [e, Bool.false_or]
  exact kitAny_cons (b := b2) (kit_ty h2) (fun e => by rw [e]; exact kitAny_nil) (fun e => e)
theorem clsTL : Paired ClsV [.ty "tuple", .ty "list"] [.type "tuple", .type "list"] := .cons (.ty "tuple") (.cons (.ty "list") .nil)
/-- which class data has -/
def tyN : PyData → String
  | .none => "NoneType"
  | .bool _ => "bool"
  | .int _ => "int"
  | .str _ => "str"
  | .list _ => "list"
  | .tuple _ => "tuple"
  | _ => "object"
theorem ty_dp {K : PySem.W.Frag} {H : Hp} {x : V} {d : PyData} (h : Dp K H x d) : TyX K H x (.type (tyN d)) := by
  cases h with
  | non => exact .base .non
  | bl b => exact .base (.bl b)
  | int b => exact .base (.int b)
  | str b => exact .base (.str b)
  | lst s _ => exact tyL s
  | tup s _ => exact tyT s
end FR
namespace FR
open PySem PySem.Spec PyProof.Rows L2
theorem seq_of {K : PySem.W.Frag} {H : Hp} {x : V} {d : PyData} {m n : Nat} (hd : Dp K H x d) (hz : Sz m n d) : (kitB (tyN d) "tuple" = some false ∧ kitB (tyN d) "list" = some false) ∨
    ∃ a xs n' b, x = .ref a ∧ n = n' + 1 ∧ (SqL K H a xs ∨ SqT K H a xs) ∧ AllD K H m n' xs ∧ xs.length ≤ m ∧ kitB (tyN d) "tuple" = some b ∧ kitB (tyN d) "list" = some (!b) := by
  cases hd with
  | non => exact .inl ⟨show kitB "NoneType" "tuple" = _ by decide +kernel, show kitB "NoneType" "list" = _ by decide +kernel⟩
  | bl b => exact .inl ⟨show kitB "bool" "tuple" = _ by decide +kernel, show kitB "bool" "list" = _ by decide +kernel⟩
  | int b => exact .inl ⟨show kitB "int" "tuple" = _ by decide +kernel, show kitB "int" "list" = _ by decide +kernel⟩
  | str b => exact .inl ⟨show kitB "str" "tuple" = _ by decide +kernel, show kitB "str" "list" = _ by decide +kernel⟩
  | lst s t =>
    cases n with
    | zero => exact hz.elim
    | succ n => exact .inr ⟨_, _, n, false, rfl, rfl, .inl s, .of t hz.2, by rw [dp_len t]; exact hz.1, show kitB "list" "tuple" = _ by decide +kernel, show kitB "list" "list" = _ by decide +kernel⟩
  | tup s t =>
    cases n with
    | zero => exact hz.elim
    | succ n => exact .inr ⟨_, _, n, true, rfl, rfl, .inr s, .of t hz.2, by rw [dp_len t]; exact hz.1, show kitB "tuple" "tuple" = _ by decide +kernel, show kitB "tuple" "list" = _ by decide +kernel⟩
end FR
namespace FR
open PySem PySem.Spec PyProof.Rows L2
/-! ### a heap of which some is hidden -/
def hidS (S : Addr → Bool) (H : Hp) : Hp := fun a => if S a = true then none else H a
theorem hid_sub {S : Addr → Bool} {H : Hp} : Same (hidS S H) H := fun a o e => by
  unfold hidS at e
  split at e
  · exact nomatch e
  · exact e
theorem hid_same {S : Addr → Bool} {H H' : Hp} (s : Same H H') : Same (hidS S H) (hidS S H') := fun a o e => by
  unfold hidS at e ⊢
  split at e
  · exact nomatch e
  · rename_i q
    rw [if_neg q]
    exact s a o e
theorem hid_new {S : Addr → Bool} {H H' : Hp} {t : Addr} {o : HO} (c : ∀ a, S a = true → H a ≠ none) (n : H t = none) (e : H' t = some o) : hidS S H' t = some o := by
  unfold hidS
  rw [if_neg (fun z => c t z n)]
  exact e
theorem hid_grow {S : Addr → Bool} {H H1 : Hp} {p : Addr} (n : H p = none) (s : Same H H1) : Same (hidS S H) (hidS (fun a => S a || decide (a = p)) H1) := fun a o e => by
  have e' := hid_sub a o e
  have ne : a ≠ p := ne_of_none e' n
  unfold hidS at e ⊢
  split at e
  · exact nomatch e
  · rename_i q
    rw [if_neg (by show ¬ (S a || decide (a = p)) = true; rw [decide_eq_false ne, Bool.or_false]; exact q)]
    exact s a o e
theorem hid_back {S : Addr → Bool} {H : Hp} {p : Addr} {o : HO} : Same (hidS (fun a => S a || decide (a = p)) H) (hidS S (upd H p o)) := fun a u e => by
  unfold hidS at e ⊢
  split at e
  · exact nomatch e
  · rename_i q
    have q' : ¬ (S a || decide (a = p)) = true := q
    rw [Bool.or_eq_true, decide_eq_true_eq, not_or] at q'
    have q := q'
    rw [if_neg q.1, upd_ne q.2]
    exact e
theorem hid_none {H : Hp} : hidS (fun _ => false) H = H := by
  funext a
  unfold hidS
  rw [if_neg (fun z => nomatch z)]
theorem cutG_to {xs : List V} {k : Int} (h0 : 0 ≤ k) : cutV xs none (some k) = xs.take k.toNat := by
  unfold cutV
  obtain ⟨n, rfl⟩ : ∃ n : Nat, k = (n : Int) := ⟨k.toNat, by omega⟩
  rw [HT.sIx_none, HT.sIx_nat, List.drop_zero, Nat.sub_zero]
  by_cases c : n ≤ xs.length
  · rw [Nat.min_eq_left c]
    rfl
  · rw [Nat.min_eq_right (by omega), List.take_length]
    exact (List.take_of_length_le (by show xs.length ≤ n; omega)).symm
theorem cutG_from {xs : List V} {k : Int} (h0 : 0 ≤ k) : cutV xs (some k) none = xs.drop k.toNat := by
  unfold cutV
  obtain ⟨n, rfl⟩ : ∃ n : Nat, k = (n : Int) := ⟨k.toNat, by omega⟩
  rw [HT.sIx_none, HT.sIx_nat]
  by_cases c : n ≤ xs.length
  · rw [Nat.min_eq_left c, List.take_of_length_le (by rw [List.length_drop]; exact Nat.le_refl _)]
    rfl
  · rw [Nat.min_eq_right (by omega), List.drop_eq_nil_of_le (Nat.le_refl _), List.take_nil]
    exact (List.drop_eq_nil_of_le (by show xs.length ≤ n; omega)).symm
end FR
namespace FR
open PySem PySem.Spec PyProof.Rows L2
theorem upd_at {H : Hp} {p : Addr} {o : HO} (_ : H p = none) : upd H p o p = some o := upd_same
theorem ixN_of {n : Nat} {k : Int} (h0 : 0 ≤ k) (h1 : k < (n : Int)) : ixN n k = some k.toNat := by
  unfold ixN
  rw [if_pos h0, if_pos (by omega)]
end FR
namespace FR
open PySem PySem.Spec PyProof.Rows L2 LamX
theorem sz_int {m n : Nat} {i : Int} : Sz m n (.int i) := by cases n <;> exact True.intro
theorem sz_ints {m n : Nat} {ns : List Int} (h : ns.length ≤ m) : Sz m (n + 1) (.tuple (ns.map PyData.int)) := by
  refine ⟨by rw [List.length_map]; exact h, fun d hd => ?_⟩
  obtain ⟨i, _, rfl⟩ := List.mem_map.mp hd
  exact sz_int
theorem sz_purse {m n : Nat} {r : Int} {ns : List Int} (h : ns.length ≤ m) (h2 : 2 ≤ m) : Sz m (n + 2) (.tuple [.int r, .tuple (ns.map PyData.int)]) := by
  refine ⟨h2, fun d hd => ?_⟩
  rcases List.mem_cons.mp hd with rfl | hd
  · exact sz_int
  · rw [List.mem_singleton.mp hd]
    exact sz_ints h
def HD (K : PySem.W.Frag) (H : Hp) (xs : List V) : Prop := ∀ x ∈ xs, ∃ d, Dp K H x d
section
variable {K : PySem.W.Frag} {H H' : Hp} {xs ys : List V} {x : V} {d : PyData}
theorem HD.same (h : HD K H xs) (s : Same H H') : HD K H' xs := fun x hx => let ⟨d, g⟩ := h x hx; ⟨d, Same.dp s g⟩
theorem HD.ext (h : HD K H xs) (s : ExtN H H') : HD K H' xs := fun x hx => let ⟨d, g⟩ := h x hx; ⟨d, ext_dp s g⟩
theorem HD.nil : HD K H [] := fun x hx => nomatch hx
theorem HD.cons (h : Dp K H x d) (t : HD K H xs) : HD K H (x :: xs) := fun y hy => by
  rcases List.mem_cons.mp hy with rfl | g
  · exact ⟨d, h⟩
  · exact t y g
theorem HD.app (h : HD K H xs) (t : HD K H ys) : HD K H (xs ++ ys) := fun y hy => by
  rcases List.mem_append.mp hy with g | g
  · exact h y g
  · exact t y g
theorem dpa_app : ∀ {xs ys : List V} {ds es : List PyData}, DpAll K H xs ds → DpAll K H ys es → DpAll K H (xs ++ ys) (ds ++ es)
  | _, _, _, _, .nil, h => h
  | _, _, _, _, .cons a t, h => .cons a (dpa_app t h)
end
def nums : List V := [.int 0, .int 1, .int 2, .int 20, .int 21, .int (-1), .bl true, .non, .int (10 ^ (Int.toNat 18)), .int (10 ^ (Int.toNat 18) + 1)]
theorem num_dp {K : PySem.W.Frag} {x : V} (h : x ∈ nums) : ∃ d, ∀ H : Hp, Dp K H x d := by
  unfold nums at h
  simp only [List.mem_cons, List.not_mem_nil, or_false] at h
  rcases h with rfl | rfl | rfl | rfl | rfl | rfl | rfl | rfl | rfl | rfl
  iterate 6 exact ⟨_, fun H => .int _⟩
  · exact ⟨_, fun H => .bl _⟩
  · exact ⟨_, fun H => .non⟩
  iterate 2 exact ⟨_, fun H => .int _⟩
theorem nocards_shaped : SeqAt.shaped (.list [.str "NoCards", .bool true]) = true := by
  unfold SeqAt.shaped
  rw [PyData.canLay0, PyData.canLayAll0, PyData.canLayAll0, PyData.canLayAll0, PyData.depth, PyData.depthAll, PyData.depthAll, PyData.depthAll, PyData.canLay0, PyData.canLay0, PyData.depth, PyData.depth]
  decide +kernel
theorem nocards_eqv : PyData.eqv (.list [.str "NoCards", .bool true]) (.list [.str "NoCards", .bool true]) = true := SeqAt.eqv_refl _ (by
  have := nocards_shaped
  unfold SeqAt.shaped at this
  exact (Bool.and_eq_true_iff.mp this).1)
theorem nil_eqv : PyData.eqv (.list []) (.list []) = true := SeqAt.eqv_refl _ (by
  have := shaped_nil
  unfold SeqAt.shaped at this
  exact (Bool.and_eq_true_iff.mp this).1)
end FR
namespace FR
open PySem PySem.Spec PyProof.Rows L2 LamX
theorem hid_in {K : PySem.W.Frag} {H : Hp} {x : V} {d : PyData} (h : Dp K H x d) : Dp K (hidS (fun _ => false) H) x d := by
  rw [hid_none]
  exact h
theorem hid_out {K : PySem.W.Frag} {H : Hp} {x : V} {d : PyData} (h : Dp K (hidS (fun _ => false) H) x d) : Dp K H x d := by
  rw [hid_none] at h
  exact h
theorem no_hid {H : Hp} : ∀ a : Addr, (fun _ : Addr => false) a = true → H a ≠ none := fun _ h => nomatch h
theorem cut_at {H : Hp} {p : Addr} {ns : List Int} {k : Int} (h0 : 0 ≤ k) : upd H p (.lst (cutV (ns.map V.int) (some k) none)) p = some (.lst ((ns.drop k.toNat).map V.int)) := by
  rw [upd_same, cut_from h0]
end FR
set_option maxHeartbeats 2000000
namespace FR
open PySem PySem.Spec PyProof.Rows L2 LamX
/-- a def that makes lambdas: its code object at c, that one's table at P -/
structure TabAt (K : PySem.W.Frag) (mg : Str → Option Value) (h : Heap) (x : Str) (st : Stmt) (c P : Addr) : Prop where
  fn : ∃ f fd, Fun K x x st f fd ∧ mg x = some (.ref f) ∧ fd.code = .ref c
  tab : h.get? P = some { cls := .none, data := .fields #[] }
  out : K.lookup P = none
  hd : PySem.W.CodeHd h c P
def TabAtX {K : PySem.W.Frag} {h : Heap} (_ : K.In h) (mg : Str → Option Value) (x : Str) (st : Stmt) : Prop := ∃ c P, TabAt K mg h x st c P
theorem tabAt_mk {K : PySem.W.Frag} {h : Heap} {mg : Str → Option Value} {x : Str} {st : Stmt} {f c P : Addr} {od od2 an : Option Addr} {sl sl2 : Array (Option Value)} {oc oc2 kV dc pm ct : Value} {vs : Array Value} {ts : List Addr} (X : K.In h) (G : h.Ns mainGlobals mg)
    (hT : ∀ P ∈ ts, h.get? P = some (PySem.W.tabObj #[]))
    (a1 : PySem.W.nsIn K mainGlobals x = some (some (.ref f))) (l1 : K.lookup f = some ⟨oc, od, .func (PySem.W.fnOf x x (defArgs st) (defBody st) (defScope st) .none kV dc pm an (.ref c) ct), sl⟩) (c1 : PySem.W.codeIn K (.ref c) x = true) (k1 : PySem.W.keepIn K (.ref f) = true)
    (lc : K.lookup c = some ⟨oc2, od2, .fields vs, sl2⟩) (vP : vs[11]? = some (.ref P)) (hc : PySem.W.codeHdIn K c P = true) (hn : K.lookup P = none) (mem : P ∈ ts) : TabAtX X mg x st :=
  ⟨c, P, ⟨f, _, fun_mk (st := st) l1 c1 k1, PySem.W.mg_of X G a1, rfl⟩, hT P mem, hn, PySem.W.codeHd_of_K X hc⟩
end FR
namespace FR
open PySem PySem.Spec PyProof.Rows L2
def topS (i : Nat) : Stmt := PySem.Challenge.pw_freerides_k02_rows_of_deeds.main.body.getD i (.Pass ⟨0, 0, 0, 0⟩)
/-! ### _law_draws -/
abbrev s_l_draws : Stmt := topS 37
theorem sc_l_draws : FnScope ["cell", "many", "size", "found", "rest", "stirred", "k"] ["cell", "many", "size"] (defScope s_l_draws) := ⟨rfl, rfl, rfl, by decide +kernel, rfl, by decide +kernel, by decide +kernel⟩
def sp_l_draws (K : PySem.W.Frag) : Sp := fun vs H Q E => ∃ (cell : Int), vs = [.int cell, .int 400, .int 1000] ∧ ∀ (p : Addr) (ds : List Int) (H' : Hp), Kp H H' → H p = none → H' p = some (.lst (ds.map V.int)) → ds.length = 400 → (∀ x ∈ ds, (0 : Int) ≤ x ∧ x < 1000) → Q (.ref p) H'
/-! ### _law_cell_at -/
abbrev s_l_cell_at : Stmt := topS 36
theorem sc_l_cell_at : FnScope ["script", "k"] ["script", "k"] (defScope s_l_cell_at) := ⟨rfl, rfl, rfl, by decide +kernel, rfl, by decide +kernel, by decide +kernel⟩
def sp_l_cell_at (K : PySem.W.Frag) : Sp := fun vs H Q E => ∃ (a : Addr) (ns : List Int) (k : Int), vs = [.ref a, .int k] ∧ SqL K H a (ns.map V.int) ∧ 0 ≤ k ∧ ∀ v, Q (.int v) H
/-! ### _law_bag -/
abbrev s_l_bag : Stmt := topS 38
theorem sc_l_bag : FnScope ["script", "k"] ["script", "k"] (defScope s_l_bag) := ⟨rfl, rfl, rfl, by decide +kernel, rfl, by decide +kernel, by decide +kernel⟩
def sp_l_bag (K : PySem.W.Frag) : Sp := fun vs H Q E => ∃ (a : Addr) (ns : List Int) (k : Int), vs = [.ref a, .int k] ∧ SqL K H a (ns.map V.int) ∧ 0 ≤ k ∧ ∀ (p : Addr) (H' : Hp), Kp H H' → Bag H' p → H p = none → Q (.ref p) H'
/-! ### _law_bags -/
abbrev s_l_bags : Stmt := topS 39
theorem sc_l_bags : FnScope ["script", "limit", "k"] ["script", "limit"] (defScope s_l_bags) := ⟨rfl, rfl, rfl, by decide +kernel, rfl, by decide +kernel, by decide +kernel⟩
def sp_l_bags (K : PySem.W.Frag) : Sp := fun vs H Q E => ∃ (a : Addr) (ns : List Int) (m : Int), vs = [.ref a, .int m] ∧ SqL K H a (ns.map V.int) ∧ ns.length ≤ 63 ∧ 0 < m ∧ m ≤ 1000 ∧ ∀ (p : Addr) (bs : List Addr) (H' : Hp), Kp H H' → H p = none → H' p = some (.lst (bs.map V.ref)) → bs.length ≤ 1000 → (∀ b ∈ bs, Bag H' b) → Q (.ref p) H'
/-! ### _law_take -/
abbrev s_l_take : Stmt := topS 40
theorem sc_l_take : FnScope ["bag", "many"] ["bag", "many"] (defScope s_l_take) := ⟨rfl, rfl, rfl, by decide +kernel, rfl, by decide +kernel, by decide +kernel⟩
def sp_l_take (K : PySem.W.Frag) : Sp := fun vs H Q E => ∃ (b : Addr) (m : Int), vs = [.ref b, .int m] ∧ Bag H b ∧ 0 < m ∧ ∀ (r : Int) (H' : Hp), 0 ≤ r → r < m → Kp H H' → Q (.int r) H'
/-! ### _law_kinds -/
abbrev s_l_kinds : Stmt := topS 42
theorem sc_l_kinds : FnScope ["bag", "far", "found", "turn"] ["bag", "far"] (defScope s_l_kinds) := ⟨rfl, rfl, rfl, by decide +kernel, rfl, by decide +kernel, by decide +kernel⟩
def sp_l_kinds (K : PySem.W.Frag) : Sp := fun vs H Q E => ∃ (b : Addr) (fr : Int), vs = [.ref b, .int fr] ∧ Bag H b ∧ 2 ≤ fr ∧ ∀ (p : Addr) (cs : List Int) (H' : Hp), Kp H H' → H' p = some (.tup (cs.map V.int)) → 1 ≤ cs.length → cs.length ≤ 3 → (∀ c ∈ cs, 2 ≤ c ∧ c ≤ fr) → Q (.ref p) H'
/-! ### _law_far_draw -/
abbrev s_l_far_draw : Stmt := topS 41
theorem sc_l_far_draw : FnScope ["bag", "many", "found", "much"] ["bag", "many"] (defScope s_l_far_draw) := ⟨rfl, rfl, rfl, by decide +kernel, rfl, by decide +kernel, by decide +kernel⟩
def sp_l_far_draw (K : PySem.W.Frag) : Sp := fun vs H Q E => ∃ (b : Addr) (m : Int), vs = [.ref b, .int m] ∧ Bag H b ∧ 0 < m ∧ ∀ (r : Int) (H' : Hp), 0 ≤ r → r < m → Kp H H' → Q (.int r) H'
/-! ### _law_stamps_for -/
abbrev s_l_stamps_for : Stmt := topS 43
theorem sc_l_stamps_for : FnScope ["bag", "kinds", "far", "one"] ["bag", "kinds", "far"] (defScope s_l_stamps_for) := ⟨rfl, rfl, rfl, by decide +kernel, rfl, by decide +kernel, by decide +kernel⟩
def sp_l_stamps_for (K : PySem.W.Frag) : Sp := fun vs H Q E => ∃ (b kA : Addr) (cs : List Int) (fr : Int), vs = [.ref b, .ref kA, .int fr] ∧ Bag H b ∧ SqT K H kA (cs.map V.int) ∧ cs.length ≤ 3 ∧ 0 ≤ fr ∧ ∀ (p : Addr) (ss : List Int) (H' : Hp), Kp H H' → H' p = some (.tup (ss.map V.int)) → ss.length = cs.length → (∀ x ∈ ss, 0 ≤ x ∧ x ≤ fr) → Q (.ref p) H'
/-! ### _law_had -/
abbrev s_l_had : Stmt := topS 44
theorem sc_l_had : FnScope ["bag", "kinds", "far"] ["bag", "kinds", "far"] (defScope s_l_had) := ⟨rfl, rfl, rfl, by decide +kernel, rfl, by decide +kernel, by decide +kernel⟩
def sp_l_had (K : PySem.W.Frag) : Sp := fun vs H Q E => ∃ (b kA : Addr) (cs : List Int) (fr : Int), vs = [.ref b, .ref kA, .int fr] ∧ Bag H b ∧ SqT K H kA (cs.map V.int) ∧ cs.length ≤ 3 ∧ 0 ≤ fr ∧ ∀ (p sA : Addr) (r : Int) (ss : List Int) (H' : Hp), Kp H H' → H' p = some (.tup [.int r, .ref sA]) → H' sA = some (.tup (ss.map V.int)) → 0 ≤ r → r ≤ fr → ss.length = cs.length → (∀ x ∈ ss, 0 ≤ x ∧ x ≤ fr) → Q (.ref p) H'
/-! ### _law_step -/
abbrev s_l_step : Stmt := topS 45
theorem sc_l_step : FnScope ["kinds", "had", "deed", "rides", "stamps", "one"] ["kinds", "had", "deed"] (defScope s_l_step) := ⟨rfl, rfl, rfl, by decide +kernel, rfl, by decide +kernel, by decide +kernel⟩
def sp_l_step (K : PySem.W.Frag) : Sp := fun vs H Q E => ∃ (kA pA : Addr) (cs : List Int) (x : Int) (zs : List Int) (d : V), vs = [.ref kA, .ref pA, d] ∧ SqT K H kA (cs.map V.int) ∧ Purse K H pA x zs ∧ zs.length = cs.length ∧ cs.length ≤ 3 ∧ DeedV cs.length d ∧ (¬ Can cs x zs d → ∀ H', Same H H' → Q .non H') ∧ (Can cs x zs d → ∀ p s' H', Same H H' → H' p = some (.tup [.int (aftX x d), .ref s']) → H' s' = some (.tup ((aftS cs zs d).map V.int)) → Q (.ref p) H')
/-! ### is_within -/
abbrev s_p_is_within : Stmt := topS 21
theorem sc_p_is_within : FnScope ["thing", "least", "most"] ["thing", "least", "most"] (defScope s_p_is_within) := ⟨rfl, rfl, rfl, by decide +kernel, rfl, by decide +kernel, by decide +kernel⟩
def sp_p_is_within (K : PySem.W.Frag) : Sp := fun vs H Q E => ∃ (x : V) (d : PyData) (lo hi : Int), vs = [x, .int lo, .int hi] ∧ Dp K H x d ∧ Q (.bl (withinD lo hi d)) H
/-! ### are_cards -/
abbrev s_p_are_cards : Stmt := topS 22
theorem sc_p_are_cards : FnScope ["thing", "full"] ["thing"] (defScope s_p_are_cards) := ⟨rfl, rfl, rfl, by decide +kernel, rfl, by decide +kernel, by decide +kernel⟩
def sp_p_are_cards (K : PySem.W.Frag) : Sp := fun vs H Q E => ∃ (x : V) (d : PyData), vs = [x] ∧ Dp K H x d ∧ ∀ H', Same H H' → Q (.bl (cardsD d)) H'
/-! ### refuse_no_cards -/
abbrev s_p_refuse_no_cards : Stmt := topS 28
theorem sc_p_refuse_no_cards : FnScope ["thing"] ["thing"] (defScope s_p_refuse_no_cards) := ⟨rfl, rfl, rfl, by decide +kernel, rfl, by decide +kernel, by decide +kernel⟩
def sp_p_refuse_no_cards (K : PySem.W.Frag) : Sp := fun vs H Q E => ∃ (x : V) (d : PyData), vs = [x] ∧ Dp K H x d ∧ cardsD d = true ∧ ∀ H', Same H H' → Q .non H'
/-! ### are_stamps -/
abbrev s_p_are_stamps : Stmt := topS 23
theorem sc_p_are_stamps : FnScope ["cards", "thing", "many"] ["cards", "thing"] (defScope s_p_are_stamps) := ⟨rfl, rfl, rfl, by decide +kernel, rfl, by decide +kernel, by decide +kernel⟩
def sp_p_are_stamps (K : PySem.W.Frag) : Sp := fun vs H Q E => ∃ (cA : Addr) (cs : List V) (x : V) (d : PyData), vs = [.ref cA, x] ∧ SqT K H cA cs ∧ cs.length ≤ 3 ∧ Dp K H x d ∧ ∀ H', Same H H' → Q (.bl (stampsD cs.length d)) H'
/-! ### purse_fits -/
abbrev s_p_purse_fits : Stmt := topS 24
theorem sc_p_purse_fits : FnScope ["cards", "thing", "rides", "stamps"] ["cards", "thing"] (defScope s_p_purse_fits) := ⟨rfl, rfl, rfl, by decide +kernel, rfl, by decide +kernel, by decide +kernel⟩
def sp_p_purse_fits (K : PySem.W.Frag) : Sp := fun vs H Q E => ∃ (cA : Addr) (cs : List V) (x : V) (d : PyData), vs = [.ref cA, x] ∧ SqT K H cA cs ∧ cs.length ≤ 3 ∧ Dp K H x d ∧ ∀ H', Same H H' → Q (.bl (purseD cs.length d)) H'
/-! ### refuse_no_purse -/
abbrev s_p_refuse_no_purse : Stmt := topS 29
theorem sc_p_refuse_no_purse : FnScope ["cards", "thing"] ["cards", "thing"] (defScope s_p_refuse_no_purse) := ⟨rfl, rfl, rfl, by decide +kernel, rfl, by decide +kernel, by decide +kernel⟩
def sp_p_refuse_no_purse (K : PySem.W.Frag) : Sp := fun vs H Q E => ∃ (cA : Addr) (cs : List V) (x : V) (d : PyData), vs = [.ref cA, x] ∧ SqT K H cA cs ∧ cs.length ≤ 3 ∧ Dp K H x d ∧ purseD cs.length d = true ∧ ∀ H', Same H H' → Q .non H'
/-! ### is_kind -/
abbrev s_p_is_kind : Stmt := topS 25
theorem sc_p_is_kind : FnScope ["cards", "thing"] ["cards", "thing"] (defScope s_p_is_kind) := ⟨rfl, rfl, rfl, by decide +kernel, rfl, by decide +kernel, by decide +kernel⟩
def sp_p_is_kind (K : PySem.W.Frag) : Sp := fun vs H Q E => ∃ (cA : Addr) (cs : List V) (x : V) (d : PyData), vs = [.ref cA, x] ∧ SqT K H cA cs ∧ Dp K H x d ∧ Q (.bl (withinD 0 ((cs.length : Int) - 1) d)) H
/-! ### is_deed -/
abbrev s_p_is_deed : Stmt := topS 26
theorem sc_p_is_deed : FnScope ["cards", "thing"] ["cards", "thing"] (defScope s_p_is_deed) := ⟨rfl, rfl, rfl, by decide +kernel, rfl, by decide +kernel, by decide +kernel⟩
def sp_p_is_deed (K : PySem.W.Frag) : Sp := fun vs H Q E => ∃ (cA : Addr) (cs : List V) (x : V) (d : PyData), vs = [.ref cA, x] ∧ SqT K H cA cs ∧ Dp K H x d ∧ Q (.bl (deedD (cs.length : Int) d)) H
/-! ### is_row -/
abbrev s_p_is_row : Stmt := topS 27
theorem sc_p_is_row : FnScope ["cards", "thing", "deed"] ["cards", "thing"] (defScope s_p_is_row) := ⟨rfl, rfl, rfl, by decide +kernel, rfl, by decide +kernel, by decide +kernel⟩
def sp_p_is_row (K : PySem.W.Frag) : Sp := fun vs H Q E => ∃ (cA : Addr) (cs : List V) (x : V) (d : PyData), vs = [.ref cA, x] ∧ SqT K H cA cs ∧ Dp K H x d ∧ ∀ H', Same H H' → Q (.bl (rowD (cs.length : Int) d)) H'
/-! ### refuse_no_row -/
abbrev s_p_refuse_no_row : Stmt := topS 30
theorem sc_p_refuse_no_row : FnScope ["cards", "thing"] ["cards", "thing"] (defScope s_p_refuse_no_row) := ⟨rfl, rfl, rfl, by decide +kernel, rfl, by decide +kernel, by decide +kernel⟩
def sp_p_refuse_no_row (mg : Str → Option Value) (K : PySem.W.Frag) : Sp := fun vs H Q E => ∃ (cA : Addr) (cs : List V) (x : V) (d : PyData), vs = [.ref cA, x] ∧ SqT K H cA cs ∧ Dp K H x d ∧ (rowD (cs.length : Int) d = true → ∀ H', Same H H' → Q .non H') ∧ (rowD (cs.length : Int) d = false → ∀ H' C, Same H H' → mg "NoRow" = some (.ref C) → E (.ref C) none H')
/-! ### after_ride -/
abbrev s_p_after_ride : Stmt := topS 31
theorem sc_p_after_ride : FnScope ["purse", "rides", "stamps", "many"] ["purse"] (defScope s_p_after_ride) := ⟨rfl, rfl, rfl, by decide +kernel, rfl, by decide +kernel, by decide +kernel⟩
def sp_p_after_ride (K : PySem.W.Frag) : Sp := fun vs H Q E => ∃ (pA : Addr) (x : Int) (zs : List Int), vs = [.ref pA] ∧ Purse K H pA x zs ∧ zs.length ≤ 3 ∧ (¬ 0 < x → Q .non H) ∧ (0 < x → ∀ p s' H', Same H H' → H' p = some (.tup [.int (x - 1), .ref s']) → H' s' = some (.tup ((zs.map (· + 1)).map V.int)) → Q (.ref p) H')
/-! ### after_giving -/
abbrev s_p_after_giving : Stmt := topS 32
theorem sc_p_after_giving : FnScope ["cards", "purse", "kind", "rides", "stamps", "fewer"] ["cards", "purse", "kind"] (defScope s_p_after_giving) := ⟨rfl, rfl, rfl, by decide +kernel, rfl, by decide +kernel, by decide +kernel⟩
def sp_p_after_giving (K : PySem.W.Frag) : Sp := fun vs H Q E => ∃ (cA pA : Addr) (cs : List Int) (x : Int) (zs : List Int) (i c z : Int), vs = [.ref cA, .ref pA, .int i] ∧ SqT K H cA (cs.map V.int) ∧ Purse K H pA x zs ∧ zs.length = cs.length ∧ cs.length ≤ 3 ∧ 0 ≤ i ∧ i < (cs.length : Int) ∧ cs[i.toNat]? = some c ∧ zs[i.toNat]? = some z ∧ (z < c → Q .non H) ∧ (c ≤ z → ∀ p s' H', Same H H' → H' p = some (.tup [.int (x + 1), .ref s']) → H' s' = some (.tup ((zs.set i.toNat (z - c)).map V.int)) → Q (.ref p) H')
/-! ### after_deed -/
abbrev s_p_after_deed : Stmt := topS 33
theorem sc_p_after_deed : FnScope ["cards", "purse", "deed"] ["cards", "purse", "deed"] (defScope s_p_after_deed) := ⟨rfl, rfl, rfl, by decide +kernel, rfl, by decide +kernel, by decide +kernel⟩
def sp_p_after_deed (K : PySem.W.Frag) : Sp := fun vs H Q E => ∃ (kA pA : Addr) (cs : List Int) (x : Int) (zs : List Int) (d : V), vs = [.ref kA, .ref pA, d] ∧ SqT K H kA (cs.map V.int) ∧ Purse K H pA x zs ∧ zs.length = cs.length ∧ cs.length ≤ 3 ∧ DeedV cs.length d ∧ (¬ Can cs x zs d → ∀ H', Same H H' → Q .non H') ∧ (Can cs x zs d → ∀ p s' H', Same H H' → H' p = some (.tup [.int (aftX x d), .ref s']) → H' s' = some (.tup ((aftS cs zs d).map V.int)) → Q (.ref p) H')
/-! ### behind -/
abbrev s_p_behind : Stmt := topS 34
theorem sc_p_behind : FnScope ["cards", "purse", "row", "deed"] ["cards", "purse", "row"] (defScope s_p_behind) := ⟨rfl, rfl, rfl, by decide +kernel, rfl, by decide +kernel, by decide +kernel⟩
def sp_p_behind (mg : Str → Option Value) (K : PySem.W.Frag) : Sp := fun vs H Q E => ∃ (cA pA : Addr) (cs : List Int) (x : Int) (zs : List Int) (r : V) (d : PyData), vs = [.ref cA, .ref pA, r] ∧ SqT K H cA (cs.map V.int) ∧ Purse K H pA x zs ∧ Cards cs ∧ Stamps cs.length zs ∧ 0 ≤ x ∧ x ≤ 1000000000000000000 ∧ Dp K H r d ∧
  (rowD (cs.length : Int) d = true → ∃ a row, r = .ref a ∧ SqL K H a row ∧ (∀ v ∈ row, DeedV cs.length v) ∧ ∀ v H', Same H H' → PurseO K cs H' v (rowO cs (some (x, zs)) row) → Q v H') ∧ (rowD (cs.length : Int) d = false → ∀ H' C, Same H H' → mg "NoRow" = some (.ref C) → E (.ref C) none H')
/-! ### _law_refused -/
abbrev s_l_refused : Stmt := topS 46
theorem sc_l_refused : FnScope ["call", "one", "two", "three", "kin", "e", "words", "word", "there"] ["call", "one", "two", "three"] (defScope s_l_refused) := ⟨rfl, rfl, rfl, by decide +kernel, rfl, by decide +kernel, by decide +kernel⟩
def sp_l_refused (P : Program) (w : World) (K : PySem.W.Frag) (mg : Str → Option Value) (base : Heap) : Sp := fun vs H Q E => ∃ (f : Addr) (x y z : V) (sp : Sp) (C : Nat → Addr) (tf rd : Addr), vs = [.ref f, x, y, z] ∧ Kin K mg C tf rd ∧ HeldH P w K mg base 12 f sp H ∧ MonoSp sp ∧ ∀ H1, Same H H1 → sp [x, y, z] H1 (fun _ H' => Same H1 H' ∧ ∀ p H'', Same H' H'' → H'' p = some (.lst []) → Q (.ref p) H'') (fun cls d H' => Same H1 H' ∧ ∃ i, cls = .ref (C i) ∧ d = none ∧ KinOf K C tf rd i ∧ ∀ p H'', Same H' H'' → H'' p = some (.lst [.str (kinN i), .bl true]) → Q (.ref p) H'')
/-! ### law -/
abbrev s_l_law : Stmt := topS 47
theorem sc_l_law : FnScope ["script", "bag", "kinds", "had", "row", "here", "turn", "deeds", "some", "handed", "bads", "bad", "deed"] ["script"] (defScope s_l_law) := ⟨rfl, rfl, rfl, by decide +kernel, rfl, by decide +kernel, by decide +kernel⟩
theorem mono_behind {mg : Str → Option Value} {K : PySem.W.Frag} : MonoSp (sp_p_behind mg K) := by
  rintro vs H Q Q' E E' ⟨cA, pA, cs, x, zs, r, d, e, hC, hP, hK, hS, x0, x1, hd, q1, q2⟩ hq he
  refine ⟨cA, pA, cs, x, zs, r, d, e, hC, hP, hK, hS, x0, x1, hd, fun h => ?_, fun h H' C s g => he _ _ _ (q2 h H' C s g)⟩
  obtain ⟨a, row, e1, e2, e3, q⟩ := q1 h
  exact ⟨a, row, e1, e2, e3, fun v H' s p => hq _ _ (q v H' s p)⟩

def sp_l_law (K : PySem.W.Frag) : Sp := fun vs H Q E => ∃ (a : Addr) (ns : List Int), vs = [.ref a] ∧ SqL K H a (ns.map V.int) ∧ ns.length ≤ 63 ∧ ∀ H', Q (.bl true) H'
set_option maxHeartbeats 4000000 in
theorem ok_l_draws {P : Program} {w : World} {K : PySem.W.Frag} {mg : Str → Option Value} {base : Heap} {f : Addr} {fd : FuncData} (F : Fun K "_law_draws" "_law_draws" s_l_draws f fd) (b_int : mg "int" = none) (b_range : mg "range" = none) :
    FnOk P w K mg base CX0 1 f fd ["cell", "many", "size"] (sp_l_draws K) := by
  refine F.ok sc_l_draws (fun vs H Q E h => ?_) (fun cdv A outer s H vs Q E hr h => ?_)
  · obtain ⟨cell, rfl, q⟩ := h
    rfl
  obtain ⟨cell, rfl, q⟩ := h
  refine ⟨_, (pss_cons (ps_set (i := 3) sc_l_draws.nd rfl (Or.inl rfl) (pe_lst pa_nil))
        (pss_cons (ps_set (i := 4) sc_l_draws.nd rfl (Or.inl rfl) (pe_op op_mul (pv 0) (pe_callTy call_int1 (by rfl) b_int PyProof.Rows.boot_int (pa_cons (pe_cmpR op_ge (pv 0) (pe_op op_pow pe_int pe_int) (nomark _)) pa_nil))))
        (pss_cons (ps_set (i := 5) sc_l_draws.nd rfl (Or.inl rfl) (pe_op op_mod (pv 0) pe_int))
        (pss_cons (ps_for PassesOwn.never rfl (pi_range1 rfl b_range (pa_cons (pe_op op_add (pv 1) pe_int) pa_nil)) (pg_name (i := 6) sc_l_draws.nd rfl (Or.inl rfl)) (pss_cons (ps_set (i := 5) sc_l_draws.nd rfl (Or.inl rfl) (pe_op op_mod (pe_op op_add (pe_op op_add (pe_op op_add (pe_op op_mul (pv 5) (pv 5)) (pe_op op_mul pe_int (pv 5))) (pv 6)) pe_int) pe_int))
        (pss_one (ps_if (PW.pt (pw_and (pt_cmpR op_gt (pv 6) pe_int (nomark _)) (pw_and1 (pt_cmpR op_gt (pv 4) pe_int (nomark _))))) (pss_cons (ps_expr (pe_bm PySem.F.plainAttrs_list PySem.F.slot_list_append PySem.F.type_list_append mt_append (pv 3) (pa_cons (pe_op op_mod (pv 4) (pv 2)) pa_nil)))
        (pss_one (ps_set (i := 4) sc_l_draws.nd rfl (Or.inl rfl) (pe_op op_fdiv (pv 4) (pv 2))))) (pss_one (ps_if (pt_cmpR op_gt (pv 6) pe_int (nomark _)) (pss_one (ps_expr (pe_bm PySem.F.plainAttrs_list PySem.F.slot_list_append PySem.F.type_list_append mt_append (pv 3) (pa_cons (pe_op op_mod (pe_op op_fdiv (pv 5) pe_int) (pv 2)) pa_nil)))) pss_nil))))))
        (pss_one (ps_ret (pv 3))))))), ?_⟩
  refine ⟨Nat.zero_le _, fun p np => ?_⟩
  refine ⟨_, rfl, _, rfl, _, _, rfl, rfl, ⟨by decide, by decide, by decide⟩, _, _, rfl, rfl, .inr ⟨_, rfl, _, _, rfl, rfl, .inr ?_, ?_⟩⟩
  · split <;> decide
  refine ⟨_, rfl, _, _, rfl, rfl, p0, ?_⟩
  refine ⟨_, rfl, _, _, rfl, rfl, _, rfl, by decide, by decide, ?_⟩
  refine for_range (lo := 0) (n := 403) (fun i σ H' => ∃ (r st : Int) (ds : List Int) (y : Option V), σ = [some (.int cell), some (.int 400), some (.int 1000), some (.ref p), some (.int r), some (.int st), y] ∧ Kp H H' ∧ H' p = some (.lst (ds.map V.int)) ∧ ds.length = i - 3 ∧ (∀ x ∈ ds, (0 : Int) ≤ x ∧ x < 1000) ∧ 0 ≤ st ∧ st < 2305843009213693951) ?_ ?_ ?_
  · exact ⟨_, _, [], _, rfl, .new (.refl H) np, upd_same, rfl, (fun x hx => nomatch hx), Int.emod_nonneg _ (by decide), Int.emod_lt_of_pos _ (by decide)⟩
  · rintro i σ H' hi ⟨r, st, ds, y, rfl, sm, e, hl, hd, h0, h1⟩
    refine ⟨_, rfl, _, rfl, _, _, rfl, rfl, .inl ⟨by omega, by omega⟩, _, rfl, _, _, rfl, rfl, .inl ⟨by decide, by decide⟩, _, _, rfl, rfl, _, rfl, _, _, rfl, rfl, _, _, rfl, rfl, _, _, rfl, rfl, p0, ?_⟩
    have hz : ∀ z : Int, 0 ≤ z % 2305843009213693951 ∧ z % 2305843009213693951 < 2305843009213693951 := fun z => ⟨Int.emod_nonneg _ (by decide), Int.emod_lt_of_pos _ (by decide)⟩
    have hx : ∀ z : Int, ∀ x ∈ ds ++ [z % 1000], (0 : Int) ≤ x ∧ x < 1000 := fun z x hx => by
      rcases List.mem_append.mp hx with g | g
      · exact hd x g
      · rw [List.mem_singleton.mp g]
        exact ⟨Int.emod_nonneg _ (by decide), Int.emod_lt_of_pos _ (by decide)⟩
    have hb : (ds.map V.int).length < sizeLine := by
      rw [List.length_map]
      exact small1000 (by omega)
    refine ⟨_, rfl, _, _, rfl, rfl, _, rfl, ite2 (fun c => ?_) (fun c => ?_)⟩
    · have c' := of_decide_eq_true c
      refine ⟨_, rfl, _, _, rfl, rfl, _, rfl, ite2 (fun c2 => ?_) (fun c2 => ?_)⟩
      · refine ⟨_, rfl, .inl ⟨rfl, _, SqL.of e⟩, _, rfl, _, rfl, _, _, rfl, rfl, p0, p, _, _, rfl, rfl, e, hb, ?_⟩
        refine ⟨_, rfl, _, rfl, _, _, rfl, rfl, ⟨by decide, by decide⟩, ?_⟩
        refine ⟨_, _, ds ++ [r % 1000], _, rfl, sm.fresh np, ?_, ?_, hx _, (hz _).1, (hz _).2⟩
        · rw [upd_same, List.map_append]
          rfl
        · rw [List.length_append, List.length_singleton]
          omega
      · refine ⟨_, rfl, _, _, rfl, rfl, _, rfl, ite2 (fun c3 => ?_) (fun c3 => absurd c c3)⟩
        refine ⟨_, rfl, .inl ⟨rfl, _, SqL.of e⟩, _, rfl, _, _, rfl, rfl, ⟨by decide, by decide⟩, _, rfl, _, _, rfl, rfl, p0, p, _, _, rfl, rfl, e, hb, ?_⟩
        refine ⟨_, _, ds ++ [(st * st + 48271 * st + (0 + (i : Int)) + 1) % 2305843009213693951 / 4096 % 1000], _, rfl, sm.fresh np, ?_, ?_, hx _, (hz _).1, (hz _).2⟩
        · rw [upd_same, List.map_append]
          rfl
        · rw [List.length_append, List.length_singleton]
          omega
    · refine iteF ⟨_, rfl, _, _, rfl, rfl, _, rfl, ite2 (fun c3 => absurd c3 c) (fun c3 => ?_)⟩
      have c' : ¬ ((2 : Int) < 0 + (i : Int)) := fun z => c (decide_eq_true z)
      exact ⟨_, _, ds, _, rfl, sm, e, by omega, hd, (hz _).1, (hz _).2⟩
  · rintro σ H' ⟨r, st, ds, y, rfl, sm, e, hl, hd, h0, h1⟩
    exact ⟨_, rfl, q p ds H' sm np e hl hd⟩
set_option maxHeartbeats 4000000 in
theorem ok_l_cell_at {P : Program} {w : World} {K : PySem.W.Frag} {mg : Str → Option Value} {base : Heap} {f : Addr} {fd : FuncData} (F : Fun K "_law_cell_at" "_law_cell_at" s_l_cell_at f fd) (b_len : mg "len" = none) :
    FnOk P w K mg base CX0 1 f fd ["script", "k"] (sp_l_cell_at K) := by
  refine F.ok sc_l_cell_at (fun vs H Q E h => ?_) (fun cdv A outer s H vs Q E hr h => ?_)
  · obtain ⟨a, ns, k, rfl, hS, h0, q⟩ := h
    rfl
  obtain ⟨a, ns, k, rfl, hS, h0, q⟩ := h
  refine ⟨_, (pss_cons (ps_if (pt_cmpR op_lt (pv 1) (pe_callB call_len_seq (by rfl) b_len PySem.boot_len (pa_cons (pv 0) pa_nil)) (nomark _)) (pss_one (ps_ret (pe_ix ix_list (pv 0) (pv 1) (fun _ _ => rfl)))) pss_nil)
        (pss_one (ps_ret pe_int))), ?_⟩
  refine ⟨_, rfl, _, rfl, a, _, rfl, .inl hS, _, _, rfl, rfl, _, rfl, ite2 (fun c => ?_) (fun c => ?_)⟩
  · have c' := of_decide_eq_true c
    rw [List.length_map] at c'
    obtain ⟨v, _, _, hv⟩ := at_int h0 c'
    exact ⟨_, rfl, _, rfl, a, _, _, _, rfl, rfl, hS, hv, q v⟩
  · exact q 0
set_option maxHeartbeats 4000000 in
theorem ok_l_bag {P : Program} {w : World} {K : PySem.W.Frag} {mg : Str → Option Value} {base : Heap} {f : Addr} {fd : FuncData} (F : Fun K "_law_bag" "_law_bag" s_l_bag f fd) (D_l_draws : Def P w K mg base "_law_draws" 1 ["cell", "many", "size"] (sp_l_draws K)) (D_l_cell_at : Def P w K mg base "_law_cell_at" 1 ["script", "k"] (sp_l_cell_at K)) :
    FnOk P w K mg base CX0 2 f fd ["script", "k"] (sp_l_bag K) := by
  refine F.ok sc_l_bag (fun vs H Q E h => ?_) (fun cdv A outer s H vs Q E hr h => ?_)
  · obtain ⟨a, ns, k, rfl, hS, h0, q⟩ := h
    rfl
  obtain ⟨a, ns, k, rfl, hS, h0, q⟩ := h
  refine ⟨_, (pss_one (ps_ret (pe_lst (pa_cons (pe_def D_l_draws hr (pa_cons (pe_def D_l_cell_at hr (pa_cons (pv 0) (pa_cons (pv 1) pa_nil))) (pa_cons pe_int (pa_cons pe_int pa_nil)))) (pa_cons pe_int pa_nil))))), ?_⟩
  refine ⟨_, rfl, _, rfl, a, ns, k, rfl, hS, h0, fun v => ?_⟩
  refine ⟨v, rfl, fun d ds H1 k1 nd e hl hd => ?_⟩
  refine ⟨(by show 2 ≤ sizeLine; decide), fun p np => ?_⟩
  refine q p _ (k1.new np) ⟨d, 0, ds, upd_same, ?_, hl, hd⟩ (k1.none np)
  rw [upd_ne (ne_of_none e np)]
  exact e
set_option maxHeartbeats 4000000 in
theorem ok_l_bags {P : Program} {w : World} {K : PySem.W.Frag} {mg : Str → Option Value} {base : Heap} {f : Addr} {fd : FuncData} (F : Fun K "_law_bags" "_law_bags" s_l_bags f fd) (D_l_bag : Def P w K mg base "_law_bag" 2 ["script", "k"] (sp_l_bag K)) (b_range : mg "range" = none) (b_max : mg "max" = none) (b_min : mg "min" = none) (b_len : mg "len" = none) :
    FnOk P w K mg base CX0 3 f fd ["script", "limit"] (sp_l_bags K) := by
  refine F.ok sc_l_bags (fun vs H Q E h => ?_) (fun cdv A outer s H vs Q E hr h => ?_)
  · obtain ⟨a, ns, m, rfl, hS, h63, m0, m1, q⟩ := h
    rfl
  obtain ⟨a, ns, m, rfl, hS, h63, m0, m1, q⟩ := h
  refine ⟨_, (pss_one (ps_ret (pe_lc (own := [("k", 2)]) (g := gName 2) (tt := tYes) rfl sc_l_bags.nd (pi_range1 rfl b_range (pa_cons (pe_callB (call_max2 rfl) (by rfl) b_max PyProof.Rows.boot_max (pa_cons pe_int (pa_cons (pe_callB (call_min2 rfl) (by rfl) b_min PyProof.Rows.boot_min (pa_cons (pv 1) (pa_cons (pe_callB call_len_seq (by rfl) b_len PySem.boot_len (pa_cons (pv 0) pa_nil)) pa_nil))) pa_nil))) pa_nil)) (blkOk_by (own := [("k", 2)]) (N := ["script", "limit", "k"]) (sc := defScope s_l_bags) (by decide +kernel)) (fun _ _ _ _ _ => (pg_name (i := 2) sc_l_bags.nd rfl (Or.inl rfl))) (fun _ _ _ _ _ => pts_nil) (fun _ _ _ _ _ => (pe_def D_l_bag hr (pa_cons (pv 0) (pa_cons (pv 2) pa_nil))))))), ?_⟩
  refine ⟨_, rfl, _, rfl, a, _, rfl, .inl hS, _, _, rfl, _, _, rfl, _, rfl, ?_⟩
  generalize hn : (if (if (((ns.map V.int).length : Nat) : Int) < m then (((ns.map V.int).length : Nat) : Int) else m) > 1 then (if (((ns.map V.int).length : Nat) : Int) < m then (((ns.map V.int).length : Nat) : Int) else m) else 1) = n
  have h1 : 1 ≤ n ∧ n ≤ 1000 := by
    rw [List.length_map] at hn
    split at hn <;> split at hn <;> omega
  refine ⟨by omega, by omega, fun D nD => ?_⟩
  refine lc_range (lo := 0) (n := n.toNat) (fun i H' => ∃ bs : List Addr, bs.length = i ∧ Kp H H' ∧ H' D = some (.lst (bs.map V.ref)) ∧ ∀ b ∈ bs, Bag H' b) ?_ ?_ ?_
  · exact ⟨[], rfl, .new (.refl H) nD, upd_same, fun b hb => nomatch hb⟩
  · rintro i H1 hi ⟨bs, hl, k1, e, hb⟩
    refine ⟨rfl, _, rfl, _, rfl, a, ns, _, rfl, k1.ints hS, by omega, fun p H2 k2 hp np => ?_⟩
    have e2 : H2 D = some (.lst (bs.map V.ref)) := k2.keep _ _ e nrefs
    refine ⟨_, e2, ?_, bs ++ [p], ?_, (k1.trans k2).fresh nD, ?_, fun b hm => ?_⟩
    · rw [List.length_map]
      exact small1000 (by omega)
    · rw [List.length_append, List.length_singleton, hl]
    · rw [upd_same, List.map_append]
      rfl
    · have hg : Bag H2 b := by
        rcases List.mem_append.mp hm with g | g
        · exact k2.bags (hb b g)
        · rw [List.mem_singleton.mp g]
          exact hp
      exact bag_upd hg e2
  · rintro H1 ⟨bs, hl, k1, e, hb⟩
    exact q D bs H1 k1 nD e (by omega) hb
set_option maxHeartbeats 4000000 in
theorem ok_l_take {P : Program} {w : World} {K : PySem.W.Frag} {mg : Str → Option Value} {base : Heap} {f : Addr} {fd : FuncData} (F : Fun K "_law_take" "_law_take" s_l_take f fd) (b_len : mg "len" = none) :
    FnOk P w K mg base CX0 1 f fd ["bag", "many"] (sp_l_take K) := by
  refine F.ok sc_l_take (fun vs H Q E h => ?_) (fun cdv A outer s H vs Q E hr h => ?_)
  · obtain ⟨b, m, rfl, hB, hm, q⟩ := h
    rfl
  obtain ⟨b, m, rfl, hB, hm, q⟩ := h
  refine ⟨_, (pss_cons (ps_asg (pe_op op_add (pe_ix ix_list (pv 0) pe_int (fun _ _ => rfl)) pe_int) (pg_sub (pv 0) pe_int set_list))
        (pss_one (ps_ret (pe_op op_mod (pe_ix ix_list (pe_ix ix_list (pv 0) pe_int (fun _ _ => rfl)) (pe_op op_mod (pe_ix ix_list (pv 0) pe_int (fun _ _ => rfl)) (pe_callB call_len_seq (by rfl) b_len PySem.boot_len (pa_cons (pe_ix ix_list (pv 0) pe_int (fun _ _ => rfl)) pa_nil))) (fun _ _ => rfl)) (pv 1))))), ?_⟩
  obtain ⟨d, c, ds, h1, h2, h3, h4⟩ := hB
  refine ⟨_, rfl, b, _, _, _, rfl, rfl, SqL.of h1, atI_nat (j := 1) rfl, _, _, rfl, rfl, _, rfl, b, _, _, 1, rfl, rfl, h1, rfl, ?_⟩
  have e1 : (upd H b (.lst [.ref d, .int (c + 1)])) b = some (.lst [.ref d, .int (c + 1)]) := upd_same
  have nd : d ≠ b := ne_of h2 h1 (by
    intro z
    exact nint (ns := ds) ⟨d, c, z⟩)
  have e2 : (upd H b (.lst [.ref d, .int (c + 1)])) d = some (.lst (ds.map V.int)) := by
    rw [upd_ne nd]
    exact h2
  have hl : (((ds.map V.int).length : Nat) : Int) = 400 := by
    rw [List.length_map, h3]
    rfl
  obtain ⟨v, _, _, hv⟩ := at_int (ns := ds) (k := (c + 1) % (((ds.map V.int).length : Nat) : Int)) (by rw [hl]; exact Int.emod_nonneg _ (by decide)) (by rw [hl, h3]; exact Int.emod_lt_of_pos _ (by decide))
  refine ⟨_, rfl, b, _, _, _, rfl, rfl, SqL.of e1, atI_nat (j := 0) rfl, _, rfl, b, _, _, _, rfl, rfl, SqL.of e1, atI_nat (j := 1) rfl, _, rfl, b, _, _, _, rfl, rfl, SqL.of e1, atI_nat (j := 0) rfl, d, _, rfl, .inl (SqL.of e2), _, _, rfl, rfl, (by rw [hl]; exact p0), d, _, _, _, rfl, rfl, SqL.of e2, hv, _, rfl, _, _, rfl, rfl, hm, ?_⟩
  exact q _ _ (Int.emod_nonneg _ (by omega)) (Int.emod_lt_of_pos _ hm) (.bump h1)
set_option maxHeartbeats 4000000 in
theorem ok_l_kinds {P : Program} {w : World} {K : PySem.W.Frag} {mg : Str → Option Value} {base : Heap} {f : Addr} {fd : FuncData} (F : Fun K "_law_kinds" "_law_kinds" s_l_kinds f fd) (D_l_take : Def P w K mg base "_law_take" 1 ["bag", "many"] (sp_l_take K)) (b_range : mg "range" = none) (b_min : mg "min" = none) (b_tuple : mg "tuple" = none) :
    FnOk P w K mg base CX0 2 f fd ["bag", "far"] (sp_l_kinds K) := by
  refine F.ok sc_l_kinds (fun vs H Q E h => ?_) (fun cdv A outer s H vs Q E hr h => ?_)
  · obtain ⟨b, fr, rfl, hB, hf, q⟩ := h
    rfl
  obtain ⟨b, fr, rfl, hB, hf, q⟩ := h
  refine ⟨_, (pss_cons (ps_set (i := 2) sc_l_kinds.nd rfl (Or.inl rfl) (pe_lst pa_nil))
        (pss_cons (ps_for PassesOwn.never rfl (pi_range1 rfl b_range (pa_cons (pe_op op_add pe_int (pe_def D_l_take hr (pa_cons (pv 0) (pa_cons pe_int pa_nil)))) pa_nil)) (pg_name (i := 3) sc_l_kinds.nd rfl (Or.inl rfl)) (pss_one (ps_expr (pe_bm PySem.F.plainAttrs_list PySem.F.slot_list_append PySem.F.type_list_append mt_append (pv 2) (pa_cons (pe_op op_add pe_int (pe_ix ix_list (pe_lst (pa_cons (pe_def D_l_take hr (pa_cons (pv 0) (pa_cons (pe_callB (call_min2 rfl) (by rfl) b_min PyProof.Rows.boot_min (pa_cons pe_int (pa_cons (pe_op op_sub (pv 1) pe_int) pa_nil))) pa_nil))) (pa_cons (pe_def D_l_take hr (pa_cons (pv 0) (pa_cons (pe_op op_sub (pv 1) pe_int) pa_nil))) pa_nil))) (pe_def D_l_take hr (pa_cons (pv 0) (pa_cons pe_int pa_nil))) (fun _ _ => rfl))) pa_nil)))))
        (pss_one (ps_ret (pe_callTy call_tuple_of (by rfl) b_tuple PyProof.Rows.boot_tuple (pa_cons (pv 2) pa_nil)))))), ?_⟩
  refine ⟨Nat.zero_le _, fun p np => ?_⟩
  have kp := (Kp.refl H).new (o := .lst []) np
  refine ⟨_, rfl, b, _, rfl, kp.bags hB, p0, fun r H1 r0 r1 k0 => ?_⟩
  refine ⟨_, _, rfl, rfl, _, rfl, by omega, by omega, ?_⟩
  refine for_range (lo := 0) (n := (1 + r).toNat) (fun i σ H' => ∃ (cs : List Int) (y : Option V), σ = [some (.ref b), some (.int fr), some (.ref p), y] ∧ Kp H H' ∧ H' p = some (.lst (cs.map V.int)) ∧ cs.length = i ∧ ∀ c ∈ cs, 2 ≤ c ∧ c ≤ fr) ?_ ?_ ?_
  · exact ⟨[], _, rfl, kp.trans k0, k0.keep _ _ upd_same (nint (ns := [])), rfl, fun c hc => nomatch hc⟩
  · rintro i σ H' hi ⟨cs, y, rfl, k1, e, hl, hc⟩
    refine ⟨_, rfl, .inl ⟨rfl, _, SqL.of e⟩, _, rfl, _, rfl, _, _, rfl, rfl, _, _, rfl, b, _, rfl, k1.bags hB, ?_, fun r1' H2 a0 a1 k2 => ?_⟩
    · split <;> omega
    refine ⟨_, rfl, _, rfl, _, _, rfl, rfl, b, _, rfl, (k1.trans k2).bags hB, by omega, fun r2 H3 b0 b1 k3 => ?_⟩
    refine ⟨(by show 2 ≤ sizeLine; decide), fun l nl => ?_⟩
    have k4 := ((k1.trans k2).trans k3).new (o := .lst (([r1', r2] : List Int).map V.int)) nl
    refine ⟨_, rfl, b, _, rfl, k4.bags hB, p0, fun r3 H4 c0 c1 k5 => ?_⟩
    have el : H4 l = some (.lst (([r1', r2] : List Int).map V.int)) := k5.keep _ _ upd_same nint
    obtain ⟨v, hv, _, ha⟩ := at_int (ns := [r1', r2]) (k := r3) c0 c1
    have e3 : H3 p = some (.lst (cs.map V.int)) := k3.keep _ _ (k2.keep _ _ e nint) nint
    have e4 : H4 p = some (.lst (cs.map V.int)) := k5.keep _ _ (by rw [upd_ne (ne_of_none e3 nl)]; exact e3) nint
    refine ⟨l, _, _, _, rfl, rfl, SqL.of el, ha, _, _, rfl, rfl, p, _, _, rfl, rfl, e4, ?_, cs ++ [2 + v], _, rfl, (k4.trans k5).fresh np, ?_, ?_, fun c hm => ?_⟩
    · rw [List.length_map]
      exact small1000 (by omega)
    · rw [upd_same, List.map_append]
      rfl
    · rw [List.length_append, List.length_singleton, hl]
    · rcases List.mem_append.mp hm with g | g
      · exact hc c g
      · rw [List.mem_singleton.mp g]
        simp only [List.mem_cons, List.not_mem_nil, or_false] at hv
        have a2 : r1' ≤ fr - 2 := by
          split at a1 <;> omega
        omega
  · rintro σ H' ⟨cs, y, rfl, k1, e, hl, hc⟩
    refine ⟨_, rfl, p, _, rfl, .inl ⟨SqL.of e, fun t nt => ?_⟩⟩
    exact q t cs _ (k1.new nt) upd_same (by omega) (by omega) hc
set_option maxHeartbeats 4000000 in
theorem ok_l_far_draw {P : Program} {w : World} {K : PySem.W.Frag} {mg : Str → Option Value} {base : Heap} {f : Addr} {fd : FuncData} (F : Fun K "_law_far_draw" "_law_far_draw" s_l_far_draw f fd) (D_l_take : Def P w K mg base "_law_take" 1 ["bag", "many"] (sp_l_take K)) :
    FnOk P w K mg base CX0 2 f fd ["bag", "many"] (sp_l_far_draw K) := by
  refine F.ok sc_l_far_draw (fun vs H Q E h => ?_) (fun cdv A outer s H vs Q E hr h => ?_)
  · obtain ⟨b, m, rfl, hB, hm, q⟩ := h
    rfl
  obtain ⟨b, m, rfl, hB, hm, q⟩ := h
  refine ⟨_, (pss_cons (ps_par (i := 2) (j := 3) rfl sc_l_far_draw.nd rfl rfl (by decide) rfl rfl (pa_cons pe_int (pa_cons (pv 1) pa_nil)) (by rfl))
        (pss_cons (ps_while PassesOwn.never (pt_cmpR op_gt (pv 3) pe_int (nomark _)) (pss_one (ps_par (i := 2) (j := 3) rfl sc_l_far_draw.nd rfl rfl (by decide) rfl rfl (pa_cons (pe_op op_add (pe_op op_mul pe_int (pv 2)) (pe_def D_l_take hr (pa_cons (pv 0) (pa_cons pe_int pa_nil)))) (pa_cons (pe_op op_fdiv (pv 3) pe_int) pa_nil)) (by rfl))))
        (pss_one (ps_ret (pe_ix ix_list (pe_lst (pa_cons (pe_op op_mod (pv 2) (pv 1)) (pa_cons pe_int (pa_cons (pe_op op_sub (pv 1) pe_int) (pa_cons (pe_op op_mod (pv 2) (pv 1)) pa_nil))))) (pe_def D_l_take hr (pa_cons (pv 0) (pa_cons pe_int pa_nil))) (fun _ _ => rfl)))))), ?_⟩
  refine ⟨_, rfl, _, _, rfl, ?_⟩
  refine while_by (fun σ H' => ∃ (fo mu : Int), σ = [some (.ref b), some (.int m), some (.int fo), some (.int mu)] ∧ 0 ≤ mu ∧ Kp H H') (fun (σ : L2.St) (_ : Hp) => match σ[3]? with | some (some (V.int k)) => k.toNat | _ => 0) ?_ ?_ ?_
  · exact ⟨_, _, rfl, by omega, .refl H⟩
  · rintro σ H' ⟨fo, mu, rfl, hm0, k1⟩
    refine ⟨_, rfl, _, _, rfl, rfl, _, rfl, ite2 (fun c => ?_) (fun c => ?_)⟩
    · have c' := of_decide_eq_true c
      refine ⟨_, rfl, _, _, rfl, rfl, .inl ⟨by decide, by decide⟩, _, rfl, b, _, rfl, k1.bags hB, p0, fun r H2 h0 h1 k2 => ?_⟩
      refine ⟨_, _, rfl, rfl, _, rfl, _, _, rfl, rfl, ⟨by decide, by decide⟩, _, _, rfl, ⟨_, _, rfl, by omega, k1.trans k2⟩, ?_⟩
      show (mu / 1000).toNat < mu.toNat
      omega
    · refine ⟨_, rfl, _, rfl, _, _, rfl, rfl, hm, _, rfl, _, _, rfl, rfl, _, rfl, _, rfl, _, _, rfl, rfl, hm, (by show 4 ≤ sizeLine; decide), fun p np => ?_⟩
      have k2 := k1.new (o := .lst (([fo % m, 0, m - 1, fo % m] : List Int).map V.int)) np
      refine ⟨_, rfl, b, _, rfl, k2.bags hB, p0, fun r H2 h0 h1 k3 => ?_⟩
      have e : H2 p = some (.lst (([fo % m, 0, m - 1, fo % m] : List Int).map V.int)) := k3.keep _ _ upd_same nint
      obtain ⟨v, hv, _, ha⟩ := at_int (ns := [fo % m, 0, m - 1, fo % m]) (k := r) h0 h1
      refine ⟨p, _, _, _, rfl, rfl, SqL.of e, ha, ?_⟩
      have z1 := Int.emod_nonneg fo (show m ≠ 0 by omega)
      have z2 := Int.emod_lt_of_pos fo hm
      have hb : 0 ≤ v ∧ v < m := by
        simp only [List.mem_cons, List.not_mem_nil, or_false] at hv
        omega
      exact q v H2 hb.1 hb.2 (k2.trans k3)
  · rintro σ H' Q1 Q2 hq ⟨v, e, i, j, e1, e2, k, e3, h⟩
    exact ⟨v, e, i, j, e1, e2, k, e3, hq _ _ h⟩
set_option maxHeartbeats 4000000 in
theorem ok_l_stamps_for {P : Program} {w : World} {K : PySem.W.Frag} {mg : Str → Option Value} {base : Heap} {f : Addr} {fd : FuncData} (F : Fun K "_law_stamps_for" "_law_stamps_for" s_l_stamps_for f fd) (D_l_far_draw : Def P w K mg base "_law_far_draw" 2 ["bag", "many"] (sp_l_far_draw K)) (D_l_take : Def P w K mg base "_law_take" 1 ["bag", "many"] (sp_l_take K)) (b_tuple : mg "tuple" = none) :
    FnOk P w K mg base CX0 3 f fd ["bag", "kinds", "far"] (sp_l_stamps_for K) := by
  refine F.ok sc_l_stamps_for (fun vs H Q E h => ?_) (fun cdv A outer s H vs Q E hr h => ?_)
  · obtain ⟨b, kA, cs, fr, rfl, hB, hK, h3, hf, q⟩ := h
    rfl
  obtain ⟨b, kA, cs, fr, rfl, hB, hK, h3, hf, q⟩ := h
  refine ⟨_, (pss_one (ps_ret (pe_callTy call_tuple_of (by rfl) b_tuple PyProof.Rows.boot_tuple (pa_cons (pe_lc (own := [("one", 3)]) (g := gName 3) (tt := tYes) rfl sc_l_stamps_for.nd (pi_tup (pv 1)) (blkOk_by (own := [("one", 3)]) (N := ["bag", "kinds", "far", "one"]) (sc := defScope s_l_stamps_for) (by decide +kernel)) (fun _ _ _ _ _ => (pg_name (i := 3) sc_l_stamps_for.nd rfl (Or.inl rfl))) (fun _ _ _ _ _ => pts_nil) (fun _ _ _ _ _ => (pe_ix (ix_listK K) (pe_lst (pa_cons pe_int (pa_cons (pe_def D_l_far_draw hr (pa_cons (pv 0) (pa_cons (pe_op op_add (pv 2) pe_int) pa_nil))) pa_nil))) (pe_def D_l_take hr (pa_cons (pv 0) (pa_cons pe_int pa_nil))) (fun _ _ => rfl)))) pa_nil)))), ?_⟩
  refine ⟨_, rfl, kA, rfl, ⟨_, hK⟩, fun D nD => ?_⟩
  refine lc_tup (K := K) (a := kA) (xs := cs.map V.int) (fun i H' => ∃ ss : List Int, ss.length = i ∧ Kp H H' ∧ H' D = some (.lst (ss.map V.int)) ∧ ∀ x ∈ ss, 0 ≤ x ∧ x ≤ fr) ?_ ?_ ?_ ?_
  · exact ⟨[], rfl, .new (.refl H) nD, upd_same, fun c hc => nomatch hc⟩
  · rintro i H' hi ⟨ss, hl, k1, e, hs⟩
    exact k1.tup hK
  · rintro i x H1 hi ⟨ss, hl, k1, e, hs⟩
    have hi' : i < 3 := by
      have := (List.getElem?_eq_some_iff.mp hi).1
      rw [List.length_map] at this
      omega
    refine ⟨rfl, _, rfl, _, rfl, _, _, rfl, rfl, b, _, rfl, k1.bags hB, by omega, fun r1 H2 a0 a1 k2 => ?_⟩
    refine ⟨(by show 2 ≤ sizeLine; decide), fun l nl => ?_⟩
    have k4 := (k1.trans k2).new (o := .lst (([0, r1] : List Int).map V.int)) nl
    refine ⟨_, rfl, b, _, rfl, k4.bags hB, p0, fun r3 H4 c0 c1 k5 => ?_⟩
    have el : H4 l = some (.lst (([0, r1] : List Int).map V.int)) := k5.keep _ _ upd_same nint
    obtain ⟨v, hv, _, ha⟩ := at_int (ns := [0, r1]) (k := r3) c0 c1
    have e3 : H2 D = some (.lst (ss.map V.int)) := k2.keep _ _ e nint
    have e4 : H4 D = some (.lst (ss.map V.int)) := k5.keep _ _ (by rw [upd_ne (ne_of_none e3 nl)]; exact e3) nint
    refine ⟨l, _, _, _, rfl, rfl, SqL.of el, ha, _, e4, ?_, ss ++ [v], ?_, (k4.trans k5).fresh nD, ?_, fun c hm => ?_⟩
    · rw [List.length_map]
      exact small1000 (by omega)
    · rw [List.length_append, List.length_singleton, hl]
    · rw [upd_same, List.map_append]
      rfl
    · rcases List.mem_append.mp hm with g | g
      · exact hs c g
      · rw [List.mem_singleton.mp g]
        simp only [List.mem_cons, List.not_mem_nil, or_false] at hv
        omega
  · rintro H1 ⟨ss, hl, k1, e, hs⟩
    refine ⟨D, _, rfl, .inl ⟨SqL.of e, fun t nt => ?_⟩⟩
    exact q t ss _ (k1.new nt) upd_same (by rw [hl, List.length_map]) hs
set_option maxHeartbeats 4000000 in
theorem ok_l_had {P : Program} {w : World} {K : PySem.W.Frag} {mg : Str → Option Value} {base : Heap} {f : Addr} {fd : FuncData} (F : Fun K "_law_had" "_law_had" s_l_had f fd) (D_l_stamps_for : Def P w K mg base "_law_stamps_for" 3 ["bag", "kinds", "far"] (sp_l_stamps_for K)) (D_l_far_draw : Def P w K mg base "_law_far_draw" 2 ["bag", "many"] (sp_l_far_draw K)) :
    FnOk P w K mg base CX0 4 f fd ["bag", "kinds", "far"] (sp_l_had K) := by
  refine F.ok sc_l_had (fun vs H Q E h => ?_) (fun cdv A outer s H vs Q E hr h => ?_)
  · obtain ⟨b, kA, cs, fr, rfl, hB, hK, h3, hf, q⟩ := h
    rfl
  obtain ⟨b, kA, cs, fr, rfl, hB, hK, h3, hf, q⟩ := h
  refine ⟨_, (pss_one (ps_ret (pe_tup (pa_cons (pe_def D_l_far_draw hr (pa_cons (pv 0) (pa_cons (pe_op op_add (pv 2) pe_int) pa_nil))) (pa_cons (pe_def D_l_stamps_for hr (pa_cons (pv 0) (pa_cons (pv 1) (pa_cons (pv 2) pa_nil)))) pa_nil))))), ?_⟩
  refine ⟨_, rfl, _, rfl, _, _, rfl, rfl, b, _, rfl, hB, by omega, fun r H1 a0 a1 k1 => ?_⟩
  refine ⟨_, rfl, _, rfl, _, rfl, b, kA, cs, fr, rfl, k1.bags hB, k1.tup hK, h3, hf, fun sA ss H2 k2 e hl hs => ?_⟩
  refine ⟨(by show 2 ≤ sizeLine; decide), fun p np => ?_⟩
  exact q p sA r ss _ ((k1.trans k2).new np) upd_same (by rw [upd_ne (ne_of_none e np)]; exact e) a0 (by omega) hl hs
set_option maxHeartbeats 4000000 in
theorem ok_l_step {P : Program} {w : World} {K : PySem.W.Frag} {mg : Str → Option Value} {base : Heap} {f : Addr} {fd : FuncData} (F : Fun K "_law_step" "_law_step" s_l_step f fd) (b_list : mg "list" = none) (b_tuple : mg "tuple" = none) :
    FnOk P w K mg base CX0 1 f fd ["kinds", "had", "deed"] (sp_l_step K) := by
  refine F.ok sc_l_step (fun vs H Q E h => ?_) (fun cdv A outer s H vs Q E hr h => ?_)
  · obtain ⟨kA, pA, cs, x, zs, d, rfl, hC, ⟨sA, hP1, hP2⟩, hl, h3, hd, q1, q2⟩ := h
    rfl
  obtain ⟨kA, pA, cs, x, zs, d, rfl, hC, ⟨sA, hP1, hP2⟩, hl, h3, hd, q1, q2⟩ := h
  refine ⟨_, (pss_cons (ps_par (i := 3) (j := 4) rfl sc_l_step.nd rfl rfl (by decide) rfl rfl (pa_cons (pe_ix ix_tup (pv 1) pe_int (fun _ _ => rfl)) (pa_cons (pe_callTy call_list_of (by rfl) b_list PyProof.Rows.boot_list (pa_cons (pe_ix ix_tup (pv 1) pe_int (fun _ _ => rfl)) pa_nil)) pa_nil)) (by rfl))
        (pss_cons (ps_if (pt_cmpR op_eq (pv 2) pe_str (nomark _)) (pss_one (ps_ret (pe_ifExp (pt_cmpR op_gt (pv 3) pe_int (nomark _)) (pe_tup (pa_cons (pe_op op_sub (pv 3) pe_int) (pa_cons (pe_callTy call_tuple_of (by rfl) b_tuple PyProof.Rows.boot_tuple (pa_cons (pe_lc (own := [("one", 5)]) (g := gName 5) (tt := tYes) rfl sc_l_step.nd (pi_list (pv 4)) (blkOk_by (own := [("one", 5)]) (N := ["kinds", "had", "deed", "rides", "stamps", "one"]) (sc := defScope s_l_step) (by decide +kernel)) (fun _ _ _ _ _ => (pg_name (i := 5) sc_l_step.nd rfl (Or.inl rfl))) (fun _ _ _ _ _ => pts_nil) (fun _ _ _ _ _ => (pe_op op_add (pv 5) pe_int))) pa_nil)) pa_nil))) pe_non))) pss_nil)
        (pss_cons (ps_if (pt_cmpR op_lt (pe_ix ix_list (pv 4) (pv 2) (fun _ _ => rfl)) (pe_ix ix_tup (pv 0) (pv 2) (fun _ _ => rfl)) (nomark _)) (pss_one (ps_ret pe_non)) pss_nil)
        (pss_cons (ps_asg (pe_op op_sub (pe_ix ix_list (pv 4) (pv 2) (fun _ _ => rfl)) (pe_ix ix_tup (pv 0) (pv 2) (fun _ _ => rfl))) (pg_sub (pv 4) (pv 2) set_list))
        (pss_one (ps_ret (pe_tup (pa_cons (pe_op op_add (pv 3) pe_int) (pa_cons (pe_callTy call_tuple_of (by rfl) b_tuple PyProof.Rows.boot_tuple (pa_cons (pv 4) pa_nil)) pa_nil))))))))), ?_⟩
  refine ⟨_, rfl, pA, _, _, _, rfl, rfl, hP1, atI_nat (j := 0) rfl, _, rfl, pA, _, _, _, rfl, rfl, hP1, atI_nat (j := 1) rfl, sA, _, rfl, .inr hP2, fun l nl => ?_⟩
  refine ⟨_, _, rfl, ?_⟩
  have s1 := same_upd (o := .lst (zs.map V.int)) nl
  have hC1 := Same.seqT s1 hC
  rcases hd with rfl | ⟨i, rfl, i0, i1⟩
  · refine ⟨_, rfl, rfl, _, rfl, iteP (decide_eq_true rfl) ?_⟩
    refine ⟨_, rfl, _, _, rfl, rfl, _, rfl, ite2 (fun c => ?_) (fun c => ?_)⟩
    · have c' := of_decide_eq_true c
      refine ⟨_, rfl, _, _, rfl, rfl, _, rfl, l, rfl, ⟨_, SqL.of upd_same⟩, fun D nD => ?_⟩
      refine lc_list (K := K) (a := l) (xs := zs.map V.int) (fun j H' => Same (upd H l (.lst (zs.map V.int))) H' ∧ H' D = some (.lst (((zs.take j).map (· + 1)).map V.int))) ?_ ?_ ?_ ?_
      · exact ⟨same_new (.refl _) nD, upd_same⟩
      · rintro j H' hj ⟨sm, e⟩
        exact SqL.of (sm _ _ upd_same)
      · rintro j y H' hj ⟨sm, e⟩
        obtain ⟨z, hz, rfl⟩ := get_map hj
        have hj' : j < zs.length := (List.getElem?_eq_some_iff.mp hz).1
        refine ⟨rfl, _, rfl, _, _, rfl, rfl, _, e, ?_, same_fresh sm nD, ?_⟩
        · rw [List.length_map, List.length_map, List.length_take]
          exact small1000 (by omega)
        · rw [upd_same, take_map _ hz, List.map_append]
          rfl
      · rintro H' ⟨sm, e⟩
        rw [List.length_map, List.take_length] at e
        refine ⟨D, _, rfl, .inl ⟨SqL.of e, fun t nt => ?_⟩⟩
        refine ⟨(by show 2 ≤ sizeLine; decide), fun p np => ?_⟩
        refine q2 (.inl ⟨rfl, c'⟩) p t _ (same_new (same_new (s1.trans sm) nt) np) upd_same ?_
        rw [upd_ne (ne_of_none (show (upd H' t (.tup ((zs.map (· + 1)).map V.int))) t = some _ from upd_same) np), upd_same]
        rfl
    · have c' : ¬ (0 : Int) < x := fun z => c (decide_eq_true z)
      refine q1 (fun h => ?_) _ s1
      rcases h with ⟨_, h⟩ | ⟨i, c, z, h, _⟩
      · exact c' h
      · exact nomatch h
  · refine ⟨_, rfl, rfl, _, rfl, iteN (fun e => nomatch of_decide_eq_true e) ?_⟩
    obtain ⟨z, hzm, hzg, hza⟩ := at_int (ns := zs) (k := i) i0 (by omega)
    obtain ⟨c, hcm, hcg, hca⟩ := at_int (ns := cs) (k := i) i0 i1
    have hL : SqL K (upd H l (.lst (zs.map V.int))) l (zs.map V.int) := SqL.of upd_same
    refine ⟨_, rfl, _, rfl, l, _, _, _, rfl, rfl, hL, hza, _, rfl, _, rfl, kA, _, _, _, rfl, rfl, hC1, hca, _, _, rfl, rfl, _, rfl, ite2 (fun e => ?_) (fun e => ?_)⟩
    · have e' := of_decide_eq_true e
      refine q1 (fun h => ?_) _ s1
      rcases h with ⟨h, _⟩ | ⟨i', c', z', h, _, h1, h2, h3⟩
      · exact nomatch h
      · cases h
        rw [hcg] at h1
        rw [hzg] at h2
        cases h1
        cases h2
        omega
    · have e' : ¬ z < c := fun g => e (decide_eq_true g)
      have hix : ixN (zs.map V.int).length i = some i.toNat := by
        unfold ixN
        rw [if_pos i0, if_pos (by rw [List.length_map]; omega)]
      refine ⟨_, rfl, _, rfl, l, _, _, _, rfl, rfl, hL, hza, _, rfl, _, rfl, kA, _, _, _, rfl, rfl, hC1, hca, _, _, rfl, rfl, _, rfl, _, rfl, l, _, i, _, rfl, rfl, upd_same, hix, ?_⟩
      have el : (upd (upd H l (.lst (zs.map V.int))) l (.lst ((zs.map V.int).set i.toNat (.int (z - c))))) l = some (.lst ((zs.map V.int).set i.toNat (.int (z - c)))) := upd_same
      have sl : Same H (upd (upd H l (.lst (zs.map V.int))) l (.lst ((zs.map V.int).set i.toNat (.int (z - c))))) := same_fresh s1 nl
      refine ⟨_, rfl, _, _, rfl, rfl, _, rfl, l, _, rfl, .inl ⟨SqL.of el, fun t nt => ?_⟩⟩
      refine ⟨(by show 2 ≤ sizeLine; decide), fun p np => ?_⟩
      refine q2 (.inr ⟨i, c, z, rfl, i0, hcg, hzg, by omega⟩) p t _ (same_new (same_new sl nt) np) upd_same ?_
      have es : (zs.map V.int).set i.toNat (.int (z - c)) = (zs.set i.toNat (zs.getD i.toNat 0 - cs.getD i.toNat 0)).map V.int := by
        rw [List.getD_eq_getElem?_getD, List.getD_eq_getElem?_getD, hzg, hcg, ← List.map_set]
        rfl
      rw [upd_ne (ne_of_none upd_same np), upd_same, es]
      rfl
set_option maxHeartbeats 4000000 in
theorem ok_p_is_within {P : Program} {w : World} {K : PySem.W.Frag} {mg : Str → Option Value} {base : Heap} {f : Addr} {fd : FuncData} (F : Fun K "is_within" "is_within" s_p_is_within f fd) (b_isinstance : mg "isinstance" = none) (b_int : mg "int" = none) (b_bool : mg "bool" = none) :
    FnOk P w K mg base CX0 1 f fd ["thing", "least", "most"] (sp_p_is_within K) := by
  refine F.ok sc_p_is_within (fun vs H Q E h => ?_) (fun cdv A outer s H vs Q E hr h => ?_)
  · obtain ⟨x, d, lo, hi, rfl, hd, q⟩ := h
    rfl
  obtain ⟨x, d, lo, hi, rfl, hd, q⟩ := h
  refine ⟨_, (pss_cons (ps_if (PW.pt (pw_or (pt_val (pe_callB call_isi (by rfl) b_isinstance PyProof.Rows.boot_isinstance (pa_cons (pv 0) (pa_cons (pe_bltn (v := .ty "bool") rfl b_bool PyProof.Rows.boot_bool rfl) pa_nil)))) (pw_or1 (pt_not (pt_val (pe_callB call_isi (by rfl) b_isinstance PyProof.Rows.boot_isinstance (pa_cons (pv 0) (pa_cons (pe_bltn (v := .ty "int") rfl b_int PyProof.Rows.boot_int rfl) pa_nil)))))))) (pss_one (ps_ret pe_bl)) pss_nil)
        (pss_one (ps_ret (pe_chain op_le op_le (pv 1) (pv 0) (pv 2))))), ?_⟩
  cases hd with
  | non => exact ⟨_, rfl, _, _, _, _, false, rfl, .ty "bool", .base .non, kit_ty (by decide +kernel), _, rfl, _, rfl, _, _, _, _, false, rfl, .ty "int", .base .non, kit_ty (by decide +kernel), _, rfl, q⟩
  | bl b => exact ⟨_, rfl, _, _, _, _, true, rfl, .ty "bool", .base (.bl b), kit_ty (by decide +kernel), _, rfl, q⟩
  | str b => exact ⟨_, rfl, _, _, _, _, false, rfl, .ty "bool", .base (.str b), kit_ty (by decide +kernel), _, rfl, _, rfl, _, _, _, _, false, rfl, .ty "int", .base (.str b), kit_ty (by decide +kernel), _, rfl, q⟩
  | lst h _ => exact ⟨_, rfl, _, _, _, _, false, rfl, .ty "bool", tyL h, kit_ty (by decide +kernel), _, rfl, _, rfl, _, _, _, _, false, rfl, .ty "int", tyL h, kit_ty (by decide +kernel), _, rfl, q⟩
  | tup h _ => exact ⟨_, rfl, _, _, _, _, false, rfl, .ty "bool", tyT h, kit_ty (by decide +kernel), _, rfl, _, rfl, _, _, _, _, false, rfl, .ty "int", tyT h, kit_ty (by decide +kernel), _, rfl, q⟩
  | int i =>
    refine ⟨_, rfl, _, _, _, _, false, rfl, .ty "bool", .base (.int i), kit_ty (by decide +kernel), _, rfl, _, rfl, _, _, _, _, true, rfl, .ty "int", .base (.int i), kit_ty (by decide +kernel), _, rfl, ?_⟩
    refine ⟨_, rfl, _, rfl, _, _, rfl, rfl, _, rfl, ite2 (fun c => ?_) (fun c => ?_)⟩
    · refine ⟨_, rfl, _, _, rfl, rfl, ?_⟩
      have q' : Q (.bl (decide (lo ≤ i) && decide (i ≤ hi))) H := q
      rw [c] at q'
      exact q'
    · have c' : decide (lo ≤ i) = false := by
        cases h : decide (lo ≤ i) with
        | true => exact absurd h c
        | false => rfl
      have q' : Q (.bl (decide (lo ≤ i) && decide (i ≤ hi))) H := q
      rw [c'] at q'
      exact q'
set_option maxHeartbeats 4000000 in
theorem ok_p_are_cards {P : Program} {w : World} {K : PySem.W.Frag} {mg : Str → Option Value} {base : Heap} {f : Addr} {fd : FuncData} (F : Fun K "are_cards" "are_cards" s_p_are_cards f fd) (D_p_is_within : Def P w K mg base "is_within" 1 ["thing", "least", "most"] (sp_p_is_within K)) (b_len : mg "len" = none) (b_isinstance : mg "isinstance" = none) (b_tuple : mg "tuple" = none) (b_all : mg "all" = none) {t_MOST_KINDS : Tok} (g_MOST_KINDS : mg "MOST_KINDS" = some (.int 3 t_MOST_KINDS)) {t_MOST_FULL : Tok} (g_MOST_FULL : mg "MOST_FULL" = some (.int 20 t_MOST_FULL)) {t_LEAST_FULL : Tok} (g_LEAST_FULL : mg "LEAST_FULL" = some (.int 2 t_LEAST_FULL)) :
    FnOk P w K mg base CX0 2 f fd ["thing"] (sp_p_are_cards K) := by
  refine F.ok sc_p_are_cards (fun vs H Q E h => ?_) (fun cdv A outer s H vs Q E hr h => ?_)
  · obtain ⟨x, d, rfl, hd, q⟩ := h
    rfl
  obtain ⟨x, d, rfl, hd, q⟩ := h
  refine ⟨_, (pss_cons (ps_if (PW.pt (pw_or (pt_not (pt_val (pe_callB call_isi (by rfl) b_isinstance PyProof.Rows.boot_isinstance (pa_cons (pv 0) (pa_cons (pe_bltn (v := .ty "tuple") rfl b_tuple PyProof.Rows.boot_tuple rfl) pa_nil))))) (pw_or1 (pt_not (pt_chain op_le op_le pe_int (pe_callB call_len_seq (by rfl) b_len PySem.boot_len (pa_cons (pv 0) pa_nil)) (pe_glob (v := .int 3) rfl g_MOST_KINDS ⟨_, rfl⟩)))))) (pss_one (ps_ret pe_bl)) pss_nil)
        (pss_one (ps_ret (pe_callB (cr_all rfl) (by rfl) b_all PyProof.Rows.boot_all (pa_cons (pe_lc (own := [("full", 1)]) (g := gName 1) (tt := tYes) rfl sc_p_are_cards.nd (pi_tup (pv 0)) (blkOk_by (own := [("full", 1)]) (N := ["thing", "full"]) (sc := defScope s_p_are_cards) (by decide +kernel)) (fun _ _ _ _ _ => (pg_name (i := 1) sc_p_are_cards.nd rfl (Or.inl rfl))) (fun _ _ _ _ _ => pts_nil) (fun _ _ _ _ _ => (pe_def D_p_is_within hr (pa_cons (pv 1) (pa_cons (pe_glob (v := .int 2) rfl g_LEAST_FULL ⟨_, rfl⟩) (pa_cons (pe_glob (v := .int 20) rfl g_MOST_FULL ⟨_, rfl⟩) pa_nil)))))) pa_nil))))), ?_⟩
  cases hd with
  | non => exact ⟨_, rfl, _, _, _, _, false, rfl, .ty "tuple", .base .non, kit_ty (by decide +kernel), _, rfl, q _ (.refl H)⟩
  | bl b => exact ⟨_, rfl, _, _, _, _, false, rfl, .ty "tuple", .base (.bl b), kit_ty (by decide +kernel), _, rfl, q _ (.refl H)⟩
  | str b => exact ⟨_, rfl, _, _, _, _, false, rfl, .ty "tuple", .base (.str b), kit_ty (by decide +kernel), _, rfl, q _ (.refl H)⟩
  | int b => exact ⟨_, rfl, _, _, _, _, false, rfl, .ty "tuple", .base (.int b), kit_ty (by decide +kernel), _, rfl, q _ (.refl H)⟩
  | lst h _ => exact ⟨_, rfl, _, _, _, _, false, rfl, .ty "tuple", tyL h, kit_ty (by decide +kernel), _, rfl, q _ (.refl H)⟩
  | @tup a xs ds h hx =>
    have hl := dp_len hx
    refine ⟨_, rfl, _, _, _, _, true, rfl, .ty "tuple", tyT h, kit_ty (by decide +kernel), _, rfl, ?_⟩
    refine ⟨_, rfl, a, _, rfl, .inr h, _, _, rfl, rfl, _, rfl, ite2 (fun c => ?_) (fun c => ?_)⟩
    · have c' : 1 ≤ ds.length := by
        have := of_decide_eq_true c
        omega
      refine ⟨_, _, rfl, rfl, _, rfl, ?_⟩
      by_cases c2 : ds.length ≤ 3
      · have e2 : decide ((xs.length : Int) ≤ 3) = true := decide_eq_true (by omega)
        rw [e2]
        refine ⟨_, rfl, a, rfl, ⟨_, h⟩, fun D nD => ?_⟩
        refine lc_tup (K := K) (a := a) (xs := xs) (fun i H' => Same H H' ∧ H' D = some (.lst (((ds.take i).map (withinD 2 20)).map V.bl))) ?_ ?_ ?_ ?_
        · exact ⟨same_new (.refl H) nD, upd_same⟩
        · rintro i H' hi ⟨sm, e⟩
          exact Same.seqT sm h
        · rintro i y H' hi ⟨sm, e⟩
          obtain ⟨d, hd1, hd2⟩ := dp_get hx hi
          have hi' : i < xs.length := (List.getElem?_eq_some_iff.mp hi).1
          refine ⟨rfl, _, rfl, y, d, _, _, rfl, Same.dp sm hd2, _, e, ?_, same_fresh sm nD, ?_⟩
          · rw [List.length_map, List.length_map, List.length_take]
            exact small1000 (by omega)
          · rw [upd_same, take_map _ hd1, List.map_append]
            rfl
        · rintro H' ⟨sm, e⟩
          rw [hl, List.take_length] at e
          refine ⟨D, _, rfl, SqL.of e, ?_⟩
          have q' := q H' sm
          have ec : cardsD (.tuple ds) = (ds.map (withinD 2 20)).all id := by
            show (decide (1 ≤ ds.length) && decide (ds.length ≤ 3) && ds.all (withinD 2 20)) = _
            rw [decide_eq_true c', decide_eq_true c2, List.all_map]
            rfl
          rw [ec] at q'
          exact q'
      · have e2 : decide ((xs.length : Int) ≤ 3) = false := decide_eq_false (by omega)
        rw [e2]
        have q' := q H (.refl H)
        have ec : cardsD (.tuple ds) = false := by
          show (decide (1 ≤ ds.length) && decide (ds.length ≤ 3) && ds.all (withinD 2 20)) = _
          rw [decide_eq_false c2, Bool.and_false, Bool.false_and]
        rw [ec] at q'
        exact q'
    · have c' : ¬ 1 ≤ ds.length := fun z => c (decide_eq_true (by omega))
      refine ⟨_, rfl, ?_⟩
      have q' := q H (.refl H)
      have ec : cardsD (.tuple ds) = false := by
        show (decide (1 ≤ ds.length) && decide (ds.length ≤ 3) && ds.all (withinD 2 20)) = _
        rw [decide_eq_false c', Bool.false_and, Bool.false_and]
      rw [ec] at q'
      exact q'
set_option maxHeartbeats 4000000 in
theorem ok_p_refuse_no_cards {P : Program} {w : World} {K : PySem.W.Frag} {mg : Str → Option Value} {base : Heap} {f : Addr} {fd : FuncData} (F : Fun K "refuse_no_cards" "refuse_no_cards" s_p_refuse_no_cards f fd) (D_p_are_cards : Def P w K mg base "are_cards" 2 ["thing"] (sp_p_are_cards K)) :
    FnOk P w K mg base CX0 3 f fd ["thing"] (sp_p_refuse_no_cards K) := by
  refine F.ok sc_p_refuse_no_cards (fun vs H Q E h => ?_) (fun cdv A outer s H vs Q E hr h => ?_)
  · obtain ⟨x, d, rfl, hd, hc, q⟩ := h
    rfl
  obtain ⟨x, d, rfl, hd, hc, q⟩ := h
  refine ⟨_, (pss_one (ps_if (pt_not (pt_val (pe_def D_p_are_cards hr (pa_cons (pv 0) pa_nil)))) (pss_one (ps_never)) pss_nil)), ?_⟩
  refine ⟨_, rfl, x, d, rfl, hd, fun H' sm => ⟨_, rfl, ?_⟩⟩
  rw [hc]
  exact q H' sm
set_option maxHeartbeats 4000000 in
theorem ok_p_are_stamps {P : Program} {w : World} {K : PySem.W.Frag} {mg : Str → Option Value} {base : Heap} {f : Addr} {fd : FuncData} (F : Fun K "are_stamps" "are_stamps" s_p_are_stamps f fd) (D_p_is_within : Def P w K mg base "is_within" 1 ["thing", "least", "most"] (sp_p_is_within K)) (b_len : mg "len" = none) (b_isinstance : mg "isinstance" = none) (b_tuple : mg "tuple" = none) (b_all : mg "all" = none) {t_MOST : Tok} (g_MOST : mg "MOST" = some (.int 1000000000000000000 t_MOST)) :
    FnOk P w K mg base CX0 2 f fd ["cards", "thing"] (sp_p_are_stamps K) := by
  refine F.ok sc_p_are_stamps (fun vs H Q E h => ?_) (fun cdv A outer s H vs Q E hr h => ?_)
  · obtain ⟨cA, cs, x, d, rfl, hC, h3, hd, q⟩ := h
    rfl
  obtain ⟨cA, cs, x, d, rfl, hC, h3, hd, q⟩ := h
  refine ⟨_, (pss_cons (ps_if (PW.pt (pw_or (pt_not (pt_val (pe_callB call_isi (by rfl) b_isinstance PyProof.Rows.boot_isinstance (pa_cons (pv 1) (pa_cons (pe_bltn (v := .ty "tuple") rfl b_tuple PyProof.Rows.boot_tuple rfl) pa_nil))))) (pw_or1 (pt_cmpR op_ne (pe_callB call_len_seq (by rfl) b_len PySem.boot_len (pa_cons (pv 1) pa_nil)) (pe_callB call_len_seq (by rfl) b_len PySem.boot_len (pa_cons (pv 0) pa_nil)) (nomark _))))) (pss_one (ps_ret pe_bl)) pss_nil)
        (pss_one (ps_ret (pe_callB (cr_all rfl) (by rfl) b_all PyProof.Rows.boot_all (pa_cons (pe_lc (own := [("many", 2)]) (g := gName 2) (tt := tYes) rfl sc_p_are_stamps.nd (pi_tup (pv 1)) (blkOk_by (own := [("many", 2)]) (N := ["cards", "thing", "many"]) (sc := defScope s_p_are_stamps) (by decide +kernel)) (fun _ _ _ _ _ => (pg_name (i := 2) sc_p_are_stamps.nd rfl (Or.inl rfl))) (fun _ _ _ _ _ => pts_nil) (fun _ _ _ _ _ => (pe_def D_p_is_within hr (pa_cons (pv 2) (pa_cons pe_int (pa_cons (pe_glob (v := .int 1000000000000000000) rfl g_MOST ⟨_, rfl⟩) pa_nil)))))) pa_nil))))), ?_⟩
  cases hd with
  | non => exact ⟨_, rfl, _, _, _, _, false, rfl, .ty "tuple", .base .non, kit_ty (by decide +kernel), _, rfl, q _ (.refl H)⟩
  | bl b => exact ⟨_, rfl, _, _, _, _, false, rfl, .ty "tuple", .base (.bl b), kit_ty (by decide +kernel), _, rfl, q _ (.refl H)⟩
  | str b => exact ⟨_, rfl, _, _, _, _, false, rfl, .ty "tuple", .base (.str b), kit_ty (by decide +kernel), _, rfl, q _ (.refl H)⟩
  | int b => exact ⟨_, rfl, _, _, _, _, false, rfl, .ty "tuple", .base (.int b), kit_ty (by decide +kernel), _, rfl, q _ (.refl H)⟩
  | lst h _ => exact ⟨_, rfl, _, _, _, _, false, rfl, .ty "tuple", tyL h, kit_ty (by decide +kernel), _, rfl, q _ (.refl H)⟩
  | @tup a xs ds h hx =>
    have hl := dp_len hx
    refine ⟨_, rfl, _, _, _, _, true, rfl, .ty "tuple", tyT h, kit_ty (by decide +kernel), _, rfl, ?_⟩
    refine ⟨_, rfl, a, _, rfl, .inr h, _, rfl, cA, _, rfl, .inr hC, rfl, _, rfl, ?_⟩
    by_cases c2 : ds.length = cs.length
    · have e2 : decide (V.int (xs.length : Int) = V.int (cs.length : Int)) = true := decide_eq_true (by rw [hl, c2])
      rw [e2]
      refine ⟨_, rfl, a, rfl, ⟨_, h⟩, fun D nD => ?_⟩
      refine lc_tup (K := K) (a := a) (xs := xs) (fun i H' => Same H H' ∧ H' D = some (.lst (((ds.take i).map (withinD 0 1000000000000000000)).map V.bl))) ?_ ?_ ?_ ?_
      · exact ⟨same_new (.refl H) nD, upd_same⟩
      · rintro i H' hi ⟨sm, e⟩
        exact Same.seqT sm h
      · rintro i y H' hi ⟨sm, e⟩
        obtain ⟨d, hd1, hd2⟩ := dp_get hx hi
        have hi' : i < xs.length := (List.getElem?_eq_some_iff.mp hi).1
        refine ⟨rfl, _, rfl, y, d, _, _, rfl, Same.dp sm hd2, _, e, ?_, same_fresh sm nD, ?_⟩
        · rw [List.length_map, List.length_map, List.length_take]
          exact small1000 (by omega)
        · rw [upd_same, take_map _ hd1, List.map_append]
          rfl
      · rintro H' ⟨sm, e⟩
        rw [hl, List.take_length] at e
        refine ⟨D, _, rfl, SqL.of e, ?_⟩
        have q' := q H' sm
        have ec : stampsD cs.length (.tuple ds) = (ds.map (withinD 0 1000000000000000000)).all id := by
          show (decide (ds.length = cs.length) && ds.all (withinD 0 1000000000000000000)) = _
          rw [decide_eq_true c2, List.all_map]
          rfl
        rw [ec] at q'
        exact q'
    · have e2 : decide (V.int (xs.length : Int) = V.int (cs.length : Int)) = false := decide_eq_false (fun z => c2 (by have := V.int.inj z; omega))
      rw [e2]
      have q' := q H (.refl H)
      have ec : stampsD cs.length (.tuple ds) = false := by
        show (decide (ds.length = cs.length) && ds.all (withinD 0 1000000000000000000)) = _
        rw [decide_eq_false c2, Bool.false_and]
      rw [ec] at q'
      exact q'
set_option maxHeartbeats 4000000 in
theorem ok_p_purse_fits {P : Program} {w : World} {K : PySem.W.Frag} {mg : Str → Option Value} {base : Heap} {f : Addr} {fd : FuncData} (F : Fun K "purse_fits" "purse_fits" s_p_purse_fits f fd) (D_p_are_stamps : Def P w K mg base "are_stamps" 2 ["cards", "thing"] (sp_p_are_stamps K)) (D_p_is_within : Def P w K mg base "is_within" 1 ["thing", "least", "most"] (sp_p_is_within K)) (b_len : mg "len" = none) (b_isinstance : mg "isinstance" = none) (b_tuple : mg "tuple" = none) {t_MOST : Tok} (g_MOST : mg "MOST" = some (.int 1000000000000000000 t_MOST)) :
    FnOk P w K mg base CX0 3 f fd ["cards", "thing"] (sp_p_purse_fits K) := by
  refine F.ok sc_p_purse_fits (fun vs H Q E h => ?_) (fun cdv A outer s H vs Q E hr h => ?_)
  · obtain ⟨cA, cs, x, d, rfl, hC, h3, hd, q⟩ := h
    rfl
  obtain ⟨cA, cs, x, d, rfl, hC, h3, hd, q⟩ := h
  refine ⟨_, (pss_cons (ps_if (PW.pt (pw_or (pt_not (pt_val (pe_callB call_isi (by rfl) b_isinstance PyProof.Rows.boot_isinstance (pa_cons (pv 1) (pa_cons (pe_bltn (v := .ty "tuple") rfl b_tuple PyProof.Rows.boot_tuple rfl) pa_nil))))) (pw_or1 (pt_cmpR op_ne (pe_callB call_len_seq (by rfl) b_len PySem.boot_len (pa_cons (pv 1) pa_nil)) pe_int (nomark _))))) (pss_one (ps_ret pe_bl)) pss_nil)
        (pss_cons (ps_asg (pv 1) (pg_tup rfl (pgs_cons (pg_name (i := 2) sc_p_purse_fits.nd rfl (Or.inl rfl)) (pgs_cons (pg_name (i := 3) sc_p_purse_fits.nd rfl (Or.inl rfl)) pgs_nil))))
        (pss_one (ps_ret (pe_and (pe_def D_p_is_within hr (pa_cons (pv 2) (pa_cons pe_int (pa_cons (pe_glob (v := .int 1000000000000000000) rfl g_MOST ⟨_, rfl⟩) pa_nil)))) (pe_one (pe_def D_p_are_stamps hr (pa_cons (pv 0) (pa_cons (pv 3) pa_nil))))))))), ?_⟩
  cases hd with
  | non => exact ⟨_, rfl, _, _, _, _, false, rfl, .ty "tuple", .base .non, kit_ty (by decide +kernel), _, rfl, q _ (.refl H)⟩
  | bl b => exact ⟨_, rfl, _, _, _, _, false, rfl, .ty "tuple", .base (.bl b), kit_ty (by decide +kernel), _, rfl, q _ (.refl H)⟩
  | str b => exact ⟨_, rfl, _, _, _, _, false, rfl, .ty "tuple", .base (.str b), kit_ty (by decide +kernel), _, rfl, q _ (.refl H)⟩
  | int b => exact ⟨_, rfl, _, _, _, _, false, rfl, .ty "tuple", .base (.int b), kit_ty (by decide +kernel), _, rfl, q _ (.refl H)⟩
  | lst h _ => exact ⟨_, rfl, _, _, _, _, false, rfl, .ty "tuple", tyL h, kit_ty (by decide +kernel), _, rfl, q _ (.refl H)⟩
  | @tup a xs ds h hx =>
    have hl := dp_len hx
    refine ⟨_, rfl, _, _, _, _, true, rfl, .ty "tuple", tyT h, kit_ty (by decide +kernel), _, rfl, ?_⟩
    refine ⟨_, rfl, a, _, rfl, .inr h, rfl, _, rfl, ?_⟩
    by_cases c2 : xs.length = 2
    · have e2 : decide (V.int (xs.length : Int) = V.int 2) = true := decide_eq_true (by rw [c2]; rfl)
      rw [e2]
      obtain ⟨x1, x2, rfl⟩ := len2 c2
      obtain ⟨d1, d2, rfl, y1, y2⟩ := dp_two hx
      refine ⟨_, rfl, a, [x1, x2], rfl, h, rfl, x1, [x2], rfl, x2, [], rfl, rfl, ?_⟩
      refine ⟨_, rfl, x1, d1, 0, 1000000000000000000, rfl, y1, _, rfl, ite2 (fun c => ?_) (fun c => ?_)⟩
      · refine ⟨_, rfl, _, rfl, cA, cs, x2, d2, rfl, hC, h3, y2, fun H' sm => ?_⟩
        have q' : Q (.bl (withinD 0 1000000000000000000 d1 && stampsD cs.length d2)) H' := q H' sm
        rw [c] at q'
        exact q'
      · have q' : Q (.bl (withinD 0 1000000000000000000 d1 && stampsD cs.length d2)) H := q H (.refl H)
        rw [Bool.eq_false_iff.mpr c] at q'
        exact q'
    · have e2 : decide (V.int (xs.length : Int) = V.int 2) = false := decide_eq_false (fun z => c2 (by have := V.int.inj z; omega))
      rw [e2]
      have q' := q H (.refl H)
      have ec : purseD cs.length (.tuple ds) = false := by
        exact purse_not2 (by omega)
      rw [ec] at q'
      exact q'
set_option maxHeartbeats 4000000 in
theorem ok_p_refuse_no_purse {P : Program} {w : World} {K : PySem.W.Frag} {mg : Str → Option Value} {base : Heap} {f : Addr} {fd : FuncData} (F : Fun K "refuse_no_purse" "refuse_no_purse" s_p_refuse_no_purse f fd) (D_p_purse_fits : Def P w K mg base "purse_fits" 3 ["cards", "thing"] (sp_p_purse_fits K)) :
    FnOk P w K mg base CX0 4 f fd ["cards", "thing"] (sp_p_refuse_no_purse K) := by
  refine F.ok sc_p_refuse_no_purse (fun vs H Q E h => ?_) (fun cdv A outer s H vs Q E hr h => ?_)
  · obtain ⟨cA, cs, x, d, rfl, hC, h3, hd, hp, q⟩ := h
    rfl
  obtain ⟨cA, cs, x, d, rfl, hC, h3, hd, hp, q⟩ := h
  refine ⟨_, (pss_one (ps_if (pt_not (pt_val (pe_def D_p_purse_fits hr (pa_cons (pv 0) (pa_cons (pv 1) pa_nil))))) (pss_one (ps_never)) pss_nil)), ?_⟩
  refine ⟨_, rfl, _, rfl, cA, cs, x, d, rfl, hC, h3, hd, fun H' sm => ⟨_, rfl, ?_⟩⟩
  rw [hp]
  exact q H' sm
set_option maxHeartbeats 4000000 in
theorem ok_p_is_kind {P : Program} {w : World} {K : PySem.W.Frag} {mg : Str → Option Value} {base : Heap} {f : Addr} {fd : FuncData} (F : Fun K "is_kind" "is_kind" s_p_is_kind f fd) (D_p_is_within : Def P w K mg base "is_within" 1 ["thing", "least", "most"] (sp_p_is_within K)) (b_len : mg "len" = none) :
    FnOk P w K mg base CX0 2 f fd ["cards", "thing"] (sp_p_is_kind K) := by
  refine F.ok sc_p_is_kind (fun vs H Q E h => ?_) (fun cdv A outer s H vs Q E hr h => ?_)
  · obtain ⟨cA, cs, x, d, rfl, hC, hd, q⟩ := h
    rfl
  obtain ⟨cA, cs, x, d, rfl, hC, hd, q⟩ := h
  refine ⟨_, (pss_one (ps_ret (pe_def D_p_is_within hr (pa_cons (pv 1) (pa_cons pe_int (pa_cons (pe_op op_sub (pe_callB call_len_seq (by rfl) b_len PySem.boot_len (pa_cons (pv 0) pa_nil)) pe_int) pa_nil)))))), ?_⟩
  exact ⟨_, rfl, _, rfl, cA, _, rfl, .inr hC, _, _, rfl, rfl, x, d, _, _, rfl, hd, q⟩
set_option maxHeartbeats 4000000 in
theorem ok_p_is_deed {P : Program} {w : World} {K : PySem.W.Frag} {mg : Str → Option Value} {base : Heap} {f : Addr} {fd : FuncData} (F : Fun K "is_deed" "is_deed" s_p_is_deed f fd) (D_p_is_kind : Def P w K mg base "is_kind" 2 ["cards", "thing"] (sp_p_is_kind K)) (b_isinstance : mg "isinstance" = none) (b_str : mg "str" = none) {t_RIDE : Tok} (g_RIDE : mg "RIDE" = some (.str "ride" t_RIDE)) :
    FnOk P w K mg base CX0 3 f fd ["cards", "thing"] (sp_p_is_deed K) := by
  refine F.ok sc_p_is_deed (fun vs H Q E h => ?_) (fun cdv A outer s H vs Q E hr h => ?_)
  · obtain ⟨cA, cs, x, d, rfl, hC, hd, q⟩ := h
    rfl
  obtain ⟨cA, cs, x, d, rfl, hC, hd, q⟩ := h
  refine ⟨_, (pss_cons (ps_if (pt_val (pe_callB call_isi (by rfl) b_isinstance PyProof.Rows.boot_isinstance (pa_cons (pv 1) (pa_cons (pe_bltn (v := .ty "str") rfl b_str PyProof.Rows.boot_str rfl) pa_nil)))) (pss_one (ps_ret (pe_cmpR op_eq (pv 1) (pe_glob (v := .str "ride") rfl g_RIDE ⟨_, rfl⟩) (nomark _)))) pss_nil)
        (pss_one (ps_ret (pe_def D_p_is_kind hr (pa_cons (pv 0) (pa_cons (pv 1) pa_nil)))))), ?_⟩
  cases hd with
  | non => exact ⟨_, rfl, _, _, _, _, false, rfl, .ty "str", .base .non, kit_ty (by decide +kernel), _, rfl, _, rfl, _, rfl, cA, cs, _, _, rfl, hC, .non, q⟩
  | bl b => exact ⟨_, rfl, _, _, _, _, false, rfl, .ty "str", .base (.bl b), kit_ty (by decide +kernel), _, rfl, _, rfl, _, rfl, cA, cs, _, _, rfl, hC, .bl b, q⟩
  | int b => exact ⟨_, rfl, _, _, _, _, false, rfl, .ty "str", .base (.int b), kit_ty (by decide +kernel), _, rfl, _, rfl, _, rfl, cA, cs, _, _, rfl, hC, .int b, q⟩
  | str b => exact ⟨_, rfl, _, _, _, _, true, rfl, .ty "str", .base (.str b), kit_ty (by decide +kernel), _, rfl, _, rfl, rfl, q⟩
  | lst h hx => exact ⟨_, rfl, _, _, _, _, false, rfl, .ty "str", tyL h, kit_ty (by decide +kernel), _, rfl, _, rfl, _, rfl, cA, cs, _, _, rfl, hC, .lst h hx, q⟩
  | tup h hx => exact ⟨_, rfl, _, _, _, _, false, rfl, .ty "str", tyT h, kit_ty (by decide +kernel), _, rfl, _, rfl, _, rfl, cA, cs, _, _, rfl, hC, .tup h hx, q⟩
set_option maxHeartbeats 4000000 in
theorem ok_p_is_row {P : Program} {w : World} {K : PySem.W.Frag} {mg : Str → Option Value} {base : Heap} {f : Addr} {fd : FuncData} (F : Fun K "is_row" "is_row" s_p_is_row f fd) (D_p_is_deed : Def P w K mg base "is_deed" 3 ["cards", "thing"] (sp_p_is_deed K)) (b_len : mg "len" = none) (b_isinstance : mg "isinstance" = none) (b_list : mg "list" = none) (b_all : mg "all" = none) {t_MOST_DEEDS : Tok} (g_MOST_DEEDS : mg "MOST_DEEDS" = some (.int 100 t_MOST_DEEDS)) :
    FnOk P w K mg base CX0 4 f fd ["cards", "thing"] (sp_p_is_row K) := by
  refine F.ok sc_p_is_row (fun vs H Q E h => ?_) (fun cdv A outer s H vs Q E hr h => ?_)
  · obtain ⟨cA, cs, x, d, rfl, hC, hd, q⟩ := h
    rfl
  obtain ⟨cA, cs, x, d, rfl, hC, hd, q⟩ := h
  refine ⟨_, (pss_cons (ps_if (PW.pt (pw_or (pt_not (pt_val (pe_callB call_isi (by rfl) b_isinstance PyProof.Rows.boot_isinstance (pa_cons (pv 1) (pa_cons (pe_bltn (v := .ty "list") rfl b_list PyProof.Rows.boot_list rfl) pa_nil))))) (pw_or1 (pt_cmpR op_gt (pe_callB call_len_seq (by rfl) b_len PySem.boot_len (pa_cons (pv 1) pa_nil)) (pe_glob (v := .int 100) rfl g_MOST_DEEDS ⟨_, rfl⟩) (nomark _))))) (pss_one (ps_ret pe_bl)) pss_nil)
        (pss_one (ps_ret (pe_callB (cr_all rfl) (by rfl) b_all PyProof.Rows.boot_all (pa_cons (pe_lc (own := [("deed", 2)]) (g := gName 2) (tt := tYes) rfl sc_p_is_row.nd (pi_list (pv 1)) (blkOk_by (own := [("deed", 2)]) (N := ["cards", "thing", "deed"]) (sc := defScope s_p_is_row) (by decide +kernel)) (fun _ _ _ _ _ => (pg_name (i := 2) sc_p_is_row.nd rfl (Or.inl rfl))) (fun _ _ _ _ _ => pts_nil) (fun _ _ _ _ _ => (pe_def D_p_is_deed hr (pa_cons (pv 0) (pa_cons (pv 2) pa_nil))))) pa_nil))))), ?_⟩
  cases hd with
  | non => exact ⟨_, rfl, _, _, _, _, false, rfl, .ty "list", .base .non, kit_ty (by decide +kernel), _, rfl, q _ (.refl H)⟩
  | bl b => exact ⟨_, rfl, _, _, _, _, false, rfl, .ty "list", .base (.bl b), kit_ty (by decide +kernel), _, rfl, q _ (.refl H)⟩
  | str b => exact ⟨_, rfl, _, _, _, _, false, rfl, .ty "list", .base (.str b), kit_ty (by decide +kernel), _, rfl, q _ (.refl H)⟩
  | int b => exact ⟨_, rfl, _, _, _, _, false, rfl, .ty "list", .base (.int b), kit_ty (by decide +kernel), _, rfl, q _ (.refl H)⟩
  | tup h _ => exact ⟨_, rfl, _, _, _, _, false, rfl, .ty "list", tyT h, kit_ty (by decide +kernel), _, rfl, q _ (.refl H)⟩
  | @lst a xs ds h hx =>
    have hl := dp_len hx
    refine ⟨_, rfl, _, _, _, _, true, rfl, .ty "list", tyL h, kit_ty (by decide +kernel), _, rfl, ?_⟩
    refine ⟨_, rfl, a, _, rfl, .inl h, _, _, rfl, rfl, _, rfl, ?_⟩
    by_cases c2 : ds.length ≤ 100
    · refine iteN (fun e => ?_) ?_
      · have := of_decide_eq_true e
        omega
      refine ⟨_, rfl, a, rfl, ⟨_, h⟩, fun D nD => ?_⟩
      refine lc_list (K := K) (a := a) (xs := xs) (fun i H' => Same H H' ∧ H' D = some (.lst (((ds.take i).map (deedD (cs.length : Int))).map V.bl))) ?_ ?_ ?_ ?_
      · exact ⟨same_new (.refl H) nD, upd_same⟩
      · rintro i H' hi ⟨sm, e⟩
        exact L2.Same.seq sm h
      · rintro i y H' hi ⟨sm, e⟩
        obtain ⟨d, hd1, hd2⟩ := dp_get hx hi
        have hi' : i < xs.length := (List.getElem?_eq_some_iff.mp hi).1
        refine ⟨rfl, _, rfl, _, rfl, cA, cs, y, d, rfl, Same.seqT sm hC, Same.dp sm hd2, _, e, ?_, same_fresh sm nD, ?_⟩
        · rw [List.length_map, List.length_map, List.length_take]
          exact small1000 (by omega)
        · rw [upd_same, take_map _ hd1, List.map_append]
          rfl
      · rintro H' ⟨sm, e⟩
        rw [hl, List.take_length] at e
        refine ⟨D, _, rfl, SqL.of e, ?_⟩
        have q' := q H' sm
        have ec : rowD (cs.length : Int) (.list ds) = (ds.map (deedD (cs.length : Int))).all id := by
          show (decide (ds.length ≤ 100) && ds.all (deedD (cs.length : Int))) = _
          rw [decide_eq_true c2, List.all_map]
          rfl
        rw [ec] at q'
        exact q'
    · refine iteP (decide_eq_true (by omega)) ?_
      have q' := q H (.refl H)
      have ec : rowD (cs.length : Int) (.list ds) = false := by
        show (decide (ds.length ≤ 100) && ds.all (deedD (cs.length : Int))) = _
        rw [decide_eq_false c2, Bool.false_and]
      rw [ec] at q'
      exact q'
set_option maxHeartbeats 4000000 in
theorem ok_p_refuse_no_row {P : Program} {w : World} {K : PySem.W.Frag} {mg : Str → Option Value} {base : Heap} {f : Addr} {fd : FuncData} (F : Fun K "refuse_no_row" "refuse_no_row" s_p_refuse_no_row f fd) (D_p_is_row : Def P w K mg base "is_row" 4 ["cards", "thing"] (sp_p_is_row K)) {C_NoRow : Addr} (T_NoRow : ExcT K mg "NoRow" C_NoRow) :
    FnOk P w K mg base (L2N.CX P w) 5 f fd ["cards", "thing"] (sp_p_refuse_no_row mg K) := by
  refine okN F sc_p_refuse_no_row (fun vs H Q E h => ?_) (fun cdv A outer s H vs Q E hr h => ?_)
  · obtain ⟨cA, cs, x, d, rfl, hC, hd, q1, q2⟩ := h
    rfl
  obtain ⟨cA, cs, x, d, rfl, hC, hd, q1, q2⟩ := h
  refine ⟨_, (pss_one (ps_if (pt_not (pt_val (pe_def D_p_is_row hr (pa_cons (pv 0) (pa_cons (pv 1) pa_nil))))) (pss_one (ps_raiseX T_NoRow (L2N.takes_of rfl rfl rfl rfl))) pss_nil)), ?_⟩
  refine ⟨_, rfl, _, rfl, cA, cs, x, d, rfl, hC, hd, fun H' sm => ⟨_, rfl, ?_⟩⟩
  cases z : rowD (cs.length : Int) d with
  | true => exact q1 z H' sm
  | false => exact q2 z H' _ sm T_NoRow.g
set_option maxHeartbeats 4000000 in
theorem ok_p_after_ride {P : Program} {w : World} {K : PySem.W.Frag} {mg : Str → Option Value} {base : Heap} {f : Addr} {fd : FuncData} (F : Fun K "after_ride" "after_ride" s_p_after_ride f fd) (b_tuple : mg "tuple" = none) :
    FnOk P w K mg base CX0 1 f fd ["purse"] (sp_p_after_ride K) := by
  refine F.ok sc_p_after_ride (fun vs H Q E h => ?_) (fun cdv A outer s H vs Q E hr h => ?_)
  · obtain ⟨pA, x, zs, rfl, ⟨sA, hP1, hP2⟩, h3, q1, q2⟩ := h
    rfl
  obtain ⟨pA, x, zs, rfl, ⟨sA, hP1, hP2⟩, h3, q1, q2⟩ := h
  refine ⟨_, (pss_cons (ps_asg (pv 0) (pg_tup rfl (pgs_cons (pg_name (i := 1) sc_p_after_ride.nd rfl (Or.inl rfl)) (pgs_cons (pg_name (i := 2) sc_p_after_ride.nd rfl (Or.inl rfl)) pgs_nil))))
        (pss_cons (ps_if (pt_cmpR op_lt (pv 1) pe_int (nomark _)) (pss_one (ps_ret pe_non)) pss_nil)
        (pss_one (ps_ret (pe_tup (pa_cons (pe_op op_sub (pv 1) pe_int) (pa_cons (pe_callTy call_tuple_of (by rfl) b_tuple PyProof.Rows.boot_tuple (pa_cons (pe_lc (own := [("many", 3)]) (g := gName 3) (tt := tYes) rfl sc_p_after_ride.nd (pi_tup (pv 2)) (blkOk_by (own := [("many", 3)]) (N := ["purse", "rides", "stamps", "many"]) (sc := defScope s_p_after_ride) (by decide +kernel)) (fun _ _ _ _ _ => (pg_name (i := 3) sc_p_after_ride.nd rfl (Or.inl rfl))) (fun _ _ _ _ _ => pts_nil) (fun _ _ _ _ _ => (pe_op op_add (pv 3) pe_int))) pa_nil)) pa_nil))))))), ?_⟩
  refine ⟨_, rfl, pA, _, rfl, hP1, rfl, _, _, rfl, _, _, rfl, rfl, ?_⟩
  refine ⟨_, rfl, _, _, rfl, rfl, _, rfl, ite2 (fun c => ?_) (fun c => ?_)⟩
  · have c' := of_decide_eq_true c
    exact q1 (by omega)
  · have c' : ¬ x < 1 := fun z => c (decide_eq_true z)
    refine ⟨_, rfl, _, _, rfl, rfl, _, rfl, sA, rfl, ⟨_, hP2⟩, fun D nD => ?_⟩
    refine lc_tup (K := K) (a := sA) (xs := zs.map V.int) (fun j H' => Same H H' ∧ H' D = some (.lst (((zs.take j).map (· + 1)).map V.int))) ?_ ?_ ?_ ?_
    · exact ⟨same_new (.refl _) nD, upd_same⟩
    · rintro j H' hj ⟨sm, e⟩
      exact Same.seqT sm hP2
    · rintro j y H' hj ⟨sm, e⟩
      obtain ⟨z, hz, rfl⟩ := get_map hj
      have hj' : j < zs.length := (List.getElem?_eq_some_iff.mp hz).1
      refine ⟨rfl, _, rfl, _, _, rfl, rfl, _, e, ?_, same_fresh sm nD, ?_⟩
      · rw [List.length_map, List.length_map, List.length_take]
        exact small1000 (by omega)
      · rw [upd_same, take_map _ hz, List.map_append]
        rfl
    · rintro H' ⟨sm, e⟩
      rw [List.length_map, List.take_length] at e
      refine ⟨D, _, rfl, .inl ⟨SqL.of e, fun t nt => ?_⟩⟩
      refine ⟨(by show 2 ≤ sizeLine; decide), fun p np => ?_⟩
      refine q2 (by omega) p t _ (same_new (same_new sm nt) np) upd_same ?_
      rw [upd_ne (ne_of_none (show (upd H' t (.tup ((zs.map (· + 1)).map V.int))) t = some _ from upd_same) np), upd_same]
set_option maxHeartbeats 4000000 in
theorem ok_p_after_giving {P : Program} {w : World} {K : PySem.W.Frag} {mg : Str → Option Value} {base : Heap} {f : Addr} {fd : FuncData} (F : Fun K "after_giving" "after_giving" s_p_after_giving f fd) (b_list : mg "list" = none) (b_tuple : mg "tuple" = none) :
    FnOk P w K mg base CX0 1 f fd ["cards", "purse", "kind"] (sp_p_after_giving K) := by
  refine F.ok sc_p_after_giving (fun vs H Q E h => ?_) (fun cdv A outer s H vs Q E hr h => ?_)
  · obtain ⟨cA, pA, cs, x, zs, i, c, z, rfl, hC, ⟨sA, hP1, hP2⟩, hl, h3, i0, i1, hcg, hzg, q1, q2⟩ := h
    rfl
  obtain ⟨cA, pA, cs, x, zs, i, c, z, rfl, hC, ⟨sA, hP1, hP2⟩, hl, h3, i0, i1, hcg, hzg, q1, q2⟩ := h
  refine ⟨_, (pss_cons (ps_asg (pv 1) (pg_tup rfl (pgs_cons (pg_name (i := 3) sc_p_after_giving.nd rfl (Or.inl rfl)) (pgs_cons (pg_name (i := 4) sc_p_after_giving.nd rfl (Or.inl rfl)) pgs_nil))))
        (pss_cons (ps_if (pt_cmpR op_lt (pe_ix ix_tup (pv 4) (pv 2) (fun _ _ => rfl)) (pe_ix ix_tup (pv 0) (pv 2) (fun _ _ => rfl)) (nomark _)) (pss_one (ps_ret pe_non)) pss_nil)
        (pss_cons (ps_set (i := 5) sc_p_after_giving.nd rfl (Or.inl rfl) (pe_callTy call_list_of (by rfl) b_list PyProof.Rows.boot_list (pa_cons (pv 4) pa_nil)))
        (pss_cons (ps_augS (pv 5) (pv 2) get_list (pe_ix ix_tup (pv 0) (pv 2) (fun _ _ => rfl)) ip_sub set_list)
        (pss_one (ps_ret (pe_tup (pa_cons (pe_op op_add (pv 3) pe_int) (pa_cons (pe_callTy call_tuple_of (by rfl) b_tuple PyProof.Rows.boot_tuple (pa_cons (pv 5) pa_nil)) pa_nil))))))))), ?_⟩
  have hza : atI (zs.map V.int) i = some (.int z) := at_of (j := i.toNat) (by omega) (by rw [List.getElem?_map, hzg]; rfl)
  have hca : atI (cs.map V.int) i = some (.int c) := at_of (j := i.toNat) (by omega) (by rw [List.getElem?_map, hcg]; rfl)
  refine ⟨_, rfl, pA, _, rfl, hP1, rfl, _, _, rfl, _, _, rfl, rfl, ?_⟩
  refine ⟨_, rfl, _, rfl, sA, _, _, _, rfl, rfl, hP2, hza, _, rfl, _, rfl, cA, _, _, _, rfl, rfl, hC, hca, _, _, rfl, rfl, _, rfl, ite2 (fun e => ?_) (fun e => ?_)⟩
  · exact q1 (of_decide_eq_true e)
  · have e' : ¬ z < c := fun g => e (decide_eq_true g)
    refine ⟨_, rfl, sA, _, rfl, .inr hP2, fun l nl => ?_⟩
    have s1 := same_upd (o := .lst (zs.map V.int)) nl
    have hix : ixN (zs.map V.int).length i = some i.toNat := by
      unfold ixN
      rw [if_pos i0, if_pos (by rw [List.length_map]; omega)]
    refine ⟨_, rfl, _, rfl, l, _, i, _, rfl, rfl, SqL.of upd_same, i0, by omega, (by rw [List.getElem?_map, hzg]; rfl), _, rfl, _, rfl, cA, _, _, _, rfl, rfl, Same.seqT s1 hC, hca, _, _, rfl, rfl, l, _, i, _, rfl, rfl, upd_same, hix, ?_⟩
    have el : (upd (upd H l (.lst (zs.map V.int))) l (.lst ((zs.map V.int).set i.toNat (.int (z - c))))) l = some (.lst ((zs.map V.int).set i.toNat (.int (z - c)))) := upd_same
    have sl : Same H (upd (upd H l (.lst (zs.map V.int))) l (.lst ((zs.map V.int).set i.toNat (.int (z - c))))) := same_fresh s1 nl
    refine ⟨_, rfl, _, _, rfl, rfl, _, rfl, l, _, rfl, .inl ⟨SqL.of el, fun t nt => ?_⟩⟩
    refine ⟨(by show 2 ≤ sizeLine; decide), fun p np => ?_⟩
    refine q2 (by omega) p t _ (same_new (same_new sl nt) np) upd_same ?_
    rw [upd_ne (ne_of_none upd_same np), upd_same, ← List.map_set]
set_option maxHeartbeats 4000000 in
theorem ok_p_after_deed {P : Program} {w : World} {K : PySem.W.Frag} {mg : Str → Option Value} {base : Heap} {f : Addr} {fd : FuncData} (F : Fun K "after_deed" "after_deed" s_p_after_deed f fd) (D_p_after_ride : Def P w K mg base "after_ride" 1 ["purse"] (sp_p_after_ride K)) (D_p_after_giving : Def P w K mg base "after_giving" 1 ["cards", "purse", "kind"] (sp_p_after_giving K)) {t_RIDE : Tok} (g_RIDE : mg "RIDE" = some (.str "ride" t_RIDE)) :
    FnOk P w K mg base CX0 2 f fd ["cards", "purse", "deed"] (sp_p_after_deed K) := by
  refine F.ok sc_p_after_deed (fun vs H Q E h => ?_) (fun cdv A outer s H vs Q E hr h => ?_)
  · obtain ⟨kA, pA, cs, x, zs, d, rfl, hC, hP, hl, h3, hd, q1, q2⟩ := h
    rfl
  obtain ⟨kA, pA, cs, x, zs, d, rfl, hC, hP, hl, h3, hd, q1, q2⟩ := h
  refine ⟨_, (pss_cons (ps_if (pt_cmpR op_eq (pv 2) (pe_glob (v := .str "ride") rfl g_RIDE ⟨_, rfl⟩) (nomark _)) (pss_one (ps_ret (pe_def D_p_after_ride hr (pa_cons (pv 1) pa_nil)))) pss_nil)
        (pss_one (ps_ret (pe_def D_p_after_giving hr (pa_cons (pv 0) (pa_cons (pv 1) (pa_cons (pv 2) pa_nil))))))), ?_⟩
  rcases hd with rfl | ⟨i, rfl, i0, i1⟩
  · refine ⟨_, rfl, rfl, _, rfl, iteP (decide_eq_true rfl) ?_⟩
    refine ⟨_, rfl, pA, x, zs, rfl, hP, by omega, fun h => q1 (fun g => ?_) H (.refl H), fun h p s' H' sm e1 e2 => q2 (.inl ⟨rfl, h⟩) p s' H' sm e1 e2⟩
    rcases g with ⟨_, g⟩ | ⟨i, c, z, g, _⟩
    · exact h g
    · exact nomatch g
  · refine ⟨_, rfl, rfl, _, rfl, iteN (fun e => nomatch of_decide_eq_true e) ?_⟩
    obtain ⟨z, hzm, hzg, hza⟩ := at_int (ns := zs) (k := i) i0 (by omega)
    obtain ⟨c, hcm, hcg, hca⟩ := at_int (ns := cs) (k := i) i0 i1
    have es : aftS cs zs (.int i) = zs.set i.toNat (z - c) := by
      show zs.set i.toNat (zs.getD i.toNat 0 - cs.getD i.toNat 0) = _
      rw [List.getD_eq_getElem?_getD, List.getD_eq_getElem?_getD, hzg, hcg]
      rfl
    refine ⟨_, rfl, _, rfl, _, rfl, kA, pA, cs, x, zs, i, c, z, rfl, hC, hP, hl, h3, i0, i1, hcg, hzg, fun h => q1 (fun g => ?_) H (.refl H), fun h p s' H' sm e1 e2 => q2 (.inr ⟨i, c, z, rfl, i0, hcg, hzg, h⟩) p s' H' sm e1 (by rw [es]; exact e2)⟩
    rcases g with ⟨g, _⟩ | ⟨i', c', z', g, _, g1, g2, g3⟩
    · exact nomatch g
    · cases g
      rw [hcg] at g1
      rw [hzg] at g2
      cases g1
      cases g2
      omega
set_option maxHeartbeats 4000000 in
theorem ok_p_behind {P : Program} {w : World} {K : PySem.W.Frag} {mg : Str → Option Value} {base : Heap} {f : Addr} {fd : FuncData} (F : Fun K "behind" "behind" s_p_behind f fd) (D_p_refuse_no_cards : Def P w K mg base "refuse_no_cards" 3 ["thing"] (sp_p_refuse_no_cards K)) (D_p_refuse_no_purse : Def P w K mg base "refuse_no_purse" 4 ["cards", "thing"] (sp_p_refuse_no_purse K)) (D_p_refuse_no_row : DefX P w K mg base "refuse_no_row" 5 ["cards", "thing"] (sp_p_refuse_no_row mg K)) (D_p_after_deed : Def P w K mg base "after_deed" 2 ["cards", "purse", "deed"] (sp_p_after_deed K)) :
    FnOk P w K mg base (L2N.CX P w) 6 f fd ["cards", "purse", "row"] (sp_p_behind mg K) := by
  refine okN F sc_p_behind (fun vs H Q E h => ?_) (fun cdv A outer s H vs Q E hr h => ?_)
  · obtain ⟨cA, pA, cs, x, zs, r, d, rfl, hC, hP, hK, hS, x0, x1, hd, q1, q2⟩ := h
    rfl
  obtain ⟨cA, pA, cs, x, zs, r, d, rfl, hC, hP, hK, hS, x0, x1, hd, q1, q2⟩ := h
  refine ⟨_, (pss_cons (ps_expr (pe_def D_p_refuse_no_cards hr (pa_cons (pv 0) pa_nil)))
        (pss_cons (ps_expr (pe_def D_p_refuse_no_purse hr (pa_cons (pv 0) (pa_cons (pv 1) pa_nil))))
        (pss_cons (ps_expr (pe_defX D_p_refuse_no_row hr (L2N.takes_of rfl rfl rfl rfl) (pa_cons (pv 0) (pa_cons (pv 2) pa_nil))))
        (PSs.nox (pss_cons (ps_for PassesOwn.never rfl (pi_list (pv 2)) (pg_name (i := 3) sc_p_behind.nd rfl (Or.inl rfl)) (pss_cons (ps_set (i := 1) sc_p_behind.nd rfl (Or.inl rfl) (pe_def D_p_after_deed hr (pa_cons (pv 0) (pa_cons (pv 1) (pa_cons (pv 3) pa_nil)))))
        (pss_one (ps_if (pt_cmpR op_isN (pv 1) pe_non (nomark _)) (pss_one (ps_ret pe_non)) pss_nil))))
        (pss_one (ps_ret (pv 1)))))))), ?_⟩
  refine ⟨_, rfl, _, _, rfl, .tup hC (dp_ints cs), cardsD_ok hK, fun H1 s1 => ?_⟩
  refine ⟨_, rfl, _, rfl, cA, _, _, _, rfl, Same.seqT s1 hC, ?_, (hP.same s1).dp, ?_, fun H2 s2 => ?_⟩
  · rw [List.length_map]
    exact hK.2.1
  · rw [List.length_map]
    exact purseD_ok x0 x1 hS
  have s12 := s1.trans s2
  refine ⟨_, rfl, _, rfl, cA, _, r, d, rfl, Same.seqT s12 hC, Same.dp s12 hd, fun h H3 s3 => ?_, fun h H3 C s3 g => ?_⟩
  · rw [List.length_map] at h
    obtain ⟨a, row, rfl, sq, hdv, q1'⟩ := q1 h
    have s13 := s12.trans s3
    refine ⟨_, rfl, a, rfl, ⟨_, L2.Same.seq s13 sq⟩, ?_⟩
    refine for_list (K := K) (a := a) (xs := row) (fun i σ H' => ∃ p y3 x' zs', σ = [some (.ref cA), some (.ref p), some (.ref a), y3] ∧ Same H H' ∧ rowO cs (some (x, zs)) (row.take i) = some (x', zs') ∧ Purse K H' p x' zs' ∧ zs'.length = cs.length) ?_ ?_ ?_ ?_
    · exact ⟨pA, _, x, zs, rfl, s13, rfl, hP.same s13, hS.1⟩
    · rintro i σ H' hi ⟨p, y3, x', zs', rfl, sm, _⟩
      exact L2.Same.seq sm sq
    · rintro i v σ H' hi ⟨p, y3, x', zs', rfl, sm, er, hp, hl'⟩
      have hv := hdv v (List.mem_of_getElem? hi)
      have et : rowO cs (some (x, zs)) (row.take (i + 1)) = stepO cs (some (x', zs')) v := by
        rw [List.take_add_one, hi]
        show rowO cs (some (x, zs)) (row.take i ++ [v]) = _
        rw [rowO_snoc, er]
      refine ⟨_, rfl, _, rfl, _, rfl, cA, p, cs, x', zs', v, rfl, Same.seqT sm hC, hp, hl', hK.2.1, hv, fun hn H4 s4 => ?_, fun hc p2 s2' H4 s4 e1 e2 => ?_⟩
      · refine ⟨_, rfl, rfl, _, rfl, iteP (decide_eq_true rfl) ?_⟩
        refine q1' .non H4 (sm.trans s4) ?_
        have e0 : rowO cs (some (x, zs)) row = none := by
          have : stepO cs (some (x', zs')) v = none := by
            show (if canB cs x' zs' v = true then _ else none) = none
            rw [if_neg (fun z => hn ((can_iff hl' hv).mpr z))]
          rw [this] at et
          rw [← List.take_append_drop (i + 1) row]
          show List.foldl (stepO cs) (some (x, zs)) (row.take (i + 1) ++ row.drop (i + 1)) = none
          rw [List.foldl_append]
          have et' : List.foldl (stepO cs) (some (x, zs)) (row.take (i + 1)) = none := et
          rw [et']
          exact rowO_none cs _
        rw [e0]
        rfl
      · refine ⟨_, rfl, rfl, _, rfl, iteN (fun e => nomatch of_decide_eq_true e) ?_⟩
        refine ⟨p2, _, _, _, rfl, sm.trans s4, ?_, ⟨s2', SqT.of e1, SqT.of e2⟩, by rw [aftS_len]; exact hl'⟩
        rw [et]
        show (if canB cs x' zs' v = true then _ else none) = _
        rw [if_pos ((can_iff hl' hv).mp hc)]
    · rintro σ H' ⟨p, y3, x', zs', rfl, sm, er, hp, hl'⟩
      rw [List.take_length] at er
      refine ⟨_, rfl, q1' (.ref p) H' sm ?_⟩
      rw [er]
      exact ⟨p, rfl, hp, hl'⟩
  · rw [List.length_map] at h
    exact q2 h H3 C (s12.trans s3) g
set_option maxHeartbeats 4000000 in
theorem ok_l_refused {P : Program} {w : World} {K : PySem.W.Frag} {mg : Str → Option Value} {base : Heap} {f : Addr} {fd : FuncData} (F : Fun K "_law_refused" "_law_refused" s_l_refused f fd) (b_isinstance : mg "isinstance" = none) (b_ValueError : mg "ValueError" = none) :
    FnOk P w K mg base CX0 13 f fd ["call", "one", "two", "three"] (sp_l_refused P w K mg base) := by
  refine F.ok sc_l_refused (fun vs H Q E h => ?_) (fun cdv A outer s H vs Q E hr h => ?_)
  · obtain ⟨f', x, y, z, sp, C, tf, rd, rfl, T, hF, mono, h⟩ := h
    rfl
  obtain ⟨f', x, y, z, sp, C, tf, rd, rfl, T, hF, mono, h⟩ := h
  refine ⟨_, pss_cons (ps_set (i := 4) sc_l_refused.nd rfl (Or.inl rfl) (pe_lst pa_nil))
    (pss_cons (ps_try_as2 (i := 5) (tb := fun W => tDrop (tCallH 0 P w K mg base 12 W (tCons (tVar 1) (tCons (tVar 2) (tCons (tVar 3) tNil))))) (ts1 := fun _ _ _ => tNever) (ts2 := fun a cls d => tWords K C a cls d (tKin K a cls d)) rfl rfl sc_l_refused.nd rfl rfl ⟨rfl, by decide, .inl T.tf⟩ ⟨rfl, by decide, .inl T.rd⟩
      (fun W pn xe tk _ => pss_one (ps_expr (pe_callH (k := 12) hr rfl (.inl rfl) tk (pa_cons (pv 1) (pa_cons (pv 2) (pa_cons (pv 3) pa_nil))))))
      (fun a oe cls d pn z f => pss_never)
      (fun a oe cls d pn z f => (pss_cons (ps_set (i := 6) sc_l_refused.nd rfl (Or.inl rfl) (pe_lst (pa_cons (pe_tup (pa_cons pe_str (pa_cons (pe_callB (call_isE2 z f) (by rfl) b_isinstance PyProof.Rows.boot_isinstance (pa_cons (pv 5) (pa_cons (pe_glob (v := .ref (C 0)) rfl (T.w 0 (by decide)) rfl) pa_nil))) pa_nil))) (pa_cons (pe_tup (pa_cons pe_str (pa_cons (pe_callB (call_isE2 z f) (by rfl) b_isinstance PyProof.Rows.boot_isinstance (pa_cons (pv 5) (pa_cons (pe_glob (v := .ref (C 1)) rfl (T.w 1 (by decide)) rfl) pa_nil))) pa_nil))) pa_nil))))
        (pss_cons (ps_set (i := 6) sc_l_refused.nd rfl (Or.inl rfl) (pe_op op_cat (pv 6) (pe_lst (pa_cons (pe_tup (pa_cons pe_str (pa_cons (pe_callB (call_isE2 z f) (by rfl) b_isinstance PyProof.Rows.boot_isinstance (pa_cons (pv 5) (pa_cons (pe_glob (v := .ref (C 2)) rfl (T.w 2 (by decide)) rfl) pa_nil))) pa_nil))) pa_nil))))
        (pss_cons (ps_set (i := 6) sc_l_refused.nd rfl (Or.inl rfl) (pe_op op_cat (pv 6) (pe_lst (pa_cons (pe_tup (pa_cons pe_str (pa_cons (pe_callB (call_isE2 z f) (by rfl) b_isinstance PyProof.Rows.boot_isinstance (pa_cons (pv 5) (pa_cons (pe_glob (v := .ref (C 3)) rfl (T.w 3 (by decide)) rfl) pa_nil))) pa_nil))) (pa_cons (pe_tup (pa_cons pe_str (pa_cons (pe_callB (call_isE2 z f) (by rfl) b_isinstance PyProof.Rows.boot_isinstance (pa_cons (pv 5) (pa_cons (pe_glob (v := .ref (C 4)) rfl (T.w 4 (by decide)) rfl) pa_nil))) pa_nil))) pa_nil)))))
        (pss_cons (ps_set (i := 6) sc_l_refused.nd rfl (Or.inl rfl) (pe_op op_cat (pv 6) (pe_lst (pa_cons (pe_tup (pa_cons pe_str (pa_cons (pe_callB (call_isE2 z f) (by rfl) b_isinstance PyProof.Rows.boot_isinstance (pa_cons (pv 5) (pa_cons (pe_glob (v := .ref (C 5)) rfl (T.w 5 (by decide)) rfl) pa_nil))) pa_nil))) (pa_cons (pe_tup (pa_cons pe_str (pa_cons (pe_callB (call_isE2 z f) (by rfl) b_isinstance PyProof.Rows.boot_isinstance (pa_cons (pv 5) (pa_cons (pe_glob (v := .ref (C 6)) rfl (T.w 6 (by decide)) rfl) pa_nil))) pa_nil))) pa_nil)))))
        (pss_cons (ps_set (i := 6) sc_l_refused.nd rfl (Or.inl rfl) (pe_op op_cat (pv 6) (pe_lst (pa_cons (pe_tup (pa_cons pe_str (pa_cons (pe_callB (call_isE2 z f) (by rfl) b_isinstance PyProof.Rows.boot_isinstance (pa_cons (pv 5) (pa_cons (pe_glob (v := .ref (C 7)) rfl (T.w 7 (by decide)) rfl) pa_nil))) pa_nil))) (pa_cons (pe_tup (pa_cons pe_str (pa_cons (pe_callB (call_isE2 z f) (by rfl) b_isinstance PyProof.Rows.boot_isinstance (pa_cons (pv 5) (pa_cons (pe_glob (v := .ref (C 8)) rfl (T.w 8 (by decide)) rfl) pa_nil))) pa_nil))) pa_nil)))))
        (pss_cons (ps_set (i := 6) sc_l_refused.nd rfl (Or.inl rfl) (pe_op op_cat (pv 6) (pe_lst (pa_cons (pe_tup (pa_cons pe_str (pa_cons (pe_callB (call_isE2 z f) (by rfl) b_isinstance PyProof.Rows.boot_isinstance (pa_cons (pv 5) (pa_cons (pe_glob (v := .ref (C 9)) rfl (T.w 9 (by decide)) rfl) pa_nil))) pa_nil))) pa_nil))))
        (pss_cons (ps_expr (pe_bm PySem.F.plainAttrs_list PySem.F.slot_list_append PySem.F.type_list_append mt_append (pv 6) (pa_cons (pe_tup (pa_cons pe_str (pa_cons (pe_callB (call_isE2 z f) (by rfl) b_isinstance PyProof.Rows.boot_isinstance (pa_cons (pv 5) (pa_cons (pe_glob (v := .ref (C 10)) rfl (T.w 10 (by decide)) rfl) pa_nil))) pa_nil))) pa_nil)))
        (pss_one (ps_set (i := 4) sc_l_refused.nd rfl (Or.inl rfl) (pe_op op_cat (pe_lcH2 (own := [("word", 7), ("there", 8)]) (g := gTup K 2 (gCons (gName 7) (gCons (gName 8) gNil))) z f rfl rfl sc_l_refused.nd (pv 6) (blkOk_by (own := [("word", 7), ("there", 8)]) (N := ["call", "one", "two", "three", "kin", "e", "words", "word", "there"]) (sc := defScope s_l_refused) (by decide +kernel)) (fun _ _ _ _ _ wm => pg_tupH wm (pgs_cons (pg_name (i := 7) sc_l_refused.nd rfl (Or.inl rfl)) (pgs_cons (pg_name (i := 8) sc_l_refused.nd rfl (Or.inl rfl)) pgs_nil))) (fun _ _ _ _ _ => pts_one (pt_val (pv 8))) (fun _ _ _ _ _ => pv 7)) (pe_lst (pa_cons (pe_callB (call_isE2 z f) (by rfl) b_isinstance PyProof.Rows.boot_isinstance (pa_cons (pv 5) (pa_cons (pe_bltn (v := .ty "ValueError") rfl b_ValueError (by decide +kernel) rfl) pa_nil))) pa_nil))))))))))))))
    (pss_one (ps_ret (pv 4)))), ?_⟩
  refine ⟨Nat.zero_le _, fun l nl => ?_⟩
  have s0 := same_upd (o := .lst []) nl
  refine ⟨f', sp, rfl, held3 (hF.same s0) rfl rfl rfl ?_⟩
  have h1 := h _ s0
  refine mono _ _ _ _ _ _ h1 (fun v H2 g => ?_) (fun cls d H2 g => ?_)
  · obtain ⟨s2, q⟩ := g
    exact ⟨_, rfl, q l H2 (.refl H2) (s2 _ _ upd_same)⟩
  · obtain ⟨s2, i, rfl, rfl, KO, q⟩ := g
    refine ⟨false, KO.n, fun z => (nomatch z), fun _ => ⟨true, KO.y, fun _ a na => ?_, fun z => nomatch z⟩⟩
    refine ⟨_, rfl, C i, .ref (C 0), .ref (C 0), _, rfl, rfl, KO.ex, rfl, fun _ r => r, KO.k 0 (by decide), (by show 2 ≤ sizeLine; decide), fun t0 n0 => ?_⟩
    refine ⟨_, rfl, C i, .ref (C 1), .ref (C 1), _, rfl, rfl, KO.ex, rfl, fun _ r => r, KO.k 1 (by decide), (by show 2 ≤ sizeLine; decide), fun t1 n1 => ?_⟩
    refine ⟨(by show 2 ≤ sizeLine; decide), fun w0 m0 => ?_⟩
    refine ⟨_, rfl, ?_⟩
    refine ⟨_, rfl, C i, .ref (C 2), .ref (C 2), _, rfl, rfl, KO.ex, rfl, fun _ r => r, KO.k 2 (by decide), (by show 2 ≤ sizeLine; decide), fun t2 n2 => ?_⟩
    refine ⟨(by show 1 ≤ sizeLine; decide), fun w1 m1 => ?_⟩
    refine ⟨w0, w1, _, _, rfl, rfl, ((same_upd n2).trans (same_upd m1)) _ _ upd_same, upd_same, (by show 3 ≤ sizeLine; decide), fun w2 m2 => ?_⟩
    refine ⟨_, rfl, ?_⟩
    refine ⟨_, rfl, C i, .ref (C 3), .ref (C 3), _, rfl, rfl, KO.ex, rfl, fun _ r => r, KO.k 3 (by decide), (by show 2 ≤ sizeLine; decide), fun t3 n3 => ?_⟩
    refine ⟨_, rfl, C i, .ref (C 4), .ref (C 4), _, rfl, rfl, KO.ex, rfl, fun _ r => r, KO.k 4 (by decide), (by show 2 ≤ sizeLine; decide), fun t4 n4 => ?_⟩
    refine ⟨(by show 2 ≤ sizeLine; decide), fun w3 m3 => ?_⟩
    refine ⟨w2, w3, _, _, rfl, rfl, (((same_upd n3).trans (same_upd n4)).trans (same_upd m3)) _ _ upd_same, upd_same, (by show 5 ≤ sizeLine; decide), fun w4 m4 => ?_⟩
    refine ⟨_, rfl, ?_⟩
    refine ⟨_, rfl, C i, .ref (C 5), .ref (C 5), _, rfl, rfl, KO.ex, rfl, fun _ r => r, KO.k 5 (by decide), (by show 2 ≤ sizeLine; decide), fun t5 n5 => ?_⟩
    refine ⟨_, rfl, C i, .ref (C 6), .ref (C 6), _, rfl, rfl, KO.ex, rfl, fun _ r => r, KO.k 6 (by decide), (by show 2 ≤ sizeLine; decide), fun t6 n6 => ?_⟩
    refine ⟨(by show 2 ≤ sizeLine; decide), fun w5 m5 => ?_⟩
    refine ⟨w4, w5, _, _, rfl, rfl, (((same_upd n5).trans (same_upd n6)).trans (same_upd m5)) _ _ upd_same, upd_same, (by show 7 ≤ sizeLine; decide), fun w6 m6 => ?_⟩
    refine ⟨_, rfl, ?_⟩
    refine ⟨_, rfl, C i, .ref (C 7), .ref (C 7), _, rfl, rfl, KO.ex, rfl, fun _ r => r, KO.k 7 (by decide), (by show 2 ≤ sizeLine; decide), fun t7 n7 => ?_⟩
    refine ⟨_, rfl, C i, .ref (C 8), .ref (C 8), _, rfl, rfl, KO.ex, rfl, fun _ r => r, KO.k 8 (by decide), (by show 2 ≤ sizeLine; decide), fun t8 n8 => ?_⟩
    refine ⟨(by show 2 ≤ sizeLine; decide), fun w7 m7 => ?_⟩
    refine ⟨w6, w7, _, _, rfl, rfl, (((same_upd n7).trans (same_upd n8)).trans (same_upd m7)) _ _ upd_same, upd_same, (by show 9 ≤ sizeLine; decide), fun w8 m8 => ?_⟩
    refine ⟨_, rfl, ?_⟩
    refine ⟨_, rfl, C i, .ref (C 9), .ref (C 9), _, rfl, rfl, KO.ex, rfl, fun _ r => r, KO.k 9 (by decide), (by show 2 ≤ sizeLine; decide), fun t9 n9 => ?_⟩
    refine ⟨(by show 1 ≤ sizeLine; decide), fun w9 m9 => ?_⟩
    refine ⟨w8, w9, _, _, rfl, rfl, ((same_upd n9).trans (same_upd m9)) _ _ upd_same, upd_same, (by show 10 ≤ sizeLine; decide), fun w10 m10 => ?_⟩
    refine ⟨_, rfl, .inl ⟨rfl, _, SqL.of upd_same⟩, ?_⟩
    refine ⟨_, rfl, C i, .ref (C 10), .ref (C 10), _, rfl, rfl, KO.ex, rfl, fun _ r => r, KO.k 10 (by decide), (by show 2 ≤ sizeLine; decide), fun t10 n10 => ?_⟩
    refine ⟨w10, _, _, rfl, rfl, same_upd n10 _ _ upd_same, (by show 10 < sizeLine; decide), ?_⟩
    have e0 := (((((((((((((((((((((same_upd n1).trans (same_upd m0)).trans (same_upd n2)).trans (same_upd m1)).trans (same_upd m2)).trans (same_upd n3)).trans (same_upd n4)).trans (same_upd m3)).trans (same_upd m4)).trans (same_upd n5)).trans (same_upd n6)).trans (same_upd m5)).trans (same_upd m6)).trans (same_upd n7)).trans (same_upd n8)).trans (same_upd m7)).trans (same_upd m8)).trans (same_upd n9)).trans (same_upd m9)).trans (same_upd m10)).trans (same_upd (o := .tup [.str "NothingLeft", .bl (decide (i = 10))]) n10)) _ _ (upd_same (a := t0))
    have e1 := ((((((((((((((((((((same_upd m0).trans (same_upd n2)).trans (same_upd m1)).trans (same_upd m2)).trans (same_upd n3)).trans (same_upd n4)).trans (same_upd m3)).trans (same_upd m4)).trans (same_upd n5)).trans (same_upd n6)).trans (same_upd m5)).trans (same_upd m6)).trans (same_upd n7)).trans (same_upd n8)).trans (same_upd m7)).trans (same_upd m8)).trans (same_upd n9)).trans (same_upd m9)).trans (same_upd m10)).trans (same_upd (o := .tup [.str "NothingLeft", .bl (decide (i = 10))]) n10)) _ _ (upd_same (a := t1))
    have e2 := ((((((((((((((((((same_upd m1).trans (same_upd m2)).trans (same_upd n3)).trans (same_upd n4)).trans (same_upd m3)).trans (same_upd m4)).trans (same_upd n5)).trans (same_upd n6)).trans (same_upd m5)).trans (same_upd m6)).trans (same_upd n7)).trans (same_upd n8)).trans (same_upd m7)).trans (same_upd m8)).trans (same_upd n9)).trans (same_upd m9)).trans (same_upd m10)).trans (same_upd (o := .tup [.str "NothingLeft", .bl (decide (i = 10))]) n10)) _ _ (upd_same (a := t2))
    have e3 := (((((((((((((((same_upd n4).trans (same_upd m3)).trans (same_upd m4)).trans (same_upd n5)).trans (same_upd n6)).trans (same_upd m5)).trans (same_upd m6)).trans (same_upd n7)).trans (same_upd n8)).trans (same_upd m7)).trans (same_upd m8)).trans (same_upd n9)).trans (same_upd m9)).trans (same_upd m10)).trans (same_upd (o := .tup [.str "NothingLeft", .bl (decide (i = 10))]) n10)) _ _ (upd_same (a := t3))
    have e4 := ((((((((((((((same_upd m3).trans (same_upd m4)).trans (same_upd n5)).trans (same_upd n6)).trans (same_upd m5)).trans (same_upd m6)).trans (same_upd n7)).trans (same_upd n8)).trans (same_upd m7)).trans (same_upd m8)).trans (same_upd n9)).trans (same_upd m9)).trans (same_upd m10)).trans (same_upd (o := .tup [.str "NothingLeft", .bl (decide (i = 10))]) n10)) _ _ (upd_same (a := t4))
    have e5 := (((((((((((same_upd n6).trans (same_upd m5)).trans (same_upd m6)).trans (same_upd n7)).trans (same_upd n8)).trans (same_upd m7)).trans (same_upd m8)).trans (same_upd n9)).trans (same_upd m9)).trans (same_upd m10)).trans (same_upd (o := .tup [.str "NothingLeft", .bl (decide (i = 10))]) n10)) _ _ (upd_same (a := t5))
    have e6 := ((((((((((same_upd m5).trans (same_upd m6)).trans (same_upd n7)).trans (same_upd n8)).trans (same_upd m7)).trans (same_upd m8)).trans (same_upd n9)).trans (same_upd m9)).trans (same_upd m10)).trans (same_upd (o := .tup [.str "NothingLeft", .bl (decide (i = 10))]) n10)) _ _ (upd_same (a := t6))
    have e7 := (((((((same_upd n8).trans (same_upd m7)).trans (same_upd m8)).trans (same_upd n9)).trans (same_upd m9)).trans (same_upd m10)).trans (same_upd (o := .tup [.str "NothingLeft", .bl (decide (i = 10))]) n10)) _ _ (upd_same (a := t7))
    have e8 := ((((((same_upd m7).trans (same_upd m8)).trans (same_upd n9)).trans (same_upd m9)).trans (same_upd m10)).trans (same_upd (o := .tup [.str "NothingLeft", .bl (decide (i = 10))]) n10)) _ _ (upd_same (a := t8))
    have e9 := (((same_upd m9).trans (same_upd m10)).trans (same_upd (o := .tup [.str "NothingLeft", .bl (decide (i = 10))]) n10)) _ _ (upd_same (a := t9))
    have ew := (same_upd (o := .tup [.str "NothingLeft", .bl (decide (i = 10))]) n10) _ _ (upd_same (a := w10))
    have sx := ((((((((((((((((((((((same_upd n0).trans (same_upd n1)).trans (same_upd m0)).trans (same_upd n2)).trans (same_upd m1)).trans (same_upd m2)).trans (same_upd n3)).trans (same_upd n4)).trans (same_upd m3)).trans (same_upd m4)).trans (same_upd n5)).trans (same_upd n6)).trans (same_upd m5)).trans (same_upd m6)).trans (same_upd n7)).trans (same_upd n8)).trans (same_upd m7)).trans (same_upd m8)).trans (same_upd n9)).trans (same_upd m9)).trans (same_upd m10)).trans (same_upd (o := .tup [.str "NothingLeft", .bl (decide (i = 10))]) n10))
    have nw := ((((((((((((((((((((same_upd n0).trans (same_upd n1)).trans (same_upd m0)).trans (same_upd n2)).trans (same_upd m1)).trans (same_upd m2)).trans (same_upd n3)).trans (same_upd n4)).trans (same_upd m3)).trans (same_upd m4)).trans (same_upd n5)).trans (same_upd n6)).trans (same_upd m5)).trans (same_upd m6)).trans (same_upd n7)).trans (same_upd n8)).trans (same_upd m7)).trans (same_upd m8)).trans (same_upd n9)).trans (same_upd m9)).free m10
    have sf := same_fresh (o := .lst (([.ref t0, .ref t1, .ref t2, .ref t3, .ref t4, .ref t5, .ref t6, .ref t7, .ref t8, .ref t9] : List V) ++ [.ref t10])) sx nw
    refine kin_rd KO upd_same rfl ?_ fun p H3 s3 e => ?_
    · intro k x hk
      have no : ∀ {t : Addr} {xs ys : List V} {Hx : Hp}, Hx t = some (.tup xs) → Hx w10 = some (.lst ys) → t ≠ w10 := fun h1 h2 => ne_of h1 h2 (fun z => nomatch z)
      match k, hk with
      | 0, hk => exact ⟨t0, (Option.some.inj hk).symm, by rw [upd_ne (no e0 ew)]; exact e0⟩
      | 1, hk => exact ⟨t1, (Option.some.inj hk).symm, by rw [upd_ne (no e1 ew)]; exact e1⟩
      | 2, hk => exact ⟨t2, (Option.some.inj hk).symm, by rw [upd_ne (no e2 ew)]; exact e2⟩
      | 3, hk => exact ⟨t3, (Option.some.inj hk).symm, by rw [upd_ne (no e3 ew)]; exact e3⟩
      | 4, hk => exact ⟨t4, (Option.some.inj hk).symm, by rw [upd_ne (no e4 ew)]; exact e4⟩
      | 5, hk => exact ⟨t5, (Option.some.inj hk).symm, by rw [upd_ne (no e5 ew)]; exact e5⟩
      | 6, hk => exact ⟨t6, (Option.some.inj hk).symm, by rw [upd_ne (no e6 ew)]; exact e6⟩
      | 7, hk => exact ⟨t7, (Option.some.inj hk).symm, by rw [upd_ne (no e7 ew)]; exact e7⟩
      | 8, hk => exact ⟨t8, (Option.some.inj hk).symm, by rw [upd_ne (no e8 ew)]; exact e8⟩
      | 9, hk => exact ⟨t9, (Option.some.inj hk).symm, by rw [upd_ne (no e9 ew)]; exact e9⟩
      | 10, hk => exact ⟨t10, (Option.some.inj hk).symm, by rw [upd_ne (no (upd_same (a := t10)) ew)]; exact upd_same⟩
      | k + 11, hk => exact nomatch hk
    · exact ⟨_, rfl, q p H3 (sf.trans s3) e⟩
set_option maxHeartbeats 4000000 in
theorem ok_l_law {P : Program} {w : World} {K : PySem.W.Frag} {mg : Str → Option Value} {base : Heap} {f : Addr} {fd : FuncData} (F : Fun K "law" "law" s_l_law f fd) (D_l_bags : Def P w K mg base "_law_bags" 3 ["script", "limit"] (sp_l_bags K)) (D_l_kinds : Def P w K mg base "_law_kinds" 2 ["bag", "far"] (sp_l_kinds K)) (D_l_take : Def P w K mg base "_law_take" 1 ["bag", "many"] (sp_l_take K)) (D_l_had : Def P w K mg base "_law_had" 4 ["bag", "kinds", "far"] (sp_l_had K)) (D_l_step : Def P w K mg base "_law_step" 1 ["kinds", "had", "deed"] (sp_l_step K)) (D_p_behind : DefX P w K mg base "behind" 6 ["cards", "purse", "row"] (sp_p_behind mg K)) (D_l_refused : Def P w K mg base "_law_refused" 13 ["call", "one", "two", "three"] (sp_l_refused P w K mg base)) (b_range : mg "range" = none) (b_list : mg "list" = none) (b_len : mg "len" = none) {f_p_behind : Addr} (v_p_behind : mg "behind" = some (.ref f_p_behind)) (h_p_behind : HeldX P w K mg base 12 f_p_behind (sp_p_behind mg K)) {C : Nat → Addr} {tf rd : Addr} (KT : Kin K mg C tf rd) (KO : KinOf K C tf rd 3) :
    FnOk P w K mg base CX0 14 f fd ["script"] (sp_l_law K) := by
  refine F.ok sc_l_law (fun vs H Q E h => ?_) (fun cdv A outer s H vs Q E hr h => ?_)
  · obtain ⟨a, ns, rfl, hS, h63, q⟩ := h
    rfl
  obtain ⟨a, ns, rfl, hS, h63, q⟩ := h
  refine ⟨_, (pss_cons (ps_for PassesOwn.never rfl (pi_list (pe_def D_l_bags hr (pa_cons (pv 0) (pa_cons pe_int pa_nil)))) (pg_name (i := 1) sc_l_law.nd rfl (Or.inl rfl)) (pss_cons (ps_set (i := 2) sc_l_law.nd rfl (Or.inr rfl) (pe_def D_l_kinds hr (pa_cons (pv 1) (pa_cons (pe_ix ix_list (pe_lst (pa_cons pe_int (pa_cons pe_int pa_nil))) (pe_def D_l_take hr (pa_cons (pv 1) (pa_cons pe_int pa_nil))) (fun _ _ => rfl)) pa_nil))))
        (pss_cons (ps_set (i := 3) sc_l_law.nd rfl (Or.inl rfl) (pe_def D_l_had hr (pa_cons (pv 1) (pa_cons (pv 2) (pa_cons (pe_ix ix_list (pe_lst (pa_cons pe_int (pa_cons pe_int (pa_cons (pe_op op_sub (pe_op op_pow pe_int pe_int) pe_int) pa_nil)))) (pe_def D_l_take hr (pa_cons (pv 1) (pa_cons pe_int pa_nil))) (fun _ _ => rfl)) pa_nil)))))
        (pss_cons (ps_asg (pe_tup (pa_cons (pe_lst pa_nil) (pa_cons (pv 3) pa_nil))) (pg_tup rfl (pgs_cons (pg_name (i := 4) sc_l_law.nd rfl (Or.inl rfl)) (pgs_cons (pg_name (i := 5) sc_l_law.nd rfl (Or.inr rfl)) pgs_nil))))
        (pss_cons (ps_for PassesOwn.never rfl (pi_range1 rfl b_range (pa_cons (pe_def D_l_take hr (pa_cons (pv 1) (pa_cons pe_int pa_nil))) pa_nil)) (pg_name (i := 6) sc_l_law.nd rfl (Or.inl rfl)) (pss_cons (ps_set (i := 7) sc_l_law.nd rfl (Or.inl rfl) (pe_op op_cat (pe_lst (pa_cons pe_str pa_nil)) (pe_listRg rfl rfl b_list (prg_1 rfl b_range (pe_callB call_len_seq (by rfl) b_len PySem.boot_len (pa_cons (pv 2) pa_nil))))))
        (pss_cons (ps_setLc (i := 8) (own := [("deed", 12)]) (g := gName 12) rfl sc_l_law.nd rfl rfl (sw_true rfl rfl rfl (by decide +kernel)) (pi_list (pv 7)) (blkOk_by (own := [("deed", 12)]) (N := ["script", "bag", "kinds", "had", "row", "here", "turn", "deeds", "some", "handed", "bads", "bad", "deed"]) (sc := defScope s_l_law) (by decide +kernel)) (fun _ _ _ _ _ => (pg_name (i := 12) sc_l_law.nd rfl (Or.inl rfl))) (fun _ _ _ _ _ => (pts_one (PW.pt (pw_and (pt_cmpR op_notN (pv 5) pe_non (nomark _)) (pw_and1 (pt_cmpR op_notN (pe_def D_l_step hr (pa_cons (pv 2) (pa_cons (pv 5) (pa_cons (pv 12) pa_nil)))) pe_non (nomark _))))))) (fun _ _ _ _ _ => (pv 12)))
        (pss_cons (ps_if (PW.pt (pw_or (pt_cmpR (op_eqD hr.units) (pv 8) (pe_lst pa_nil) (nomark _)) (pw_or1 (pt_cmpR op_eq (pe_def D_l_take hr (pa_cons (pv 1) (pa_cons pe_int pa_nil))) pe_int (nomark _))))) (pss_one (ps_set (i := 8) sc_l_law.nd rfl (Or.inl rfl) (pv 7))) pss_nil)
        (pss_cons (ps_expr (pe_bm PySem.F.plainAttrs_list PySem.F.slot_list_append PySem.F.type_list_append mt_append (pv 4) (pa_cons (pe_ix ix_list (pv 8) (pe_def D_l_take hr (pa_cons (pv 1) (pa_cons (pe_callB call_len_seq (by rfl) b_len PySem.boot_len (pa_cons (pv 8) pa_nil)) pa_nil))) (fun _ _ => rfl)) pa_nil)))
        (pss_one (ps_set (i := 5) sc_l_law.nd rfl (Or.inr rfl) (pe_ifExp (pt_cmpR op_notN (pv 5) pe_non (nomark _)) (pe_def D_l_step hr (pa_cons (pv 2) (pa_cons (pv 5) (pa_cons (pe_ix ix_list (pv 4) (pe_un un_neg pe_int) (fun _ _ => rfl)) pa_nil)))) pe_non))))))))
        (pss_cons (ps_set (i := 9) sc_l_law.nd rfl (Or.inl rfl) (pe_callTy call_list_of (by rfl) b_list PyProof.Rows.boot_list (pa_cons (pv 4) pa_nil)))
        (pss_cons (ps_if (PW.pt (pw_or (pt_cmpR (op_neD hr.units) (pe_defX0 D_p_behind hr (pa_cons (pv 2) (pa_cons (pv 3) (pa_cons (pv 4) pa_nil)))) (pv 5) (nomark _)) (pw_or (pt_cmpR (op_neD hr.units) (pv 4) (pv 9) (nomark _)) (pw_or1 (pt_cmpR (op_neD hr.units) (pe_defX0 D_p_behind hr (pa_cons (pv 2) (pa_cons (pv 3) (pa_cons (pe_lst pa_nil) pa_nil)))) (pv 3) (nomark _)))))) (pss_one (ps_ret pe_bl)) pss_nil)
        (pss_cons (ps_set (i := 10) sc_l_law.nd rfl (Or.inl rfl) (pe_lst (pa_cons pe_non (pa_cons (pe_tup (pa_cons pe_str pa_nil)) (pa_cons (pe_lst (pa_cons pe_str pa_nil)) (pa_cons (pe_lst (pa_cons (pe_callB call_len_seq (by rfl) b_len PySem.boot_len (pa_cons (pv 2) pa_nil)) pa_nil)) (pa_cons (pe_lst (pa_cons (pe_un un_neg pe_int) pa_nil)) (pa_cons (pe_lst (pa_cons pe_non pa_nil)) (pa_cons (pe_lst (pa_cons pe_bl pa_nil)) (pa_cons (pe_op op_rep (pe_lst (pa_cons pe_str pa_nil)) pe_int) (pa_cons pe_str pa_nil)))))))))))
        (pss_one (ps_for PassesOwn.never rfl (pi_list (pe_op op_cat (pv 10) (pe_lst (pa_cons (pe_lst (pa_cons (pe_tup (pa_cons pe_str pa_nil)) pa_nil)) pa_nil)))) (pg_name (i := 11) sc_l_law.nd rfl (Or.inl rfl)) (pss_one (ps_if (pt_cmpR (op_neD hr.units) (pe_def D_l_refused hr (pa_cons (pe_glob (v := .ref f_p_behind) rfl v_p_behind rfl) (pa_cons (pv 2) (pa_cons (pv 3) (pa_cons (pv 11) pa_nil))))) (pe_lst (pa_cons pe_str (pa_cons pe_bl pa_nil))) (nomark _)) (pss_one (ps_ret pe_bl)) pss_nil))))))))))))
        (pss_one (ps_ret (pe_cmpR (op_eqD hr.units) (pe_defX0 D_p_behind hr (pa_cons (pe_tup (pa_cons pe_int (pa_cons pe_int pa_nil))) (pa_cons (pe_tup (pa_cons pe_int (pa_cons (pe_tup (pa_cons pe_int (pa_cons pe_int pa_nil))) pa_nil))) (pa_cons (pe_lst (pa_cons pe_str (pa_cons pe_int (pa_cons pe_int (pa_cons pe_str pa_nil))))) pa_nil)))) (pe_tup (pa_cons pe_int (pa_cons (pe_tup (pa_cons pe_int (pa_cons pe_int pa_nil))) pa_nil))) (nomark _))))), ?_⟩
  refine ⟨_, rfl, a, ns, 10, rfl, hS, h63, by omega, by omega, fun p bs H1 k1 np ep hl hb => ?_⟩
  refine ⟨p, rfl, ⟨_, SqL.of ep⟩, ?_⟩
  refine for_list (K := K) (a := p) (xs := bs.map V.ref) (fun i σ H' => ∃ y1 y2 y3 y4 y5 y6 y7 y8 y9 y10 y11 y12, σ = [some (.ref a), y1, y2, y3, y4, y5, y6, y7, y8, y9, y10, y11, y12] ∧ Kp H1 H') ?_ ?_ ?_ ?_
  · exact ⟨_, _, _, _, _, _, _, _, _, _, _, _, rfl, .refl H1⟩
  · rintro i σ H' hi ⟨y1, y2, y3, y4, y5, y6, y7, y8, y9, y10, y11, y12, rfl, kk⟩
    exact SqL.of (kk.keep _ _ ep nrefs)
  · rintro i x σ Hb hx ⟨y1, y2, y3, y4, y5, y6, y7, y8, y9, y10, y11, y12, rfl, kk⟩
    obtain ⟨b, hbm, rfl⟩ := get_ref hx
    have hB1 : Bag H1 b := hb b hbm
    -- kinds
    refine ⟨_, rfl, (by show 2 ≤ sizeLine; decide), fun l nl => ?_⟩
    have kl := kk.new (o := .lst (([4, 20] : List Int).map V.int)) nl
    refine ⟨_, rfl, b, _, rfl, kl.bags hB1, p0, fun r0 H2 r00 r01 k2 => ?_⟩
    obtain ⟨v, hv, _, ha⟩ := at_int (ns := [4, 20]) (k := r0) r00 r01
    have hv2 : 2 ≤ v ∧ v ≤ 20 := by
      simp only [List.mem_cons, List.not_mem_nil, or_false] at hv
      omega
    refine ⟨l, _, _, _, rfl, rfl, SqL.of (k2.keep _ _ upd_same (nint (ns := [4, 20]))), ha, b, v, rfl, (kl.trans k2).bags hB1, hv2.1, fun kA cs H3 k3 e3 c1 c3 hc => ?_⟩
    have hK : Cards cs := ⟨c1, c3, fun c h => ⟨(hc c h).1, by have := (hc c h).2; omega⟩⟩
    have kt3 := (kl.trans k2).trans k3
    -- had
    refine ⟨_, rfl, _, rfl, ?_⟩
    refine ⟨10, 18, rfl, rfl, ⟨by decide, by decide, by decide⟩, _, _, rfl, rfl, (by show 3 ≤ sizeLine; decide), fun l2 nl2 => ?_⟩
    have kl2 := kt3.new (o := .lst (([5, 60, 999999999999999900] : List Int).map V.int)) nl2
    have kA4 : SqT K (upd H3 l2 (.lst (([5, 60, 999999999999999900] : List Int).map V.int))) kA (cs.map V.int) := Same.seqT (same_upd nl2) (SqT.of e3)
    refine ⟨_, rfl, b, _, rfl, kl2.bags hB1, p0, fun r1 H4 r10 r11 k4 => ?_⟩
    obtain ⟨v2, hv2', _, ha2⟩ := at_int (ns := [5, 60, 999999999999999900]) (k := r1) r10 r11
    have hv3 : 0 ≤ v2 ∧ v2 ≤ 999999999999999900 := by
      simp only [List.mem_cons, List.not_mem_nil, or_false] at hv2'
      omega
    refine ⟨l2, _, _, _, rfl, rfl, SqL.of (k4.keep _ _ upd_same (nint (ns := [5, 60, 999999999999999900]))), ha2, b, kA, cs, v2, rfl, (kl2.trans k4).bags hB1, k4.tup kA4, c3, hv3.1, fun pA sA r ss H5 k5 e5 e5' r0 rv hsl hss => ?_⟩
    have kt5 := (kl2.trans k4).trans k5
    have hC5 : SqT K H5 kA (cs.map V.int) := k5.tup (k4.tup kA4)
    have hP5 : Purse K H5 pA r ss := ⟨sA, SqT.of e5, SqT.of e5'⟩
    have hSt : Stamps cs.length ss := ⟨hsl, fun x hx => ⟨(hss x hx).1, by have := (hss x hx).2; omega⟩⟩
    have r18 : r ≤ 1000000000000000000 := by omega
    clear ha2 hv2' nl2 k4 k5 kA4 kl2 ha hv nl kl k2 k3 e3 kt3
    -- row, here
    refine ⟨Nat.zero_le _, fun rA nr => ?_⟩
    have s5r := same_upd (o := .lst []) nr
    refine ⟨_, rfl, (by show 2 ≤ sizeLine; decide), fun tA nt => ?_⟩
    have s5t := same_upd (o := .tup [.ref rA, .ref pA]) nt
    refine ⟨tA, _, rfl, SqT.of upd_same, rfl, _, _, rfl, _, _, rfl, rfl, ?_⟩
    have kr := kt5.trans (.of (s5r.trans s5t))
    refine ⟨_, rfl, b, _, rfl, kr.bags hB1, p0, fun n H6 n0 n1 k6 => ?_⟩
    have kx := (Kp.of (s5r.trans s5t)).trans k6
    refine ⟨_, rfl, by omega, by omega, ?_⟩
    refine for_range (lo := 0) (n := n.toNat) (fun i σ H' => ∃ (row : List V) (hv : V) (z6 z7 z8 z12 : Option V), σ = [some (.ref a), some (.ref b), some (.ref kA), some (.ref pA), some (.ref rA), some hv, z6, z7, z8, y9, y10, y11, z12] ∧ Kp H5 H' ∧ H' rA = some (.lst row) ∧ row.length = i ∧ (∀ v ∈ row, DeedV cs.length v) ∧ PurseO K cs H' hv (rowO cs (some (r, ss)) row)) ?_ ?_ ?_
    · exact ⟨[], .ref pA, _, _, _, _, rfl, kx, k6.keep _ _ (s5t _ _ upd_same) (ndeeds (n := 0) (fun v hv => (nomatch hv))), rfl, fun v hv => (nomatch hv), ⟨pA, rfl, hP5.kp kx, hsl⟩⟩
    · rintro i σ H' hi ⟨row, hv, z6, z7, z8, z12, rfl, k7, er, hrl, hrow, hO⟩
      have hC7 := k7.tup hC5
      -- deeds
      refine ⟨(by show 1 ≤ sizeLine; decide), fun a1 na1 => ?_⟩
      have t1 := same_upd (o := .lst [.str "ride"]) na1
      refine ⟨_, rfl, kA, _, rfl, .inr (Same.seqT t1 hC7), _, rfl, RgOk.of_le (by omega) (by rw [List.length_map]; omega) (by omega) (by omega), fun a2 na2 => ?_⟩
      have t2 := same_upd (o := .lst (rgV 0 (((cs.map V.int).length : Nat) : Int))) na2
      refine ⟨a1, a2, _, _, rfl, rfl, t2 _ _ upd_same, upd_same, ?_, fun a3 na3 => ?_⟩
      · rw [rgV_length, List.length_map]
        show 1 + _ ≤ sizeLine
        exact Nat.le_of_lt (small1000 (by omega))
      have t3 := same_upd (o := .lst (deedsL (((cs.map V.int).length : Nat) : Int))) na3
      have t13 := (t1.trans t2).trans t3
      have e3 : (upd (upd (upd H' a1 (.lst [.str "ride"])) a2 (.lst (rgV 0 (((cs.map V.int).length : Nat) : Int)))) a3 (.lst (deedsL (((cs.map V.int).length : Nat) : Int)))) a3 = some (.lst (deedsL (((cs.map V.int).length : Nat) : Int))) := upd_same
      refine ⟨_, rfl, a3, rfl, ⟨_, SqL.of upd_same⟩, fun D nD => ?_⟩
      have eLn : (((cs.map V.int).length : Nat) : Int) = (cs.length : Int) := by rw [List.length_map]
      have k8 := k7.trans (.of t13)
      have er8 := t13 _ _ er
      have hO8 := hO.same t13
      refine lc_list (K := K) (a := a3) (xs := deedsL (((cs.map V.int).length : Nat) : Int)) (fun j H2 => ∃ acc : List V, H2 D = some (.lst acc) ∧ Same (upd (upd (upd H' a1 (.lst [.str "ride"])) a2 (.lst (rgV 0 (((cs.map V.int).length : Nat) : Int)))) a3 (.lst (deedsL (((cs.map V.int).length : Nat) : Int)))) H2 ∧ acc.length ≤ j ∧ (∀ v ∈ acc, DeedV cs.length v)) ?_ ?_ ?_ ?_
      · exact ⟨[], upd_same, same_new (.refl _) nD, Nat.le_refl _, fun v hv => (nomatch hv)⟩
      · rintro j H2 hj ⟨acc2, e, sm, _⟩
        exact SqL.of (sm _ _ upd_same)
      · rintro j v H2 hj ⟨acc2, e, sm, hlen, hin⟩
        rw [eLn] at hj
        have hv : DeedV cs.length v := deedsL_mem.mp (List.mem_of_getElem? hj)
        have hj' : j < (deedsL (cs.length : Int)).length := (List.getElem?_eq_some_iff.mp hj).1
        rw [deedsL_len] at hj'
        have hO2 := hO8.same sm
        rcases ho : rowO cs (some (r, ss)) row with _ | ⟨x, zs⟩
        · rw [ho] at hO2
          cases hO2
          refine ⟨rfl, _, rfl, rfl, _, rfl, iteNS rfl ?_⟩
          exact ⟨acc2, e, sm, by omega, hin⟩
        · rw [ho] at hO2
          obtain ⟨pB, rfl, hPB, hzl⟩ := hO2
          refine ⟨rfl, _, rfl, rfl, _, rfl, iteP nn_ref ?_⟩
          refine ⟨_, rfl, _, rfl, _, rfl, kA, pB, cs, x, zs, v, rfl, Same.seqT sm (k8.tup hC5), hPB, hzl, c3, hv, fun hn Hs ss' => ?_, fun hcn p s' Hs ss' _ _ => ?_⟩
          · exact ⟨rfl, _, rfl, iteNS rfl ⟨acc2, ss' _ _ e, sm.trans ss', by omega, hin⟩⟩
          · refine ⟨rfl, _, rfl, iteP nn_ref ?_⟩
            refine ⟨_, rfl, acc2, ss' _ _ e, small1000 (by omega), acc2 ++ [v], upd_same, same_fresh (sm.trans ss') nD, ?_, fun u hu => ?_⟩
            · rw [List.length_append, List.length_singleton]
              omega
            · rcases List.mem_append.mp hu with g | g
              · exact hin u g
              · rw [List.mem_singleton.mp g]
                exact hv
      · rintro H2 ⟨acc2, eD, sm, hlen, hin⟩
        have k9 := k8.trans (.of sm)
        have er9 := sm _ _ er8
        have hO9 := hO8.same sm
        have e9 := sm _ _ e3
        rw [eLn] at e9 hlen
        rw [deedsL_len] at hlen
        have hdl : ∀ v ∈ deedsL (cs.length : Int), DeedV cs.length v := fun v hv => deedsL_mem.mp hv
        clear sm hO8 er8 k8 e3 nD t13 t3 na3 t2 na2 t1 na1 hO er hC7
        -- if some == [] or ..
        refine ⟨_, rfl, Nat.zero_le _, fun e2 ne2 => ?_⟩
        have sE2 := same_upd (o := .lst []) ne2
        refine ⟨_, _, .lst (SqL.of (sE2 _ _ eD)) (deeds_dp hin), .lst (SqL.of upd_same) .nil, deeds_shaped hin, shaped_nil, _, rfl, ?_⟩
        have k3 := k9.trans (.of sE2)
        have er3 := sE2 _ _ er9
        have eD3 := sE2 _ _ eD
        have e93 := sE2 _ _ e9
        have hO3 := hO9.same sE2
        generalize upd H2 e2 (.lst []) = H3 at k3 er3 eD3 e93 hO3
        have hd1 : 0 < (deedsL (cs.length : Int)).length := by
          rw [deedsL_len]
          omega
        by_cases hb : acc2 = []
        case' pos =>
          rw [deedsE_none hb]
          refine iteT ⟨_, rfl, ?_⟩
          have eS := e93
          have hys := hdl
          have hpos := hd1
          have hyl : (deedsL (cs.length : Int)).length ≤ cs.length + 1 := by
            rw [deedsL_len]
            exact Nat.le_refl _
          have kn := k3
          have ern := er3
          have hOn := hO3
        case' neg =>
          rw [deedsE_some hb]
          refine iteF ?_
          refine ⟨_, rfl, b, _, rfl, (kt5.trans k3).bags hB1, p0, fun r9 H9 u0 u1 k10 => ⟨rfl, _, rfl, ?_⟩⟩
          have kn := k3.trans k10
          have ern := k10.keep _ _ er3 (ndeeds hrow)
          have hOn := hO3.kp k10
          refine ite2 (fun c => ⟨_, rfl, ?_⟩) (fun c => ?_)
          case' refine_1 =>
            have eS := k10.keep _ _ e93 (ndeeds hdl)
            have hys := hdl
            have hpos := hd1
            have hyl : (deedsL (cs.length : Int)).length ≤ cs.length + 1 := by
              rw [deedsL_len]
              exact Nat.le_refl _
          case' refine_2 =>
            have eS := k10.keep _ _ eD3 (ndeeds hin)
            have hys := hin
            have hpos : 0 < acc2.length := List.length_pos_iff.mpr hb
            have hyl := hlen
        all_goals
          have kB := (kt5.trans kn).bags hB1
          refine ⟨_, rfl, .inl ⟨rfl, _, SqL.of ern⟩, ?_⟩
          refine ⟨_, rfl, _, rfl, _, rfl, _, _, rfl, .inl (SqL.of eS), b, _, rfl, kB, by omega, fun j H10 j0 j1 k11 => ?_⟩
          have eS10 := k11.keep _ _ eS (ndeeds hys)
          have er10 := k11.keep _ _ ern (ndeeds hrow)
          obtain ⟨v, hv', hat⟩ := at_any j0 j1
          have hdv := hys v hv'
          refine ⟨_, _, _, _, rfl, rfl, SqL.of eS10, hat, rA, _, _, rfl, rfl, er10, small1000 (by omega), ?_⟩
          have k12 := (kn.trans k11).fresh (o := .lst (row ++ [v])) nr
          have hO12 := (hOn.kp k11).updL (o := .lst (row ++ [v])) er10
          have e12 : upd H10 rA (.lst (row ++ [v])) rA = some (.lst (row ++ [v])) := upd_same
          have hlen' : (row ++ [v]).length = i + 1 := by
            rw [List.length_append, List.length_singleton, hrl]
          have hrow' : ∀ u ∈ row ++ [v], DeedV cs.length u := fun u hu => by
            rcases List.mem_append.mp hu with g | g
            · exact hrow u g
            · rw [List.mem_singleton.mp g]
              exact hdv
          generalize upd H10 rA (.lst (row ++ [v])) = H12 at k12 hO12 e12
          rcases ho : rowO cs (some (r, ss)) row with _ | ⟨x, zs⟩
          · rw [ho] at hO12
            cases hO12
            refine ⟨_, rfl, rfl, _, rfl, iteNS rfl ?_⟩
            refine ⟨row ++ [v], .non, _, _, _, _, rfl, k12, e12, hlen', hrow', ?_⟩
            rw [rowO_snoc, ho]
            rfl
          · rw [ho] at hO12
            obtain ⟨pB, rfl, hPB, hzl⟩ := hO12
            refine ⟨_, rfl, rfl, _, rfl, iteP nn_ref ?_⟩
            refine ⟨_, rfl, _, rfl, _, rfl, _, rfl, rA, _, _, _, rfl, rfl, SqL.of e12, atI_last _ _, ?_⟩
            refine ⟨kA, pB, cs, x, zs, v, rfl, k12.tup hC5, hPB, hzl, c3, hdv, fun hn Hs ss' => ?_, fun hcn p s' Hs ss' f1 f2 => ?_⟩
            · refine ⟨row ++ [v], .non, _, _, _, _, rfl, k12.trans (.of ss'), ss' _ _ e12, hlen', hrow', ?_⟩
              rw [rowO_snoc, ho, stepO_no hzl hdv hn]
              rfl
            · refine ⟨row ++ [v], .ref p, _, _, _, _, rfl, k12.trans (.of ss'), ss' _ _ e12, hlen', hrow', ?_⟩
              rw [rowO_snoc, ho, stepO_yes hzl hdv hcn]
              exact ⟨p, rfl, ⟨s', SqT.of f1, SqT.of f2⟩, by rw [aftS_len]; exact hzl⟩
    · rintro σ H7 ⟨row, hv, z6, z7, z8, z12, rfl, k7, er, hrl, hrow, hO⟩
      have hC7 := k7.tup hC5
      have hP7 := hP5.kp k7
      have hr100 : row.length ≤ 100 := by omega
      -- handed
      refine ⟨_, rfl, rA, row, rfl, .inl (SqL.of er), fun hA nh => ?_⟩
      have sh := same_upd (o := .lst row) nh
      have eh : upd H7 hA (.lst row) hA = some (.lst row) := upd_same
      have er8 := sh _ _ er
      have k8 := k7.trans (.of sh)
      have hC8 := Same.seqT sh hC7
      have hP8 := hP7.same sh
      have hO8 := hO.same sh
      generalize upd H7 hA (.lst row) = H8 at eh er8 k8 hC8 hP8 hO8
      clear sh nh er hO hP7 hC7 k7
      refine ⟨_, rfl, _, rfl, _, rfl, kA, pA, cs, r, ss, .ref rA, _, rfl, hC8, hP8, hK, hSt, r0, r18, .lst (SqL.of er8) (deeds_dp hrow), fun _ => ⟨rA, row, rfl, SqL.of er8, hrow, fun w H9 s9 hw => ?_⟩, fun h => ?_⟩
      case refine_2 => exact absurd (rowD_of hrow hr100) (by rw [h]; exact fun z => nomatch z)
      refine ⟨_, rfl, _, _, hw.dp, (hO8.same s9).dp, dataO_shaped _, dataO_shaped _, _, rfl, ?_⟩
      rw [dataO_eqv]
      refine iteF ?_
      refine ⟨_, rfl, _, rfl, _, _, .lst (SqL.of (s9 _ _ er8)) (deeds_dp hrow), .lst (SqL.of (s9 _ _ eh)) (deeds_dp hrow), deeds_shaped hrow, deeds_shaped hrow, _, rfl, ?_⟩
      rw [deeds_eqv hrow]
      refine iteF ?_
      refine ⟨_, rfl, _, rfl, Nat.zero_le _, fun e0 ne0 => ?_⟩
      have s10 := s9.trans (same_upd (o := .lst []) ne0)
      have hn0 : ∀ v ∈ ([] : List V), DeedV cs.length v := fun v hv => (nomatch hv)
      refine ⟨kA, pA, cs, r, ss, .ref e0, _, rfl, Same.seqT s10 hC8, hP8.same s10, hK, hSt, r0, r18, .lst (SqL.of upd_same) (deeds_dp hn0), fun _ => ⟨e0, [], rfl, SqL.of upd_same, hn0, fun w2 H11 s11 hw2 => ?_⟩, fun h => ?_⟩
      case refine_2 => exact absurd (rowD_of hn0 (by decide)) (by rw [h]; exact fun z => nomatch z)
      have s11' := s10.trans s11
      refine ⟨_, rfl, _, _, hw2.dp, (hP8.same s11').dp, dataO_shaped _, dataO_shaped (some (r, ss)), _, rfl, ?_⟩
      rw [show rowO cs (some (r, ss)) [] = some (r, ss) from rfl, show (PyData.tuple [.int r, .tuple (ss.map PyData.int)]) = dataO (some (r, ss)) from rfl, dataO_eqv]
      refine iteF ?_
      have k11 := k8.trans (.of s11')
      have hC11 := Same.seqT s11' hC8
      have hP11 := hP8.same s11'
      clear hw2 s11' s11 s10 ne0 hw s9 er8 eh hO8 hP8 hC8 k8
      -- bads
      refine ⟨(by show 1 ≤ sizeLine; decide), fun t1 n1 => ?_⟩
      refine ⟨(by show 1 ≤ sizeLine; decide), fun t2 n2 => ?_⟩
      have u1 := same_upd (o := .tup [.str "ride"]) n1
      have u2 := same_upd (o := .lst [.str "Ride"]) n2
      refine ⟨_, rfl, kA, _, rfl, .inr (Same.seqT (u1.trans u2) hC11), (by show 1 ≤ sizeLine; decide), fun t3 n3 => ?_⟩
      have u3 := same_upd (o := .lst [.int ((cs.map V.int).length : Int)]) n3
      refine ⟨_, rfl, (by show 1 ≤ sizeLine; decide), fun t4 n4 => ?_⟩
      have u4 := same_upd (o := .lst [.int (-1)]) n4
      refine ⟨(by show 1 ≤ sizeLine; decide), fun t5 n5 => ?_⟩
      have u5 := same_upd (o := .lst [.non]) n5
      refine ⟨(by show 1 ≤ sizeLine; decide), fun t6 n6 => ?_⟩
      have u6 := same_upd (o := .lst [.bl false]) n6
      refine ⟨(by show 1 ≤ sizeLine; decide), fun t7 n7 => ?_⟩
      have u7 := same_upd (o := .lst [.str "ride"]) n7
      refine ⟨t7, 101, _, rfl, rfl, upd_same, by decide, by decide, (by show 101 ≤ sizeLine; decide), fun t8 n8 => ?_⟩
      have u8 := same_upd (o := .lst (List.replicate 101 [V.str "ride"]).flatten) n8
      refine ⟨(by show 9 ≤ sizeLine; decide), fun t9 n9 => ?_⟩
      have u9 := same_upd (o := .lst [.non, .ref t1, .ref t2, .ref t3, .ref t4, .ref t5, .ref t6, .ref t8, .str "ride"]) n9
      refine ⟨_, rfl, (by show 1 ≤ sizeLine; decide), fun t10 n10 => ?_⟩
      have u10 := same_upd (o := .tup [.str "ride"]) n10
      refine ⟨(by show 1 ≤ sizeLine; decide), fun t11 n11 => ?_⟩
      have u11 := same_upd (o := .lst [.ref t10]) n11
      refine ⟨(by show 1 ≤ sizeLine; decide), fun t12 n12 => ?_⟩
      have u12 := same_upd (o := .lst [.ref t11]) n12
      refine ⟨t9, t12, _, _, rfl, rfl, (u10.trans (u11.trans u12)) _ _ upd_same, upd_same, (by show 10 ≤ sizeLine; decide), fun t13 n13 => ?_⟩
      have u13 := same_upd (o := .lst [.non, .ref t1, .ref t2, .ref t3, .ref t4, .ref t5, .ref t6, .ref t8, .str "ride", .ref t11]) n13
      refine ⟨t13, rfl, ⟨_, SqL.of upd_same⟩, ?_⟩
      have w12 := u12.trans u13
      have w11 := u11.trans w12
      have w10 := u10.trans w11
      have w9 := u9.trans w10
      have w8 := u8.trans w9
      have w7 := u7.trans w8
      have w6 := u6.trans w7
      have w5 := u5.trans w6
      have w4 := u4.trans w5
      have w3 := u3.trans w4
      have w2 := u2.trans w3
      have w1 := u1.trans w2
      have eL : (((cs.map V.int).length : Nat) : Int) = (cs.length : Int) := by rw [List.length_map]
      have hbad := bads_all (K := K) (w2 _ _ upd_same) (w3 _ _ upd_same) (w4 _ _ upd_same) (w5 _ _ upd_same) (w6 _ _ upd_same) (w7 _ _ upd_same) (w9 _ _ upd_same) (w11 _ _ upd_same) (w12 _ _ upd_same)
      have kX := k11.trans (.of w1)
      have hCX := Same.seqT w1 hC11
      have hPX := hP11.same w1
      clear w12 w11 w10 w9 w8 w7 w6 w5 w4 w3 w2 w1
      refine for_list (K := K) (a := t13) (xs := [.non, .ref t1, .ref t2, .ref t3, .ref t4, .ref t5, .ref t6, .ref t8, .str "ride", .ref t11]) (fun i σ H' => ∃ y11', σ = [some (.ref a), some (.ref b), some (.ref kA), some (.ref pA), some (.ref rA), some hv, z6, z7, z8, some (.ref hA), some (.ref t9), y11', z12] ∧ Kp H5 H' ∧ SqT K H' kA (cs.map V.int) ∧ Purse K H' pA r ss ∧ H' t13 = some (.lst [.non, .ref t1, .ref t2, .ref t3, .ref t4, .ref t5, .ref t6, .ref t8, .str "ride", .ref t11]) ∧ ∀ x ∈ ([.non, .ref t1, .ref t2, .ref t3, .ref t4, .ref t5, .ref t6, .ref t8, .str "ride", .ref t11] : List V), ∃ d, Dp K H' x d ∧ rowD (((cs.map V.int).length : Nat) : Int) d = false) ?_ ?_ ?_ ?_
      · exact ⟨_, rfl, kX, hCX, hPX, upd_same, hbad⟩
      · rintro i σ H' hi ⟨y11', rfl, kX, hCX, hPX, eX, hbad⟩
        exact SqL.of eX
      · rintro i x σ H' hi ⟨y11', rfl, kX, hCX, hPX, eX, hbad⟩
        obtain ⟨d, hd, hnd⟩ := hbad x (List.mem_of_getElem? hi)
        rw [eL] at hnd
        refine ⟨_, rfl, _, rfl, _, rfl, f_p_behind, _, _, _, _, C, tf, rd, rfl, KT, .inl h_p_behind, mono_behind, fun Ha sa => ?_⟩
        have sma := sa
        refine ⟨kA, pA, cs, r, ss, x, d, rfl, Same.seqT sma hCX, hPX.same sma, hK, hSt, r0, r18, Same.dp sma hd, fun h => ?_, fun _ Hc C' sc g => ?_⟩
        · rw [hnd] at h
          exact nomatch h
        · have eC : C' = C 3 := by
            have := g.symm.trans (KT.w 3 (by decide))
            cases this
            rfl
          subst eC
          refine ⟨sc, 3, rfl, rfl, KO, fun p3 Hd sd ep3 => ?_⟩
          refine ⟨(by show 2 ≤ sizeLine; decide), fun l3 nl3 => ?_⟩
          have s3 := same_upd (o := .lst [.str "NoRow", .bl true]) nl3
          refine ⟨_, _, .lst (SqL.of (s3 _ _ ep3)) (.cons (.str _) (.cons (.bl _) .nil)), .lst (SqL.of upd_same) (.cons (.str _) (.cons (.bl _) .nil)), norow_shaped, norow_shaped, _, rfl, ?_⟩
          rw [show kinN 3 = Str.ofString "NoRow" from rfl, norow_eqv]
          have sz := (sma.trans sc).trans (sd.trans s3)
          refine iteF ⟨_, rfl, kX.trans (.of sz), Same.seqT sz hCX, hPX.same sz, sz _ _ eX, fun x hx => ?_⟩
          obtain ⟨d, h1, h2⟩ := hbad x hx
          exact ⟨d, Same.dp sz h1, h2⟩
      · rintro σ H' ⟨y11', rfl, kX, _⟩
        exact ⟨_, _, _, _, _, _, _, _, _, _, _, _, rfl, kt5.trans kX⟩
  · rintro σ H2 ⟨y1, y2, y3, y4, y5, y6, y7, y8, y9, y10, y11, y12, rfl, kk⟩
    refine ⟨(by show 2 ≤ sizeLine; decide), fun a1 n1 => ?_⟩
    refine ⟨(by show 2 ≤ sizeLine; decide), fun a2 n2 => ?_⟩
    refine ⟨(by show 2 ≤ sizeLine; decide), fun a3 n3 => ?_⟩
    refine ⟨(by show 4 ≤ sizeLine; decide), fun a4 n4 => ?_⟩
    have t2 := same_upd (o := .tup [.int 1, .int 2]) n2
    have t3 := same_upd (o := .tup [.int 1, .ref a2]) n3
    have t4 := same_upd (o := .lst [.str "ride", .int 0, .int 1, .str "ride"]) n4
    have hrow : ∀ v ∈ ([.str "ride", .int 0, .int 1, .str "ride"] : List V), DeedV 2 v := by
      intro v hv
      simp only [List.mem_cons, List.not_mem_nil, or_false] at hv
      rcases hv with rfl | rfl | rfl | rfl
      · exact .inl rfl
      · exact .inr ⟨0, rfl, by omega, by omega⟩
      · exact .inr ⟨1, rfl, by omega, by omega⟩
      · exact .inl rfl
    refine ⟨a1, a3, [2, 3], 1, [1, 2], .ref a4, _, rfl, Same.seqT ((t2.trans t3).trans t4) (SqT.of upd_same), ⟨a2, Same.seqT t4 (SqT.of upd_same), Same.seqT (t3.trans t4) (SqT.of upd_same)⟩, ⟨by decide, by decide, by decide⟩, ⟨rfl, by decide⟩, by decide, by decide, .lst (SqL.of upd_same) (deeds_dp hrow), fun _ => ⟨a4, _, rfl, SqL.of upd_same, hrow, fun w2 H3 s3 hw2 => ?_⟩, fun h => ?_⟩
    case refine_2 => exact absurd (rowD_of hrow (by decide)) (by rw [show ((2 : Nat) : Int) = ((([2, 3] : List Int).length : Nat) : Int) from rfl, h]; exact fun z => nomatch z)
    rw [show rowO [2, 3] (some (1, [1, 2])) [.str "ride", .int 0, .int 1, .str "ride"] = some (1, [1, 1]) by decide +kernel] at hw2
    refine ⟨(by show 2 ≤ sizeLine; decide), fun a5 n5 => ?_⟩
    refine ⟨(by show 2 ≤ sizeLine; decide), fun a6 n6 => ?_⟩
    have t5 := same_upd (o := .tup [.int 1, .int 1]) n5
    have t6 := same_upd (o := .tup [.int 1, .ref a5]) n6
    refine ⟨_, _, (hw2.same (t5.trans t6)).dp, .tup (SqT.of upd_same) (.cons (.int 1) (.cons (.tup (Same.seqT t6 (SqT.of upd_same)) (dp_ints [1, 1])) .nil)), dataO_shaped _, due_shaped 1 [1, 1], ?_⟩
    rw [show dataO (some (1, [1, 1])) = .tuple [.int 1, .tuple (([1, 1] : List Int).map PyData.int)] from rfl, due_eqv]
    exact q _
theorem all_ok {l : PySem.W.OpenLaw} {w : World} {K : PySem.W.Frag} {mg : Str → Option Value} {fa : Addr} (hfa : mg "law" = some (.ref fa))
    (F_l_draws : FunAt K mg "_law_draws" s_l_draws)
    (F_l_cell_at : FunAt K mg "_law_cell_at" s_l_cell_at)
    (F_l_bag : FunAt K mg "_law_bag" s_l_bag)
    (F_l_bags : FunAt K mg "_law_bags" s_l_bags)
    (F_l_take : FunAt K mg "_law_take" s_l_take)
    (F_l_kinds : FunAt K mg "_law_kinds" s_l_kinds)
    (F_l_far_draw : FunAt K mg "_law_far_draw" s_l_far_draw)
    (F_l_stamps_for : FunAt K mg "_law_stamps_for" s_l_stamps_for)
    (F_l_had : FunAt K mg "_law_had" s_l_had)
    (F_l_step : FunAt K mg "_law_step" s_l_step)
    (F_p_is_within : FunAt K mg "is_within" s_p_is_within)
    (F_p_are_cards : FunAt K mg "are_cards" s_p_are_cards)
    (F_p_refuse_no_cards : FunAt K mg "refuse_no_cards" s_p_refuse_no_cards)
    (F_p_are_stamps : FunAt K mg "are_stamps" s_p_are_stamps)
    (F_p_purse_fits : FunAt K mg "purse_fits" s_p_purse_fits)
    (F_p_refuse_no_purse : FunAt K mg "refuse_no_purse" s_p_refuse_no_purse)
    (F_p_is_kind : FunAt K mg "is_kind" s_p_is_kind)
    (F_p_is_deed : FunAt K mg "is_deed" s_p_is_deed)
    (F_p_is_row : FunAt K mg "is_row" s_p_is_row)
    (F_p_refuse_no_row : FunAt K mg "refuse_no_row" s_p_refuse_no_row)
    (F_p_after_ride : FunAt K mg "after_ride" s_p_after_ride)
    (F_p_after_giving : FunAt K mg "after_giving" s_p_after_giving)
    (F_p_after_deed : FunAt K mg "after_deed" s_p_after_deed)
    (F_p_behind : FunAt K mg "behind" s_p_behind)
    (F_l_refused : FunAt K mg "_law_refused" s_l_refused)
    (F_l_law : FunAt K mg "law" s_l_law)
    (b_int : mg "int" = none)
    (b_range : mg "range" = none)
    (b_len : mg "len" = none)
    (b_max : mg "max" = none)
    (b_min : mg "min" = none)
    (b_tuple : mg "tuple" = none)
    (b_list : mg "list" = none)
    (b_isinstance : mg "isinstance" = none)
    (b_bool : mg "bool" = none)
    (b_all : mg "all" = none)
    (b_str : mg "str" = none)
    (b_ValueError : mg "ValueError" = none)
    {t_MOST_KINDS : Tok} (g_MOST_KINDS : mg "MOST_KINDS" = some (.int 3 t_MOST_KINDS))
    {t_MOST_FULL : Tok} (g_MOST_FULL : mg "MOST_FULL" = some (.int 20 t_MOST_FULL))
    {t_LEAST_FULL : Tok} (g_LEAST_FULL : mg "LEAST_FULL" = some (.int 2 t_LEAST_FULL))
    {t_MOST : Tok} (g_MOST : mg "MOST" = some (.int 1000000000000000000 t_MOST))
    {t_MOST_DEEDS : Tok} (g_MOST_DEEDS : mg "MOST_DEEDS" = some (.int 100 t_MOST_DEEDS))
    {t_RIDE : Tok} (g_RIDE : mg "RIDE" = some (.str "ride" t_RIDE))
    {C_NoRow : Addr} (T_NoRow : ExcT K mg "NoRow" C_NoRow)
    {C : Nat → Addr} {tf rd : Addr} (KT : Kin K mg C tf rd) (KO3 : KinOf K C tf rd 3) :
    ∃ fd : FuncData, (∀ (s : Shared) (v : Value), BindsTo s fd ⟨[v], []⟩ [("script", v)]) ∧ ∀ base : Heap, K.In base → base.Ns mainGlobals mg → FnOk l.prog w K mg base CX0 14 fa fd ["script"] (sp_l_law K) := by
  obtain ⟨f0, fd0, F0, m0⟩ := F_l_law
  have e := hfa.symm.trans m0
  cases e
  refine ⟨fd0, ?_, fun base _ _ => ?_⟩
  · obtain ⟨oc, od, kV, doc, pm, an, cdv, ct, osl, rfl, lk, hcd⟩ := F0.ex
    exact fun s v => .of_eq rfl
  have D_l_draws := F_l_draws.def (P := l.prog) (w := w) (base := base) (fun f fd F => ok_l_draws F b_int b_range) (ps := ["cell", "many", "size"]) (fun _ _ _ _ _ _ us hl => match us, hl with | [_, _, _], _ => rfl)
  have D_l_cell_at := F_l_cell_at.def (P := l.prog) (w := w) (base := base) (fun f fd F => ok_l_cell_at F b_len) (ps := ["script", "k"]) (fun _ _ _ _ _ _ us hl => match us, hl with | [_, _], _ => rfl)
  have D_l_bag := F_l_bag.def (P := l.prog) (w := w) (base := base) (fun f fd F => ok_l_bag F D_l_draws D_l_cell_at) (ps := ["script", "k"]) (fun _ _ _ _ _ _ us hl => match us, hl with | [_, _], _ => rfl)
  have D_l_bags := F_l_bags.def (P := l.prog) (w := w) (base := base) (fun f fd F => ok_l_bags F D_l_bag b_range b_max b_min b_len) (ps := ["script", "limit"]) (fun _ _ _ _ _ _ us hl => match us, hl with | [_, _], _ => rfl)
  have D_l_take := F_l_take.def (P := l.prog) (w := w) (base := base) (fun f fd F => ok_l_take F b_len) (ps := ["bag", "many"]) (fun _ _ _ _ _ _ us hl => match us, hl with | [_, _], _ => rfl)
  have D_l_kinds := F_l_kinds.def (P := l.prog) (w := w) (base := base) (fun f fd F => ok_l_kinds F D_l_take b_range b_min b_tuple) (ps := ["bag", "far"]) (fun _ _ _ _ _ _ us hl => match us, hl with | [_, _], _ => rfl)
  have D_l_far_draw := F_l_far_draw.def (P := l.prog) (w := w) (base := base) (fun f fd F => ok_l_far_draw F D_l_take) (ps := ["bag", "many"]) (fun _ _ _ _ _ _ us hl => match us, hl with | [_, _], _ => rfl)
  have D_l_stamps_for := F_l_stamps_for.def (P := l.prog) (w := w) (base := base) (fun f fd F => ok_l_stamps_for F D_l_far_draw D_l_take b_tuple) (ps := ["bag", "kinds", "far"]) (fun _ _ _ _ _ _ us hl => match us, hl with | [_, _, _], _ => rfl)
  have D_l_had := F_l_had.def (P := l.prog) (w := w) (base := base) (fun f fd F => ok_l_had F D_l_stamps_for D_l_far_draw) (ps := ["bag", "kinds", "far"]) (fun _ _ _ _ _ _ us hl => match us, hl with | [_, _, _], _ => rfl)
  have D_l_step := F_l_step.def (P := l.prog) (w := w) (base := base) (fun f fd F => ok_l_step F b_list b_tuple) (ps := ["kinds", "had", "deed"]) (fun _ _ _ _ _ _ us hl => match us, hl with | [_, _, _], _ => rfl)
  have D_p_is_within := F_p_is_within.def (P := l.prog) (w := w) (base := base) (fun f fd F => ok_p_is_within F b_isinstance b_int b_bool) (ps := ["thing", "least", "most"]) (fun _ _ _ _ _ _ us hl => match us, hl with | [_, _, _], _ => rfl)
  have D_p_are_cards := F_p_are_cards.def (P := l.prog) (w := w) (base := base) (fun f fd F => ok_p_are_cards F D_p_is_within b_len b_isinstance b_tuple b_all g_MOST_KINDS g_MOST_FULL g_LEAST_FULL) (ps := ["thing"]) (fun _ _ _ _ _ _ us hl => match us, hl with | [_], _ => rfl)
  have D_p_refuse_no_cards := F_p_refuse_no_cards.def (P := l.prog) (w := w) (base := base) (fun f fd F => ok_p_refuse_no_cards F D_p_are_cards) (ps := ["thing"]) (fun _ _ _ _ _ _ us hl => match us, hl with | [_], _ => rfl)
  have D_p_are_stamps := F_p_are_stamps.def (P := l.prog) (w := w) (base := base) (fun f fd F => ok_p_are_stamps F D_p_is_within b_len b_isinstance b_tuple b_all g_MOST) (ps := ["cards", "thing"]) (fun _ _ _ _ _ _ us hl => match us, hl with | [_, _], _ => rfl)
  have D_p_purse_fits := F_p_purse_fits.def (P := l.prog) (w := w) (base := base) (fun f fd F => ok_p_purse_fits F D_p_are_stamps D_p_is_within b_len b_isinstance b_tuple g_MOST) (ps := ["cards", "thing"]) (fun _ _ _ _ _ _ us hl => match us, hl with | [_, _], _ => rfl)
  have D_p_refuse_no_purse := F_p_refuse_no_purse.def (P := l.prog) (w := w) (base := base) (fun f fd F => ok_p_refuse_no_purse F D_p_purse_fits) (ps := ["cards", "thing"]) (fun _ _ _ _ _ _ us hl => match us, hl with | [_, _], _ => rfl)
  have D_p_is_kind := F_p_is_kind.def (P := l.prog) (w := w) (base := base) (fun f fd F => ok_p_is_kind F D_p_is_within b_len) (ps := ["cards", "thing"]) (fun _ _ _ _ _ _ us hl => match us, hl with | [_, _], _ => rfl)
  have D_p_is_deed := F_p_is_deed.def (P := l.prog) (w := w) (base := base) (fun f fd F => ok_p_is_deed F D_p_is_kind b_isinstance b_str g_RIDE) (ps := ["cards", "thing"]) (fun _ _ _ _ _ _ us hl => match us, hl with | [_, _], _ => rfl)
  have D_p_is_row := F_p_is_row.def (P := l.prog) (w := w) (base := base) (fun f fd F => ok_p_is_row F D_p_is_deed b_len b_isinstance b_list b_all g_MOST_DEEDS) (ps := ["cards", "thing"]) (fun _ _ _ _ _ _ us hl => match us, hl with | [_, _], _ => rfl)
  have D_p_refuse_no_row := F_p_refuse_no_row.defX (P := l.prog) (w := w) (base := base) (fun f fd F => ok_p_refuse_no_row F D_p_is_row T_NoRow) (ps := ["cards", "thing"]) (fun _ _ _ _ _ _ us hl => match us, hl with | [_, _], _ => rfl)
  have D_p_after_ride := F_p_after_ride.def (P := l.prog) (w := w) (base := base) (fun f fd F => ok_p_after_ride F b_tuple) (ps := ["purse"]) (fun _ _ _ _ _ _ us hl => match us, hl with | [_], _ => rfl)
  have D_p_after_giving := F_p_after_giving.def (P := l.prog) (w := w) (base := base) (fun f fd F => ok_p_after_giving F b_list b_tuple) (ps := ["cards", "purse", "kind"]) (fun _ _ _ _ _ _ us hl => match us, hl with | [_, _, _], _ => rfl)
  have D_p_after_deed := F_p_after_deed.def (P := l.prog) (w := w) (base := base) (fun f fd F => ok_p_after_deed F D_p_after_ride D_p_after_giving g_RIDE) (ps := ["cards", "purse", "deed"]) (fun _ _ _ _ _ _ us hl => match us, hl with | [_, _, _], _ => rfl)
  have D_p_behind := F_p_behind.defX (P := l.prog) (w := w) (base := base) (fun f fd F => ok_p_behind F D_p_refuse_no_cards D_p_refuse_no_purse D_p_refuse_no_row D_p_after_deed) (ps := ["cards", "purse", "row"]) (fun _ _ _ _ _ _ us hl => match us, hl with | [_, _, _], _ => rfl)
  obtain ⟨f_p_behind, v_p_behind, h_p_behind⟩ := D_p_behind.held (j := 12) (by decide)
  have D_l_refused := F_l_refused.def (P := l.prog) (w := w) (base := base) (fun f fd F => ok_l_refused F b_isinstance b_ValueError) (ps := ["call", "one", "two", "three"]) (fun _ _ _ _ _ _ us hl => match us, hl with | [_, _, _, _], _ => rfl)
  exact ok_l_law F0 D_l_bags D_l_kinds D_l_take D_l_had D_l_step D_p_behind D_l_refused b_range b_list b_len v_p_behind h_p_behind KT KO3
end FR
open PySem PySem.W PyProof.Rows
set_option maxRecDepth 100000 in
set_option maxHeartbeats 0 in
theorem PySem.Challenge.cw_freerides_k02_rows_of_deeds_holds : PySem.Challenge.rw_freerides_k02_rows_of_deeds.Holds := by
  w_on; o_law; k_head; (case hw => w_witness2)
  k_fill
  refine L2.walk_of (l := PySem.Challenge.rw_freerides_k02_rows_of_deeds) (n := 63) (k := 14) (x := "script") (CX := fun _ => L2.CX0) (sp := fun w => FR.sp_l_law _) rfl (by decide) rfl ⟨rfl, by decide, by decide⟩ (fun w h Y => PySem.W.kIn_of Y) ?F (fun _ _ a ns hl _ hS => ⟨a, ns, rfl, hS, hl, fun _ => rfl⟩) (fun _ _ _ _ _ h => h)
  case F =>
    intro w mg fa h KX G hmg
    have F_l_draws : FR.FunAtX KX mg "_law_draws" FR.s_l_draws := by
      refine' FR.funAt_mk KX G ?a ?l ?c ?k
      (case a => k_is); (case l => k_is); (case c => k_is); (case k => k_is)
    have F_l_cell_at : FR.FunAtX KX mg "_law_cell_at" FR.s_l_cell_at := by
      refine' FR.funAt_mk KX G ?a ?l ?c ?k
      (case a => k_is); (case l => k_is); (case c => k_is); (case k => k_is)
    have F_l_bag : FR.FunAtX KX mg "_law_bag" FR.s_l_bag := by
      refine' FR.funAt_mk KX G ?a ?l ?c ?k
      (case a => k_is); (case l => k_is); (case c => k_is); (case k => k_is)
    have F_l_bags : FR.FunAtX KX mg "_law_bags" FR.s_l_bags := by
      refine' FR.funAt_mk KX G ?a ?l ?c ?k
      (case a => k_is); (case l => k_is); (case c => k_is); (case k => k_is)
    have F_l_take : FR.FunAtX KX mg "_law_take" FR.s_l_take := by
      refine' FR.funAt_mk KX G ?a ?l ?c ?k
      (case a => k_is); (case l => k_is); (case c => k_is); (case k => k_is)
    have F_l_kinds : FR.FunAtX KX mg "_law_kinds" FR.s_l_kinds := by
      refine' FR.funAt_mk KX G ?a ?l ?c ?k
      (case a => k_is); (case l => k_is); (case c => k_is); (case k => k_is)
    have F_l_far_draw : FR.FunAtX KX mg "_law_far_draw" FR.s_l_far_draw := by
      refine' FR.funAt_mk KX G ?a ?l ?c ?k
      (case a => k_is); (case l => k_is); (case c => k_is); (case k => k_is)
    have F_l_stamps_for : FR.FunAtX KX mg "_law_stamps_for" FR.s_l_stamps_for := by
      refine' FR.funAt_mk KX G ?a ?l ?c ?k
      (case a => k_is); (case l => k_is); (case c => k_is); (case k => k_is)
    have F_l_had : FR.FunAtX KX mg "_law_had" FR.s_l_had := by
      refine' FR.funAt_mk KX G ?a ?l ?c ?k
      (case a => k_is); (case l => k_is); (case c => k_is); (case k => k_is)
    have F_l_step : FR.FunAtX KX mg "_law_step" FR.s_l_step := by
      refine' FR.funAt_mk KX G ?a ?l ?c ?k
      (case a => k_is); (case l => k_is); (case c => k_is); (case k => k_is)
    have F_p_is_within : FR.FunAtX KX mg "is_within" FR.s_p_is_within := by
      refine' FR.funAt_mk KX G ?a ?l ?c ?k
      (case a => k_is); (case l => k_is); (case c => k_is); (case k => k_is)
    have F_p_are_cards : FR.FunAtX KX mg "are_cards" FR.s_p_are_cards := by
      refine' FR.funAt_mk KX G ?a ?l ?c ?k
      (case a => k_is); (case l => k_is); (case c => k_is); (case k => k_is)
    have F_p_refuse_no_cards : FR.FunAtX KX mg "refuse_no_cards" FR.s_p_refuse_no_cards := by
      refine' FR.funAt_mk KX G ?a ?l ?c ?k
      (case a => k_is); (case l => k_is); (case c => k_is); (case k => k_is)
    have F_p_are_stamps : FR.FunAtX KX mg "are_stamps" FR.s_p_are_stamps := by
      refine' FR.funAt_mk KX G ?a ?l ?c ?k
      (case a => k_is); (case l => k_is); (case c => k_is); (case k => k_is)
    have F_p_purse_fits : FR.FunAtX KX mg "purse_fits" FR.s_p_purse_fits := by
      refine' FR.funAt_mk KX G ?a ?l ?c ?k
      (case a => k_is); (case l => k_is); (case c => k_is); (case k => k_is)
    have F_p_refuse_no_purse : FR.FunAtX KX mg "refuse_no_purse" FR.s_p_refuse_no_purse := by
      refine' FR.funAt_mk KX G ?a ?l ?c ?k
      (case a => k_is); (case l => k_is); (case c => k_is); (case k => k_is)
    have F_p_is_kind : FR.FunAtX KX mg "is_kind" FR.s_p_is_kind := by
      refine' FR.funAt_mk KX G ?a ?l ?c ?k
      (case a => k_is); (case l => k_is); (case c => k_is); (case k => k_is)
    have F_p_is_deed : FR.FunAtX KX mg "is_deed" FR.s_p_is_deed := by
      refine' FR.funAt_mk KX G ?a ?l ?c ?k
      (case a => k_is); (case l => k_is); (case c => k_is); (case k => k_is)
    have F_p_is_row : FR.FunAtX KX mg "is_row" FR.s_p_is_row := by
      refine' FR.funAt_mk KX G ?a ?l ?c ?k
      (case a => k_is); (case l => k_is); (case c => k_is); (case k => k_is)
    have F_p_refuse_no_row : FR.FunAtX KX mg "refuse_no_row" FR.s_p_refuse_no_row := by
      refine' FR.funAt_mk KX G ?a ?l ?c ?k
      (case a => k_is); (case l => k_is); (case c => k_is); (case k => k_is)
    have F_p_after_ride : FR.FunAtX KX mg "after_ride" FR.s_p_after_ride := by
      refine' FR.funAt_mk KX G ?a ?l ?c ?k
      (case a => k_is); (case l => k_is); (case c => k_is); (case k => k_is)
    have F_p_after_giving : FR.FunAtX KX mg "after_giving" FR.s_p_after_giving := by
      refine' FR.funAt_mk KX G ?a ?l ?c ?k
      (case a => k_is); (case l => k_is); (case c => k_is); (case k => k_is)
    have F_p_after_deed : FR.FunAtX KX mg "after_deed" FR.s_p_after_deed := by
      refine' FR.funAt_mk KX G ?a ?l ?c ?k
      (case a => k_is); (case l => k_is); (case c => k_is); (case k => k_is)
    have F_p_behind : FR.FunAtX KX mg "behind" FR.s_p_behind := by
      refine' FR.funAt_mk KX G ?a ?l ?c ?k
      (case a => k_is); (case l => k_is); (case c => k_is); (case k => k_is)
    have F_l_refused : FR.FunAtX KX mg "_law_refused" FR.s_l_refused := by
      refine' FR.funAt_mk KX G ?a ?l ?c ?k
      (case a => k_is); (case l => k_is); (case c => k_is); (case k => k_is)
    have F_l_law : FR.FunAtX KX mg "law" FR.s_l_law := by
      refine' FR.funAt_mk KX G ?a ?l ?c ?k
      (case a => k_is); (case l => k_is); (case c => k_is); (case k => k_is)
    have b_int : mg "int" = none := by
      refine' PySem.W.mg_none_of KX G ?z
      (case z => k_is)
    have b_range : mg "range" = none := by
      refine' PySem.W.mg_none_of KX G ?z
      (case z => k_is)
    have b_len : mg "len" = none := by
      refine' PySem.W.mg_none_of KX G ?z
      (case z => k_is)
    have b_max : mg "max" = none := by
      refine' PySem.W.mg_none_of KX G ?z
      (case z => k_is)
    have b_min : mg "min" = none := by
      refine' PySem.W.mg_none_of KX G ?z
      (case z => k_is)
    have b_tuple : mg "tuple" = none := by
      refine' PySem.W.mg_none_of KX G ?z
      (case z => k_is)
    have b_list : mg "list" = none := by
      refine' PySem.W.mg_none_of KX G ?z
      (case z => k_is)
    have b_isinstance : mg "isinstance" = none := by
      refine' PySem.W.mg_none_of KX G ?z
      (case z => k_is)
    have b_bool : mg "bool" = none := by
      refine' PySem.W.mg_none_of KX G ?z
      (case z => k_is)
    have b_all : mg "all" = none := by
      refine' PySem.W.mg_none_of KX G ?z
      (case z => k_is)
    have b_str : mg "str" = none := by
      refine' PySem.W.mg_none_of KX G ?z
      (case z => k_is)
    have b_ValueError : mg "ValueError" = none := by
      refine' PySem.W.mg_none_of KX G ?z
      (case z => k_is)
    have g_MOST_KINDS : ∃ t, mg "MOST_KINDS" = some (.int 3 t) := by
      refine' FR.glob_mk KX G ?z ?e
      (case z => k_is); (case e => exact ⟨_, rfl⟩)
    have g_MOST_FULL : ∃ t, mg "MOST_FULL" = some (.int 20 t) := by
      refine' FR.glob_mk KX G ?z ?e
      (case z => k_is); (case e => exact ⟨_, rfl⟩)
    have g_LEAST_FULL : ∃ t, mg "LEAST_FULL" = some (.int 2 t) := by
      refine' FR.glob_mk KX G ?z ?e
      (case z => k_is); (case e => exact ⟨_, rfl⟩)
    have g_MOST : ∃ t, mg "MOST" = some (.int 1000000000000000000 t) := by
      refine' FR.glob_mk KX G ?z ?e
      (case z => k_is); (case e => exact ⟨_, rfl⟩)
    have g_MOST_DEEDS : ∃ t, mg "MOST_DEEDS" = some (.int 100 t) := by
      refine' FR.glob_mk KX G ?z ?e
      (case z => k_is); (case e => exact ⟨_, rfl⟩)
    have g_RIDE : ∃ t, mg "RIDE" = some (.str "ride" t) := by
      refine' FR.sglob_mk KX G ?z ?e
      (case z => k_is); (case e => exact ⟨_, rfl⟩)
    have T_NoRow : FR.ExcAtX KX mg "NoRow" := by
      refine' FR.excT_mk KX G ?a ?x ?k ?s ?t
      (case a => k_is); (case x => k_exc); (case k => k_is); (case s => k_is); (case t => k_is)
    have KA : FR.KinAtX KX mg [3] := by
      refine' FR.kinAt_mk KX (FR.kin_mk KX G ?a0 ?a1 ?a2 ?a3 ?a4 ?a5 ?a6 ?a7 ?a8 ?a9 ?a10 ?atf ?ard) (FR.kinL_cons (FR.kinOf_mk (i := 3) (by decide) ?hc_3 ?hg_3 ?hk_3 ?hs_3 ?hd_3 ?ha_3 ?hn_3 ?ht_3 ?hm_3 ?me_3 ?sv_3 ?d0_3 ?t0_3 ?s0_3 ?d1_3 ?t1_3 ?s1_3 ?d2_3 ?t2_3 ?s2_3 ?d3_3 ?t3_3 ?s3_3 ?d4_3 ?t4_3 ?s4_3 ?d5_3 ?t5_3 ?s5_3 ?d6_3 ?t6_3 ?s6_3 ?d7_3 ?t7_3 ?s7_3 ?d8_3 ?t8_3 ?s8_3 ?d9_3 ?t9_3 ?s9_3 ?d10_3 ?t10_3 ?s10_3 ?dtf_3 ?ttf_3 ?btf_3 ?stf_3 ?drd_3 ?trd_3 ?brd_3 ?srd_3) FR.kinL_nil)
      (case a0 => k_is); (case a1 => k_is); (case a2 => k_is); (case a3 => k_is); (case a4 => k_is); (case a5 => k_is); (case a6 => k_is); (case a7 => k_is); (case a8 => k_is); (case a9 => k_is); (case a10 => k_is); (case atf => k_is); (case ard => k_is)
      (case hc_3 => exact rfl)
      (case hg_3 => k_is); (case hk_3 => k_is); (case hs_3 => k_is); (case hd_3 => k_is); (case ha_3 => k_is); (case hn_3 => k_is); (case ht_3 => k_is); (case hm_3 => k_is); (case me_3 => k_is); (case sv_3 => k_is); (case d0_3 => k_is); (case t0_3 => k_is); (case s0_3 => k_is); (case d1_3 => k_is); (case t1_3 => k_is); (case s1_3 => k_is); (case d2_3 => k_is); (case t2_3 => k_is); (case s2_3 => k_is); (case d3_3 => k_is); (case t3_3 => k_is); (case s3_3 => k_is); (case d4_3 => k_is); (case t4_3 => k_is); (case s4_3 => k_is); (case d5_3 => k_is); (case t5_3 => k_is); (case s5_3 => k_is); (case d6_3 => k_is); (case t6_3 => k_is); (case s6_3 => k_is); (case d7_3 => k_is); (case t7_3 => k_is); (case s7_3 => k_is); (case d8_3 => k_is); (case t8_3 => k_is); (case s8_3 => k_is); (case d9_3 => k_is); (case t9_3 => k_is); (case s9_3 => k_is); (case d10_3 => k_is); (case t10_3 => k_is); (case s10_3 => k_is); (case dtf_3 => k_is); (case ttf_3 => k_is); (case btf_3 => k_is); (case stf_3 => k_is); (case drd_3 => k_is); (case trd_3 => k_is); (case brd_3 => k_is); (case srd_3 => k_is)
    obtain ⟨C, tf, rd, KT, KO3, _⟩ := KA
    obtain ⟨t_MOST_KINDS, g_MOST_KINDS⟩ := g_MOST_KINDS
    obtain ⟨t_MOST_FULL, g_MOST_FULL⟩ := g_MOST_FULL
    obtain ⟨t_LEAST_FULL, g_LEAST_FULL⟩ := g_LEAST_FULL
    obtain ⟨t_MOST, g_MOST⟩ := g_MOST
    obtain ⟨t_MOST_DEEDS, g_MOST_DEEDS⟩ := g_MOST_DEEDS
    obtain ⟨t_RIDE, g_RIDE⟩ := g_RIDE
    obtain ⟨C_NoRow, T_NoRow⟩ := T_NoRow
    exact FR.all_ok hmg F_l_draws F_l_cell_at F_l_bag F_l_bags F_l_take F_l_kinds F_l_far_draw F_l_stamps_for F_l_had F_l_step F_p_is_within F_p_are_cards F_p_refuse_no_cards F_p_are_stamps F_p_purse_fits F_p_refuse_no_purse F_p_is_kind F_p_is_deed F_p_is_row F_p_refuse_no_row F_p_after_ride F_p_after_giving F_p_after_deed F_p_behind F_l_refused F_l_law b_int b_range b_len b_max b_min b_tuple b_list b_isinstance b_bool b_all b_str b_ValueError g_MOST_KINDS g_MOST_FULL g_LEAST_FULL g_MOST g_MOST_DEEDS g_RIDE T_NoRow KT KO3
