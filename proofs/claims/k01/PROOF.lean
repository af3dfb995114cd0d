import PyProof.Rows.All
import Wide.All
import OpenK.AllK
import Wide.FinOn
import HandS.ForMost
import HandS.ForExc
import HandS.ExcIs
import HandS.IsInst
import HandS.Evl
import HandS.Walk
import HandS.Zip
import PySem.Challenge.RW_paritypool_k01_value_at_the_points
set_option Elab.async false
set_option linter.all false
set_option maxRecDepth 100000
namespace PP
open PySem L2
def top (i : Nat) : Stmt := (PySem.Challenge.pw_paritypool_k01_value_at_the_points).main.body.getD i (.Pass ⟨0, 0, 0, 0⟩)
abbrev s_inverse : Stmt := top 5
abbrev s_distinct_places : Stmt := top 6
abbrev s_weight : Stmt := top 7
abbrev s_weights : Stmt := top 8
abbrev s_value_at : Stmt := top 9
abbrev s_law_pot : Stmt := top 11
abbrev s_law_next : Stmt := top 12
abbrev s_law_is_int : Stmt := top 13
abbrev s_law_refused : Stmt := top 14
abbrev s_law_places : Stmt := top 15
abbrev s_law : Stmt := top 16
/-! small rules of one's own -/
section
variable {X : Cx}
theorem pe_const {x : Str} {v : V} {pos : Pos} (h : ∃ u, X.mg x = some u ∧ RelV v u) (hg : Gl X x := by rfl) (hd : (x == ("__debug__" : Str)) = false := by decide) : PE X (.Name x pos) (tC v) := by
  obtain ⟨u, h1, h2⟩ := h
  exact pe_glob hg h1 h2 hd
/-- isinstance of a caught error, whatever class the clause has caught -/
theorem call_isE' {a : Addr} {cls : Value} {d : Option Addr} {oe : Obj} {pn : List (Addr × Obj)} (hz : Zc cls d oe) (hf : ∃ vs, oe.data = .fields vs) :
    CallR (X.suite a ((a, oe) :: pn)) (.builtin "isinstance") (fun xs H Q => ∃ D, cls = .ref D ∧ d = none ∧ ExcC X.K D ∧ rIsE X.K D a xs H Q) := by
  intro pins s σ H xs us Q I r h
  obtain ⟨D, rfl, rfl, C, h⟩ := h
  exact call_isE C hz hf pins s σ H xs us Q I r h
end
/-- all but p is as it was, what is free too -/
def Only (p : Addr) (H H' : Hp) : Prop := ∀ b, b ≠ p → H' b = H b
theorem Only.upd {p : Addr} {H : Hp} {o : HO} : Only p H (upd H p o) := fun _ h => upd_ne h
theorem Only.refl {p : Addr} {H : Hp} : Only p H H := fun _ _ => rfl
theorem Only.trans {p : Addr} {H H1 H2 : Hp} (x : Only p H H1) (y : Only p H1 H2) : Only p H H2 := fun b h => (y b h).trans (x b h)
/-! which class is asked of a caught error -/
theorem kit_self {K : PySem.W.Frag} {c : Value} : PySem.W.kitOne K c c = some true := by
  unfold PySem.W.kitOne
  rw [if_pos (by simp)]
theorem kit_type {K : PySem.W.Frag} {D : Addr} {n : String} {b : Bool} (m : PySem.W.kitMeta n = true) (h : PySem.W.subIn K (.ref D) (.type n) = some b) : PySem.W.kitOne K (.ref D) (.type n) = some b := by
  unfold PySem.W.kitOne
  rw [if_neg (by intro z; cases (beq_iff_eq.mp z))]
  show (if PySem.W.kitMeta n = true then PySem.W.subIn K (.ref D) (.type n) else none) = some b
  rw [if_pos m]
  exact h
theorem kit_cls_of {K : PySem.W.Frag} {C : Addr} {t : Value} {b : Bool} (hd : PySem.W.hasDictIn K C = true) (ht : PySem.W.typeIn K (.ref C) = some (.type "type")) (h : PySem.W.subIn K t (.ref C) = some b) : PySem.W.kitCls K t (.ref C) = some b := by
  obtain ⟨cd, hc, _⟩ := PySem.W.any_some hd
  show (if ((PySem.W.clsIn K C).isSome && PySem.W.typeIn K (.ref C) == some (.type "type")) = true then PySem.W.subIn K t (.ref C) else none) = some b
  rw [if_pos (by rw [hc, ht]; rfl)]
  exact h
theorem kit_yes {K : PySem.W.Frag} {C D : Addr} (hd : PySem.W.hasDictIn K C = true) (ht : PySem.W.typeIn K (.ref C) = some (.type "type")) (h : PySem.W.subIn K (.ref D) (.ref C) = some true) : PySem.W.kitOne K (.ref D) (.ref C) = some true := by
  unfold PySem.W.kitOne
  split
  · rfl
  · exact kit_cls_of hd ht h
theorem kit_no {K : PySem.W.Frag} {C D : Addr} (hd : PySem.W.hasDictIn K C = true) (ht : PySem.W.typeIn K (.ref C) = some (.type "type")) (h : PySem.W.subIn K (.ref D) (.ref C) = some false) (hs : PySem.W.subIn K (.ref D) (.ref D) = some true) : PySem.W.kitOne K (.ref D) (.ref C) = some false := by
  unfold PySem.W.kitOne
  split
  · rename_i z
    have e : D = C := by
      have := beq_iff_eq.mp z
      injection this
    rw [← e] at h
    rw [h] at hs
    cases hs
  · exact kit_cls_of hd ht h
/-- len of a list or tuple; list of one -/
abbrev rLenS (K : PySem.W.Frag) := Evl.rLenS K
abbrev rListOf (K : PySem.W.Frag) := Evl.rListS K
/-! the prime, the inverse -/
theorem no_div (d : Nat) (h1 : 2 ≤ d) (h2 : d ≤ 255) : ¬ d ∣ 65521 := by
  intro h
  have e : 65521 % d = 0 := Nat.mod_eq_zero_of_dvd h
  have key : ∀ d : Fin 256, 2 ≤ d.val → ¬ 65521 % d.val = 0 := by decide +kernel
  exact key ⟨d, by omega⟩ h1 e
theorem prime_q (d : Nat) (h : d ∣ 65521) : d = 1 ∨ d = 65521 := by
  obtain ⟨e, he⟩ := h
  by_cases a : d ≤ 255
  · by_cases b : 2 ≤ d
    · exact absurd ⟨e, he⟩ (no_div d b a)
    · have : d ≠ 0 := by rintro rfl; omega
      omega
  · by_cases b : 2 ≤ e
    · by_cases c : e ≤ 255
      · exact absurd ⟨d, by rw [Nat.mul_comm]; exact he⟩ (no_div e b c)
      · have h1 : 256 * 256 ≤ d * e := Nat.mul_le_mul (by omega) (by omega)
        omega
    · have : e ≠ 0 := by rintro rfl; omega
      have e1 : e = 1 := by omega
      subst e1
      omega
theorem gcd_q (x : Int) (h : x % 65521 ≠ 0) : Int.gcd 65521 (x % 65521) = 1 := by
  have d1 : (Int.gcd 65521 (x % 65521) : Nat) ∣ 65521 := by
    have := Int.gcd_dvd_left (65521 : Int) (x % 65521)
    have h2 : ((Int.gcd 65521 (x % 65521) : Nat) : Int) ∣ ((65521 : Nat) : Int) := this
    exact Int.natCast_dvd_natCast.mp h2
  rcases prime_q _ d1 with e | e
  · exact e
  · exfalso
    have d2 := Int.gcd_dvd_right (65521 : Int) (x % 65521)
    rw [e] at d2
    obtain ⟨c, hc⟩ := d2
    have e2 : ((65521 : Nat) : Int) = 65521 := rfl
    rw [e2] at hc
    have p1 := Int.emod_nonneg x (show (65521 : Int) ≠ 0 by decide)
    have p2 := Int.emod_lt_of_pos x (show (0 : Int) < 65521 by decide)
    omega
theorem gcd_turn {n m : Int} (h : Int.gcd n m = 1) : Int.gcd m (n - n / m * m) = 1 := by
  rw [Int.gcd_sub_mul_right_right, Int.gcd_comm]
  exact h
/-- the inverse of a word, by what it is -/
noncomputable def invP (x : Int) : Int := open Classical in if h : ∃ b : Int, 0 ≤ b ∧ b < 65521 ∧ x * b % 65521 = 1 then h.choose else 0
theorem inv_unique {x b c : Int} (hb : 0 ≤ b ∧ b < 65521 ∧ x * b % 65521 = 1) (hc : 0 ≤ c ∧ c < 65521 ∧ x * c % 65521 = 1) : b = c := by
  have e1 : b * (x * c) % 65521 = b := by
    rw [Int.mul_emod, hc.2.2, Int.mul_one, Int.emod_emod_of_dvd _ (Int.dvd_refl _), Int.emod_eq_of_lt hb.1 hb.2.1]
  have e2 : c * (x * b) % 65521 = c := by
    rw [Int.mul_emod, hb.2.2, Int.mul_one, Int.emod_emod_of_dvd _ (Int.dvd_refl _), Int.emod_eq_of_lt hc.1 hc.2.1]
  have e3 : b * (x * c) = c * (x * b) := by grind
  rw [← e1, e3, e2]
theorem invP_eq {x b : Int} (h : 0 ≤ b ∧ b < 65521 ∧ x * b % 65521 = 1) : invP x = b := by
  have hx : ∃ b : Int, 0 ≤ b ∧ b < 65521 ∧ x * b % 65521 = 1 := ⟨b, h⟩
  unfold invP
  rw [dif_pos hx]
  exact inv_unique hx.choose_spec h
/-- one turn of Euclid's algorithm -/
theorem euclid_turn {x n m f g : Int} (h1 : (x * f - n) % 65521 = 0) (h2 : (x * g - m) % 65521 = 0) : (x * (f - n / m * g) - (n - n / m * m)) % 65521 = 0 := by
  have e : x * (f - n / m * g) - (n - n / m * m) = (x * f - n) - n / m * (x * g - m) := by grind
  rw [e, Int.sub_emod, h1, Int.mul_emod, h2, Int.mul_zero]
  rfl
theorem euclid_end {x f : Int} (h : (x * f - 1) % 65521 = 0) : 0 ≤ f % 65521 ∧ f % 65521 < 65521 ∧ x * (f % 65521) % 65521 = 1 := by
  refine ⟨Int.emod_nonneg _ (by decide), Int.emod_lt_of_pos _ (by decide), ?_⟩
  have e : x * (f % 65521) % 65521 = x * f % 65521 := by rw [Int.mul_emod, Int.emod_emod_of_dvd _ (Int.dvd_refl _), ← Int.mul_emod]
  rw [e]
  omega
/-- the inverse exists (Euclid, run in the mathematics) -/
theorem inv_ex : ∀ (k : Nat) (x n m f g : Int), m.toNat ≤ k → 0 ≤ m → 0 < n → (x * f - n) % 65521 = 0 → (x * g - m) % 65521 = 0 → Int.gcd n m = 1 → ∃ b : Int, 0 ≤ b ∧ b < 65521 ∧ x * b % 65521 = 1
  | k, x, n, m, f, g, hk, hm, hn, h1, h2, hg => by
    by_cases e : m = 0
    · subst e
      have : n = 1 := by
        rw [Int.gcd_zero_right] at hg
        omega
      subst this
      exact ⟨_, euclid_end h1⟩
    · have hm' : 0 < m := by omega
      match k, hk with
      | 0, hk => omega
      | k + 1, hk =>
        have r : n - n / m * m = n % m := by
          have := Int.mul_ediv_add_emod n m
          rw [Int.mul_comm] at this
          omega
        have r1 := Int.emod_nonneg n (show m ≠ 0 by omega)
        have r2 := Int.emod_lt_of_pos n hm'
        exact inv_ex k x m (n - n / m * m) g (f - n / m * g) (by omega) (by omega) hm' h2 (euclid_turn h1 h2) (gcd_turn hg)
theorem invP_spec {x : Int} (h : x % 65521 ≠ 0) : 0 ≤ invP x ∧ invP x < 65521 ∧ x * invP x % 65521 = 1 := by
  have p1 := Int.emod_nonneg x (show (65521 : Int) ≠ 0 by decide)
  obtain ⟨b, hb⟩ := inv_ex (x % 65521).toNat x 65521 (x % 65521) 0 1 (Nat.le_refl _) p1 (by decide) (by omega) (by omega) (gcd_q x h)
  rw [invP_eq hb]
  exact hb
/-! the field of words -/
def Zp : Type := Fin 65521
instance : Lean.Grind.CommRing Zp := inferInstanceAs (Lean.Grind.CommRing (Fin 65521))
instance : Lean.Grind.IsCharP Zp 65521 := inferInstanceAs (Lean.Grind.IsCharP (Fin 65521) 65521)
instance : DecidableEq Zp := inferInstanceAs (DecidableEq (Fin 65521))
def z (n : Int) : Zp := Lean.Grind.Ring.intCast.intCast n
theorem z_eq {a b : Int} : z a = z b ↔ a % 65521 = b % 65521 := Lean.Grind.IsCharP.intCast_ext_iff (α := Zp) 65521
theorem z_mod (a : Int) : z (a % 65521) = z a := z_eq.mpr (Int.emod_emod_of_dvd _ (Int.dvd_refl _))
theorem z_add (a b : Int) : z (a + b) = z a + z b := Lean.Grind.Ring.intCast_add a b
theorem z_sub (a b : Int) : z (a - b) = z a - z b := Lean.Grind.Ring.intCast_sub a b
theorem z_mul (a b : Int) : z (a * b) = z a * z b := Lean.Grind.Ring.intCast_mul a b
theorem z_neg (a : Int) : z (-a) = -z a := Lean.Grind.Ring.intCast_neg a
theorem z_zero : z 0 = 0 := Lean.Grind.Ring.intCast_zero
theorem z_one : z 1 = 1 := Lean.Grind.Ring.intCast_one
theorem z_z (a : Int) : z a = 0 ↔ a % 65521 = 0 := by
  rw [← z_zero, z_eq]
  rfl
theorem z_inj {a b : Int} (ha : 0 ≤ a) (ha' : a < 65521) (hb : 0 ≤ b) (hb' : b < 65521) (h : z a = z b) : a = b := by
  have := z_eq.mp h
  rw [Int.emod_eq_of_lt ha ha', Int.emod_eq_of_lt hb hb'] at this
  exact this
theorem z_mod_eq {a b : Int} (h : z a = z b) : a % 65521 = b % 65521 := z_eq.mp h
theorem z_surj (x : Zp) : ∃ n : Int, 0 ≤ n ∧ n < 65521 ∧ z n = x := by
  refine ⟨((show Fin 65521 from x).val : Int), by omega, by omega, ?_⟩
  show (Fin.intCast ((show Fin 65521 from x).val : Int) : Fin 65521) = x
  unfold Fin.intCast
  rw [if_pos (by omega), Int.natAbs_natCast]
  exact Fin.ofNat_val_eq_self _
theorem z_invP {n : Int} (h : z n ≠ 0) : z n * z (invP n) = 1 := by
  have h' : n % 65521 ≠ 0 := fun e => h ((z_z n).mpr e)
  obtain ⟨b0, b1, b2⟩ := invP_spec h'
  rw [← z_mul, ← z_one, z_eq]
  exact b2
theorem zp_inv {a : Zp} (h : a ≠ 0) : ∃ b : Zp, a * b = 1 := by
  obtain ⟨n, _, _, rfl⟩ := z_surj a
  exact ⟨_, z_invP h⟩
theorem zp_div {a b : Zp} (h : a * b = 0) : a = 0 ∨ b = 0 := by
  by_cases ha : a = 0
  · exact .inl ha
  · obtain ⟨c, hc⟩ := zp_inv ha
    right
    have : b = c * (a * b) := by grind
    rw [this, h]
    grind
theorem zp_01 : (1 : Zp) ≠ 0 := by
  rw [← z_one, ← z_zero]
  intro h
  have := z_eq.mp h
  omega
theorem zp_mul_ne {a b : Zp} (ha : a ≠ 0) (hb : b ≠ 0) : a * b ≠ 0 := fun h => (zp_div h).elim ha hb
/-! ### functions that are polynomials with n coefficients -/
def Pol : Nat → (Zp → Zp) → Prop
  | 0, f => ∀ x, f x = 0
  | n + 1, f => ∃ (c : Zp) (g : Zp → Zp), Pol n g ∧ ∀ x, f x = c + x * g x
theorem Pol.ext : ∀ {n : Nat} {f g : Zp → Zp}, Pol n f → (∀ x, g x = f x) → Pol n g
  | 0, _, _, h, e => fun x => (e x).trans (h x)
  | _ + 1, _, _, ⟨c, g, h, q⟩, e => ⟨c, g, h, fun x => (e x).trans (q x)⟩
theorem pol_nil : ∀ n : Nat, Pol n fun _ => 0
  | 0 => fun _ => rfl
  | n + 1 => ⟨0, fun _ => 0, pol_nil n, fun x => by grind⟩
theorem Pol.up : ∀ {n : Nat} {f : Zp → Zp}, Pol n f → Pol (n + 1) f
  | 0, f, h => ⟨0, fun _ => 0, fun _ => rfl, fun x => by rw [h x]; grind⟩
  | n + 1, _, ⟨c, g, h, q⟩ => ⟨c, g, h.up, q⟩
theorem Pol.mono {n m : Nat} {f : Zp → Zp} (h : Pol n f) (l : n ≤ m) : Pol m f := by
  induction l with
  | refl => exact h
  | step _ ih => exact ih.up
theorem Pol.add : ∀ {n : Nat} {f g : Zp → Zp}, Pol n f → Pol n g → Pol n fun x => f x + g x
  | 0, f, g, h, k => fun x => by show f x + g x = 0; rw [h x, k x]; grind
  | n + 1, f, g, ⟨c, u, h, p⟩, ⟨d, v, k, q⟩ => ⟨c + d, fun x => u x + v x, Pol.add h k, fun x => by show f x + g x = _; rw [p x, q x]; grind⟩
theorem Pol.smul : ∀ {n : Nat} {f : Zp → Zp} (a : Zp), Pol n f → Pol n fun x => f x * a
  | 0, f, a, h => fun x => by show f x * a = 0; rw [h x]; grind
  | n + 1, f, a, ⟨c, u, h, p⟩ => ⟨c * a, fun x => u x * a, Pol.smul a h, fun x => by show f x * a = _; rw [p x]; grind⟩
theorem Pol.const (c : Zp) : Pol 1 fun _ => c := ⟨c, fun _ => 0, fun _ => rfl, fun x => by grind⟩
theorem Pol.xmul {n : Nat} {f : Zp → Zp} (h : Pol n f) : Pol (n + 1) fun x => x * f x := ⟨0, f, h, fun x => by grind⟩
theorem Pol.lin {n : Nat} {f : Zp → Zp} (a : Zp) (h : Pol n f) : Pol (n + 1) fun x => (x - a) * f x :=
  (h.xmul.add (h.up.smul (-a))).ext fun x => by grind
theorem Pol.sub {n : Nat} {f g : Zp → Zp} (h : Pol n f) (k : Pol n g) : Pol n fun x => f x - g x :=
  (h.add (k.smul (-1))).ext fun x => by grind
/-- a polynomial less its value at a is a multiple of x - a -/
theorem Pol.at : ∀ {n : Nat} {f : Zp → Zp} (a : Zp), Pol (n + 1) f → ∃ g, Pol n g ∧ ∀ x, f x = f a + (x - a) * g x
  | 0, f, a, ⟨c, g, h, q⟩ => ⟨fun _ => 0, fun _ => rfl, fun x => by rw [q x, q a, h x, h a]; grind⟩
  | n + 1, f, a, ⟨c, g, h, q⟩ => by
    obtain ⟨k, hk, e⟩ := Pol.at a h
    refine ⟨fun x => g a + x * k x, ⟨g a, k, hk, fun _ => rfl⟩, fun x => ?_⟩
    have e1 := e x
    rw [q x, q a]
    grind
/-- as many zeros as coefficients: it is zero -/
theorem Pol.roots : ∀ {n : Nat} {f : Zp → Zp} (xs : List Zp), Pol n f → xs.Nodup → n ≤ xs.length → (∀ a ∈ xs, f a = 0) → ∀ x, f x = 0
  | 0, _, _, h, _, _, _ => h
  | n + 1, f, [], _, _, hl, _ => absurd hl (by simp)
  | n + 1, f, a :: r, h, hn, hl, hz => by
    obtain ⟨g, hg, e⟩ := Pol.at a h
    have ha : f a = 0 := hz a (by simp)
    have hn' := List.nodup_cons.mp hn
    have g0 : ∀ x, g x = 0 := Pol.roots r hg hn'.2 (by simpa using hl) fun b hb => by
      have hb0 := hz b (List.mem_cons_of_mem _ hb)
      rw [e b, ha] at hb0
      have : (b - a) * g b = 0 := by grind
      rcases zp_div this with q | q
      · exfalso
        have : b = a := by grind
        exact hn'.1 (this ▸ hb)
      · exact q
    intro x
    rw [e x, ha, g0 x]
    grind
/-! ### products of differences -/
def prodZ : List Int → Zp → Zp
  | [], _ => 1
  | o :: os, x => (x - z o) * prodZ os x
theorem prodZ_pol : ∀ os : List Int, Pol (os.length + 1) (prodZ os)
  | [] => (Pol.const 1).ext fun _ => rfl
  | o :: os => (Pol.lin (z o) (prodZ_pol os)).ext fun _ => rfl
theorem prodZ_root {o : Int} {x : Zp} : ∀ {os : List Int}, o ∈ os → x = z o → prodZ os x = 0
  | [], h, _ => by simp at h
  | p :: os, h, e => by
    show (x - z p) * prodZ os x = 0
    rcases List.mem_cons.mp h with q | q
    · rw [e, q]
      grind
    · rw [prodZ_root q e]
      grind
theorem prodZ_ne {x : Zp} : ∀ {os : List Int}, (∀ o ∈ os, x ≠ z o) → prodZ os x ≠ 0
  | [], _ => zp_01
  | p :: os, h => by
    refine zp_mul_ne (fun e => h p (by simp) ?_) (prodZ_ne fun o ho => h o (List.mem_cons_of_mem _ ho))
    grind
/-- as the program multiplies -/
def prodM (os : List Int) (x acc : Int) : Int := os.foldl (fun acc o => acc * (x - o) % 65521) acc
theorem prodM_z : ∀ (os : List Int) (x acc : Int), z (prodM os x acc) = z acc * prodZ os (z x)
  | [], x, acc => by
    show z acc = z acc * 1
    grind
  | o :: os, x, acc => by
    show z (prodM os x (acc * (x - o) % 65521)) = z acc * ((z x - z o) * prodZ os (z x))
    rw [prodM_z os x, z_mod, z_mul, z_sub]
    grind
theorem prodM_word : ∀ (os : List Int) (x acc : Int), 0 ≤ acc → acc < 65521 → 0 ≤ prodM os x acc ∧ prodM os x acc < 65521
  | [], _, _, h0, h1 => ⟨h0, h1⟩
  | o :: os, x, acc, _, _ => prodM_word os x _ (Int.emod_nonneg _ (by decide)) (Int.emod_lt_of_pos _ (by decide))
theorem prodM_snoc (os : List Int) (o x acc : Int) : prodM (os ++ [o]) x acc = prodM os x acc * (x - o) % 65521 := by
  unfold prodM
  rw [List.foldl_append]
  rfl
/-- a place's factor -/
noncomputable def wgt (p : Int) (os : List Int) (x : Int) : Int := prodM os x 1 * invP (prodM os p 1) % 65521
theorem wgt_word (p : Int) (os : List Int) (x : Int) : 0 ≤ wgt p os x ∧ wgt p os x < 65521 := ⟨Int.emod_nonneg _ (by decide), Int.emod_lt_of_pos _ (by decide)⟩
theorem wgt_z (p : Int) (os : List Int) (x : Int) : z (wgt p os x) = prodZ os (z x) * z (invP (prodM os p 1)) := by
  unfold wgt
  rw [z_mod, z_mul, prodM_z, z_one]
  grind
theorem wgt_ok {p : Int} {os : List Int} (h : ∀ o ∈ os, z p ≠ z o) : prodM os p 1 % 65521 ≠ 0 := fun e => by
  have := (z_z _).mpr e
  rw [prodM_z, z_one] at this
  refine prodZ_ne h ?_
  grind
/-- all places but the i-th -/
def others (ws : List Int) (i : Nat) : List Int := ws.take i ++ ws.drop (i + 1)
noncomputable def weightsM (ws : List Int) (x : Int) : List Int := (List.range ws.length).map fun i => wgt (ws.getD i 0) (others ws i) x
theorem weightsM_length (ws : List Int) (x : Int) : (weightsM ws x).length = ws.length := by simp [weightsM]
theorem weightsM_get {ws : List Int} {x : Int} {i : Nat} (h : i < ws.length) : (weightsM ws x)[i]? = some (wgt (ws.getD i 0) (others ws i) x) := by
  unfold weightsM
  rw [List.getElem?_map, List.getElem?_range h]
  rfl
/-- no two places are equal modulo the prime -/
def Apart (ws : List Int) : Prop := (ws.map z).Nodup
theorem apart_ne {ws : List Int} (h : Apart ws) {i j : Nat} (hi : i < ws.length) (hj : j < ws.length) (n : i ≠ j) : z (ws.getD i 0) ≠ z (ws.getD j 0) := fun e => by
  refine n ((List.getElem_inj (xs := ws.map z) (h₀ := by simpa using hi) (h₁ := by simpa using hj) h).mp ?_)
  rw [List.getElem_map, List.getElem_map]
  simpa [List.getD_eq_getElem?_getD, hi, hj] using e
theorem mem_others {ws : List Int} {i : Nat} {o : Int} : o ∈ others ws i ↔ ∃ j, j < ws.length ∧ j ≠ i ∧ o = ws.getD j 0 := by
  unfold others
  rw [List.mem_append, List.mem_iff_getElem?, List.mem_iff_getElem?]
  constructor
  · rintro (⟨j, h⟩ | ⟨j, h⟩)
    · rw [List.getElem?_take] at h
      by_cases c : j < i
      · rw [if_pos c] at h
        obtain ⟨hl, e⟩ := List.getElem?_eq_some_iff.mp h
        exact ⟨j, hl, by omega, by simp [List.getD_eq_getElem?_getD, hl, e]⟩
      · rw [if_neg c] at h
        cases h
    · rw [List.getElem?_drop] at h
      obtain ⟨hl, e⟩ := List.getElem?_eq_some_iff.mp h
      exact ⟨_, hl, by omega, by simp [List.getD_eq_getElem?_getD, hl, e]⟩
  · rintro ⟨j, hl, n, rfl⟩
    by_cases c : j < i
    · exact .inl ⟨j, by rw [List.getElem?_take, if_pos c, List.getElem?_eq_getElem hl]; simp [List.getD_eq_getElem?_getD, hl]⟩
    · refine .inr ⟨j - (i + 1), ?_⟩
      rw [List.getElem?_drop, show i + 1 + (j - (i + 1)) = j by omega, List.getElem?_eq_getElem hl]
      simp [List.getD_eq_getElem?_getD, hl]
theorem others_length {ws : List Int} {i : Nat} (h : i < ws.length) : (others ws i).length + 1 = ws.length := by
  unfold others
  rw [List.length_append, List.length_take, List.length_drop]
  omega
theorem others_apart {ws : List Int} (h : Apart ws) {i : Nat} (hi : i < ws.length) : ∀ o ∈ others ws i, z (ws.getD i 0) ≠ z o := fun o ho => by
  obtain ⟨j, hl, n, rfl⟩ := mem_others.mp ho
  exact apart_ne h hi hl (Ne.symm n)
/-! ### sums -/
def sumR : Nat → (Nat → Zp) → Zp
  | 0, _ => 0
  | n + 1, g => sumR n g + g n
theorem sumR_ext : ∀ {n : Nat} {f g : Nat → Zp}, (∀ i, i < n → f i = g i) → sumR n f = sumR n g
  | 0, _, _, _ => rfl
  | n + 1, f, g, h => by
    show sumR n f + f n = sumR n g + g n
    rw [sumR_ext fun i hi => h i (by omega), h n (by omega)]
theorem sumR_zero : ∀ {n : Nat} {f : Nat → Zp}, (∀ i, i < n → f i = 0) → sumR n f = 0
  | 0, _, _ => rfl
  | n + 1, f, h => by
    show sumR n f + f n = 0
    rw [sumR_zero fun i hi => h i (by omega), h n (by omega)]
    grind
theorem sumR_one : ∀ {n : Nat} {f : Nat → Zp} {j : Nat}, j < n → (∀ i, i < n → i ≠ j → f i = 0) → sumR n f = f j
  | n + 1, f, j, hj, h => by
    show sumR n f + f n = f j
    by_cases c : j = n
    · subst c
      rw [sumR_zero fun i hi => h i (by omega) (by omega)]
      grind
    · rw [sumR_one (j := j) (by omega) fun i hi n' => h i (by omega) n', h n (by omega) (by omega)]
      grind
theorem sumR_pol {m : Nat} : ∀ {n : Nat} {F : Nat → Zp → Zp}, (∀ i, i < n → Pol m (F i)) → Pol m fun x => sumR n fun i => F i x
  | 0, _, _ => (pol_nil m).ext fun _ => rfl
  | n + 1, F, h => (Pol.add (sumR_pol (n := n) fun i hi => h i (by omega)) (h n (by omega))).ext fun _ => rfl
/-- the sum of factors times values -/
def dotR (us vs : List Int) : Int := ((List.range us.length).map fun i => us.getD i 0 * vs.getD i 0).sum
theorem sum_range_z : ∀ (n : Nat) (f : Nat → Int), z ((List.range n).map f).sum = sumR n fun i => z (f i)
  | 0, _ => z_zero
  | n + 1, f => by
    rw [List.range_succ, List.map_append, List.sum_append, z_add, sum_range_z n f]
    show _ + z ((f n) + 0) = _
    rw [Int.add_zero]
    rfl
theorem dotR_z (us vs : List Int) : z (dotR us vs) = sumR us.length fun i => z (us.getD i 0) * z (vs.getD i 0) := by
  unfold dotR
  rw [sum_range_z]
  exact sumR_ext fun i _ => z_mul _ _
/-- the value at x, as the program reckons it -/
noncomputable def valM (ws ys : List Int) (x : Int) : Int := dotR (weightsM ws x) ys % 65521
theorem valM_word (ws ys : List Int) (x : Int) : 0 ≤ valM ws ys x ∧ valM ws ys x < 65521 := ⟨Int.emod_nonneg _ (by decide), Int.emod_lt_of_pos _ (by decide)⟩
theorem valM_z (ws ys : List Int) (x : Int) : z (valM ws ys x) = sumR ws.length fun i => prodZ (others ws i) (z x) * (z (invP (prodM (others ws i) (ws.getD i 0) 1)) * z (ys.getD i 0)) := by
  unfold valM
  rw [z_mod, dotR_z, weightsM_length]
  refine sumR_ext fun i hi => ?_
  have e : (weightsM ws x).getD i 0 = wgt (ws.getD i 0) (others ws i) x := by rw [List.getD_eq_getElem?_getD, weightsM_get hi]; rfl
  rw [e, wgt_z]
  grind
/-- at a place it is the point's own value -/
theorem valM_node {ws ys : List Int} (h : Apart ws) {x : Int} {j : Nat} (hj : j < ws.length) (e : z x = z (ws.getD j 0)) : z (valM ws ys x) = z (ys.getD j 0) := by
  rw [valM_z, sumR_one hj fun i hi n => ?_]
  · have p := others_apart h hj
    have q := wgt_ok p
    have r : z (prodM (others ws j) (ws.getD j 0) 1) * z (invP (prodM (others ws j) (ws.getD j 0) 1)) = 1 := z_invP fun e => q ((z_z _).mp e)
    rw [prodM_z, z_one] at r
    rw [e]
    grind
  · rw [prodZ_root (mem_others.mpr ⟨j, hj, Ne.symm n, rfl⟩) e]
    grind
/-- the values of a polynomial at the places give its value anywhere -/
theorem valM_pol {ws ys : List Int} (h : Apart ws) {f : Zp → Zp} (hf : Pol ws.length f) (hy : ∀ i, i < ws.length → z (ys.getD i 0) = f (z (ws.getD i 0))) (x : Int) : z (valM ws ys x) = f (z x) := by
  have P : Pol ws.length fun x => (sumR ws.length fun i => prodZ (others ws i) x * (z (invP (prodM (others ws i) (ws.getD i 0) 1)) * z (ys.getD i 0))) - f x := by
    refine Pol.sub (sumR_pol fun i hi => Pol.smul _ ?_) hf
    have := prodZ_pol (others ws i)
    rw [others_length hi] at this
    exact this
  have R := Pol.roots (ws.map z) P h (by simp) (fun a ha => ?_) (z x)
  · rw [valM_z]
    have R' : (sumR ws.length fun i => prodZ (others ws i) (z x) * (z (invP (prodM (others ws i) (ws.getD i 0) 1)) * z (ys.getD i 0))) - f (z x) = 0 := R
    grind
  · obtain ⟨p, hp, rfl⟩ := List.mem_map.mp ha
    obtain ⟨j, hj⟩ := List.mem_iff_getElem?.mp hp
    obtain ⟨hl, e⟩ := List.getElem?_eq_some_iff.mp hj
    have ep : ws.getD j 0 = p := by simp [List.getD_eq_getElem?_getD, hl, e]
    have v := valM_node (ys := ys) h (x := p) hl (by rw [ep])
    rw [valM_z, hy j hl, ep] at v
    show (sumR ws.length fun i => prodZ (others ws i) (z p) * (z (invP (prodM (others ws i) (ws.getD i 0) 1)) * z (ys.getD i 0))) - f (z p) = 0
    rw [v]
    grind
/-! len(set(xs)) of a list of ints, equal ones among them too -/
/-- how many unlike numbers there are -/
def unlike (ns : List Int) : Nat := (PyProof.Rows.firstMet (fun i => ns.getD i 0) ns.length).length
theorem unlike_full {ns : List Int} (h : ns.Nodup) : unlike ns = ns.length := by
  unfold unlike
  rw [RZ.firstMet_nodup h ns.length (Nat.le_refl _), List.take_length]
theorem firstMet_short {val : Nat → Int} {j k : Nat} (hjk : j < k) (e : val j = val k) : ∀ m, k < m → (PyProof.Rows.firstMet val m).length < m
  | 0, h => absurd h (by omega)
  | m + 1, h => by
    rw [PyProof.Rows.firstMet_succ, PyProof.Rows.step_length]
    have le := PyProof.Rows.firstMet_length_le val m
    by_cases c : k = m
    · subst c
      have y : (PyProof.Rows.firstMet val k).any (· == val k) = true := by
        rw [PyProof.Rows.firstMet_any]
        exact List.any_eq_true.mpr ⟨val j, List.mem_map.mpr ⟨j, List.mem_range.mpr hjk, rfl⟩, by simp [e]⟩
      rw [y, if_pos rfl]
      omega
    · have ih := firstMet_short hjk e m (by omega)
      split <;> omega
theorem unlike_short {ns : List Int} (h : ¬ ns.Nodup) : unlike ns < ns.length := by
  have : ∃ j k, j < k ∧ k < ns.length ∧ ns.getD j 0 = ns.getD k 0 := Classical.byContradiction fun q => h <| List.pairwise_iff_getElem.mpr fun i j hi hj hij e =>
    q ⟨i, j, hij, hj, by simp [List.getD_eq_getElem?_getD, hi, hj, e]⟩
  obtain ⟨j, k, hjk, hk, e⟩ := this
  exact firstMet_short hjk e _ hk
def tUnlike (K : PySem.W.Frag) (ta : TE) : TE := fun σ H Q => ta σ H fun x H1 => ∃ (l : Addr) (ns : List Int), x = .ref l ∧ SqL K H1 l (ns.map V.int) ∧ ns.length ≤ 1000 ∧ Q (.int (unlike ns : Nat)) H1
section
open PySem.Spec PyProof.Rows
theorem pe_unlike {X : Cx} {e0 : Expr} {t0 : TE} {pa pb pc pd : Pos} (g1 : Gl X "len") (m1 : X.mg "len" = none) (g2 : Gl X "set") (m2 : X.mg "set" = none) (he : PE X e0 t0) (calm : X.calm = true := by rfl)
    (st : starEach [e0] X.env = (false, eval e0 X.env) :: starEach [] X.env := by rfl) : PE X (.Call (.Name "len" pa) [.Call (.Name "set" pb) [e0] [] pc] [] pd) (tUnlike X.K t0) := ⟨fun pins s σ H Q I h => by
  refine Call_ (ld_blt I g1 m1 boot_len (callWith_builtin1 (args_cons (Call_ (ld_blt I g2 m2 boot_set ?_)) rfl) rfl rfl))
  refine callWith_type1 (args_cons (thn (he.run pins s σ H _ I h) fun v sv hv => args_nil ?_) st) st rfl
  obtain ⟨x, H1, J, r1, l, ns, rfl, hq, hl, q1⟩ := hv
  cases r1
  obtain ⟨its, r, pl, _⟩ := J.list hq
  have sz : its.toArray.size = ns.length := by rw [List.size_toArray, ← r.length, List.length_map]
  refine call_set_list (J.ok.hd calm) pl.isList (by simpa using RZ.intsAre_vals r) (by rw [sz]; unfold scanBound; omega) fun h' tk hS hk => args_nil ?_
  rw [sz] at hS
  obtain ⟨o, es, ep, t, ho, hex, hd, _, _, _, hf, hn⟩ := hS
  have J2 : Inv X pins σ H1 { sv with heap := h', toks := tk } := J.kept fun b o z => hk b o (Heap.lt_size z) z
  have le : unlike ns ≤ ns.length := firstMet_length_le _ _
  have hn' : es.size = unlike ns := hn
  exact call_len_set ho hex hd hf (by rw [hn']; omega) ⟨.int (unlike ns : Nat), H1, J2.tok _, ⟨_, by rw [hn']⟩, q1⟩⟩
end
/-! heaps, slices, points -/
theorem _root_.L2.Same.tup {K : PySem.W.Frag} {H H' : Hp} {a : Addr} {xs : List V} (e : Same H H') (h : SqT K H a xs) : SqT K H' a xs := by
  rcases h with (h | ⟨o, h⟩) | h
  · exact .inl (.inl (e _ _ h))
  · exact .inl (.inr ⟨o, e _ _ h⟩)
  · exact .inr h
theorem _root_.L2.Same.new {H : Hp} {p : Addr} {o : HO} (h : H p = none) : Same H (upd H p o) := fun _ _ e => by
  rw [upd_ne (ne_of_none e h)]
  exact e
/-- what was tracked is as it was, but for p -/
def But (p : Addr) (H H' : Hp) : Prop := ∀ b o, H b = some o → b ≠ p → H' b = some o
theorem Only.but {p : Addr} {H H' : Hp} (h : Only p H H') : But p H H' := fun b _ e n => (h b n).trans e
theorem _root_.L2.Same.but {p : Addr} {H H' : Hp} (h : Same H H') : But p H H' := fun b o e _ => h b o e
theorem But.trans {p : Addr} {H H1 H2 : Hp} (x : But p H H1) (y : But p H1 H2) : But p H H2 := fun b o e n => y b o (x b o e n) n
theorem But.same {p : Addr} {H0 H H' : Hp} (y : But p H H') (x : Same H0 H) (h : H0 p = none) : Same H0 H' := fun b o e => y b o (x b o e) (ne_of_none e h)
theorem But.new {p q : Addr} {H H' : Hp} {o : HO} (x : But p H H') (h : H' q = none) : But p H (upd H' q o) := x.trans (Same.new h).but
theorem _root_.L2.Same.at {H H' : Hp} {b : Addr} {o : HO} (s : Same H H') (e : H b = some o) : H' b = some o := s b o e
theorem cut_take (xs : List V) (i : Nat) : cutV xs none (some (i : Int)) = xs.take i := by
  unfold cutV
  rw [HT.sIx_none, HT.sIx_nat, List.drop_zero, Nat.sub_zero]
  by_cases h : i ≤ xs.length
  · rw [Nat.min_eq_left h]
  · rw [Nat.min_eq_right (by omega), List.take_of_length_le (by omega), List.take_of_length_le (by omega)]
theorem cut_drop (xs : List V) (i : Nat) : cutV xs (some (i : Int)) none = xs.drop i := by
  unfold cutV
  rw [HT.sIx_none, HT.sIx_nat]
  by_cases h : i ≤ xs.length
  · rw [Nat.min_eq_left h, List.take_of_length_le (by rw [List.length_drop]; omega)]
  · rw [Nat.min_eq_right (by omega), List.drop_of_length_le (by omega), List.drop_of_length_le (by omega), List.take_nil]
theorem take_snoc {α : Type} {l : List α} {i : Nat} {x : α} (h : l[i]? = some x) : l.take (i + 1) = l.take i ++ [x] := by
  rw [List.take_add_one, h]
  rfl
theorem item_lt {α : Type} {l : List α} {i : Nat} {x : α} (h : l[i]? = some x) : i < l.length := (List.getElem?_eq_some_iff.mp h).1
theorem small (n : Nat) (h : n ≤ 1000) : n < sizeLine := Nat.lt_of_le_of_lt h (by decide)
theorem getD_item {α : Type} {l : List α} {i : Nat} {x d : α} (h : l[i]? = some x) : l.getD i d = x := by rw [List.getD_eq_getElem?_getD, h]; rfl
/-! data: == of lists of ints, of pairs -/
theorem eqvAll_ints : ∀ xs ys : List Int, PyData.eqvAll (xs.map .int) (ys.map .int) = decide (xs = ys)
  | [], [] => by simp [PyData.eqvAll]
  | [], _ :: _ => by simp [PyData.eqvAll]
  | _ :: _, [] => by simp [PyData.eqvAll]
  | x :: xs, y :: ys => by
    simp only [List.map_cons, PyData.eqvAll, PyData.eqv, eqvAll_ints xs ys]
    by_cases h : x = y <;> by_cases k : xs = ys <;> simp [h, k]
theorem canLayAll_ints : ∀ xs : List Int, PyData.canLayAll0 (xs.map .int) = true
  | [] => rfl
  | x :: xs => by simp [PyData.canLayAll0, PyData.canLay0, canLayAll_ints xs]
theorem depthAll_ints : ∀ xs : List Int, PyData.depthAll (xs.map .int) = 0
  | [] => rfl
  | x :: xs => by simp [PyData.depthAll, PyData.depth, depthAll_ints xs]
theorem shaped_ints (xs : List Int) : SeqAt.shaped (.list (xs.map .int)) = true := by
  simp [SeqAt.shaped, PyData.canLay0, canLayAll_ints, PyData.depth, depthAll_ints]
theorem dpAll_ints {K : PySem.W.Frag} {H : Hp} : ∀ xs : List Int, DpAll K H (xs.map V.int) (xs.map .int)
  | [] => .nil
  | x :: xs => .cons (.int x) (dpAll_ints xs)
theorem dp_ints {K : PySem.W.Frag} {H : Hp} {a : Addr} {xs : List Int} (h : SqL K H a (xs.map V.int)) : Dp K H (.ref a) (.list (xs.map .int)) := .lst h (dpAll_ints xs)
theorem eqv_ints (xs ys : List Int) : PyData.eqv (.list (xs.map .int)) (.list (ys.map .int)) = decide (xs = ys) := by
  simp only [PyData.eqv]
  exact eqvAll_ints xs ys
/-- a list of pairs of ints stands at p -/
def PtsAt (K : PySem.W.Frag) (H : Hp) (p : Addr) (ps : List (Int × Int)) : Prop := ∃ L : List (Addr × Int × Int), SqL K H p (L.map fun e => V.ref e.1) ∧ L.map (·.2) = ps ∧ ∀ e ∈ L, SqT K H e.1 [.int e.2.1, .int e.2.2]
theorem PtsAt.same {K : PySem.W.Frag} {H H' : Hp} {p : Addr} {ps : List (Int × Int)} (h : PtsAt K H p ps) (s : Same H H') : PtsAt K H' p ps := by
  obtain ⟨L, h1, h2, h3⟩ := h
  exact ⟨L, s.seq h1, h2, fun e m => s.tup (h3 e m)⟩
theorem PtsAt.old {K : PySem.W.Frag} {H : Hp} {p : Addr} {ps : List (Int × Int)} (h : PtsAt K H p ps) : ∃ as : List Addr, SqL K H p (as.map V.ref) ∧ as.length = ps.length ∧
    ∀ (i : Nat) (t : Addr) (q : Int × Int), as[i]? = some t → ps[i]? = some q → SqT K H t [.int q.1, .int q.2] := by
  obtain ⟨L, h1, rfl, h3⟩ := h
  refine ⟨L.map (·.1), by rw [List.map_map]; exact h1, by simp, fun i t q a b => ?_⟩
  rw [List.getElem?_map] at a b
  cases e : L[i]? with
  | none => rw [e] at a; cases a
  | some u =>
    rw [e] at a b
    cases a
    cases b
    exact h3 u (List.mem_of_getElem? e)
/-- an item of the list: a pair -/
theorem pts_item {K : PySem.W.Frag} {H : Hp} {as : List Addr} {ps : List (Int × Int)} (hl : as.length = ps.length) (h : ∀ (i : Nat) (t : Addr) (q : Int × Int), as[i]? = some t → ps[i]? = some q → SqT K H t [.int q.1, .int q.2])
    {i : Nat} {y : V} (hi : (as.map V.ref)[i]? = some y) : ∃ t q, y = .ref t ∧ as[i]? = some t ∧ ps[i]? = some q ∧ SqT K H t [.int q.1, .int q.2] := by
  rw [List.getElem?_map] at hi
  cases e : as[i]? with
  | none => rw [e] at hi; cases hi
  | some t =>
    rw [e] at hi
    have lt := item_lt e
    have e2 : ps[i]? = some ps[i] := List.getElem?_eq_getElem (by omega)
    exact ⟨t, _, (Option.some.inj hi).symm, rfl, e2, h i t _ e e2⟩
theorem words_apart {ps : List Int} : (ps.map (· % 65521)).Nodup ↔ Apart ps := by
  unfold Apart List.Nodup
  rw [List.pairwise_map, List.pairwise_map]
  constructor
  · intro h
    exact h.imp fun {a b} n e => n (z_mod_eq e)
  · intro h
    exact h.imp fun {a b} n e => n (z_eq.mpr e)
theorem apart_words {ps : List Int} : Apart (ps.map (· % 65521)) ↔ Apart ps := by
  unfold Apart
  rw [List.map_map, show (z ∘ fun x : Int => x % 65521) = z from funext fun a => z_mod a]
/-- data of pairs -/
def pairD (q : Int × Int) : PyData := .tuple [.int q.1, .int q.2]
theorem pairs_data : ∀ ps : List (Int × Int), PyData.canLayAll0 (ps.map pairD) = true ∧ PyData.depthAll (ps.map pairD) ≤ 1 ∧ PyData.eqvAll (ps.map pairD) (ps.map pairD) = true
  | [] => ⟨rfl, Nat.zero_le _, by simp [PyData.eqvAll]⟩
  | q :: ps => by
    obtain ⟨h1, h2, h3⟩ := pairs_data ps
    refine ⟨by simp [PyData.canLayAll0, PyData.canLay0, pairD, h1], ?_, by simp [PyData.eqvAll, PyData.eqv, pairD, h3]⟩
    simp only [List.map_cons, PyData.depthAll, pairD, PyData.depth]
    omega
theorem pairs_shaped (ps : List (Int × Int)) : SeqAt.shaped (.list (ps.map pairD)) = true := by
  obtain ⟨h1, h2, _⟩ := pairs_data ps
  have e : PyData.depth (.list (ps.map pairD)) = PyData.depthAll (ps.map pairD) + 1 := by simp only [PyData.depth]
  unfold SeqAt.shaped
  rw [Bool.and_eq_true]
  exact ⟨by simp only [PyData.canLay0]; exact h1, decide_eq_true (by rw [e]; omega)⟩
theorem pairs_eqv (ps : List (Int × Int)) : PyData.eqv (.list (ps.map pairD)) (.list (ps.map pairD)) = true := by
  simp only [PyData.eqv]
  exact (pairs_data ps).2.2
theorem PtsAt.dp {K : PySem.W.Frag} {H : Hp} {p : Addr} {ps : List (Int × Int)} (h : PtsAt K H p ps) : Dp K H (.ref p) (.list (ps.map pairD)) := by
  obtain ⟨L, h1, rfl, h3⟩ := h
  refine .lst h1 ?_
  have : ∀ M : List (Addr × Int × Int), (∀ e ∈ M, SqT K H e.1 [.int e.2.1, .int e.2.2]) → DpAll K H (M.map fun e => V.ref e.1) ((M.map (·.2)).map pairD) := by
    intro M
    induction M with
    | nil => intro _; exact .nil
    | cons e M ih => exact fun g => .cons (.tup (g e (by simp)) (.cons (.int _) (.cons (.int _) .nil))) (ih fun u m => g u (List.mem_cons_of_mem _ m))
  exact this L h3
/-- where things stand -/
structure Ad where
  f_inverse : Addr
  d_inverse : FuncData
  f_distinct_places : Addr
  d_distinct_places : FuncData
  f_weight : Addr
  d_weight : FuncData
  f_weights : Addr
  d_weights : FuncData
  f_value_at : Addr
  d_value_at : FuncData
  f_law_pot : Addr
  d_law_pot : FuncData
  f_law_next : Addr
  d_law_next : FuncData
  f_law_is_int : Addr
  d_law_is_int : FuncData
  f_law_refused : Addr
  d_law_refused : FuncData
  f_law_places : Addr
  d_law_places : FuncData
  f_law : Addr
  d_law : FuncData
  c_PoolError : Addr
  c_InvalidArgument : Addr
/-- what the top has written -/
structure Txt (K : PySem.W.Frag) (mg : Str → Option Value) (a : Ad) : Prop where
  F_inverse : Fun K "inverse" "inverse" s_inverse a.f_inverse a.d_inverse
  g_inverse : mg "inverse" = some (.ref a.f_inverse)
  d_inverse : Binds K a.d_inverse ["a"] []
  F_distinct_places : Fun K "distinct_places" "distinct_places" s_distinct_places a.f_distinct_places a.d_distinct_places
  g_distinct_places : mg "distinct_places" = some (.ref a.f_distinct_places)
  d_distinct_places : Binds K a.d_distinct_places ["points"] []
  F_weight : Fun K "weight" "weight" s_weight a.f_weight a.d_weight
  g_weight : mg "weight" = some (.ref a.f_weight)
  d_weight : Binds K a.d_weight ["place", "others", "x"] []
  F_weights : Fun K "weights" "weights" s_weights a.f_weights a.d_weights
  g_weights : mg "weights" = some (.ref a.f_weights)
  d_weights : Binds K a.d_weights ["places", "x"] []
  F_value_at : Fun K "value_at" "value_at" s_value_at a.f_value_at a.d_value_at
  g_value_at : mg "value_at" = some (.ref a.f_value_at)
  d_value_at : Binds K a.d_value_at ["points", "x"] []
  F_law_pot : Fun K "_law_pot" "_law_pot" s_law_pot a.f_law_pot a.d_law_pot
  g_law_pot : mg "_law_pot" = some (.ref a.f_law_pot)
  d_law_pot : Binds K a.d_law_pot ["script"] []
  F_law_next : Fun K "_law_next" "_law_next" s_law_next a.f_law_next a.d_law_next
  g_law_next : mg "_law_next" = some (.ref a.f_law_next)
  d_law_next : Binds K a.d_law_next ["pot", "limit"] []
  F_law_is_int : Fun K "_law_is_int" "_law_is_int" s_law_is_int a.f_law_is_int a.d_law_is_int
  g_law_is_int : mg "_law_is_int" = some (.ref a.f_law_is_int)
  d_law_is_int : Binds K a.d_law_is_int ["value"] []
  F_law_refused : Fun K "_law_refused" "_law_refused" s_law_refused a.f_law_refused a.d_law_refused
  g_law_refused : mg "_law_refused" = some (.ref a.f_law_refused)
  d_law_refused : Binds K a.d_law_refused ["points", "x"] []
  F_law_places : Fun K "_law_places" "_law_places" s_law_places a.f_law_places a.d_law_places
  g_law_places : mg "_law_places" = some (.ref a.f_law_places)
  d_law_places : Binds K a.d_law_places ["pot", "count"] []
  F_law : Fun K "law" "law" s_law a.f_law a.d_law
  g_law : mg "law" = some (.ref a.f_law)
  d_law : Binds K a.d_law ["script"] []
  g_PRIME : ∃ u, mg "PRIME" = some u ∧ RelV (.int 65521) u
  n_len : mg "len" = none
  n_set : mg "set" = none
  n_enumerate : mg "enumerate" = none
  n_sum : mg "sum" = none
  n_zip : mg "zip" = none
  n_list : mg "list" = none
  n_int : mg "int" = none
  n_abs : mg "abs" = none
  n_isinstance : mg "isinstance" = none
  n_bool : mg "bool" = none
  n_range : mg "range" = none
  g_PoolError : mg "PoolError" = some (.ref a.c_PoolError)
  x_PoolError : PySem.W.excIn K a.c_PoolError [.type "ValueError", .type "Exception", .type "BaseException", .type "object"] "ValueError.__new__" = true
  k_PoolError : PySem.W.keepIn K (.ref a.c_PoolError) = true
  b_PoolError : PySem.W.subIn K (.ref a.c_PoolError) (.type "BaseException") = some true
  t_PoolError : PySem.W.typeIn K (.ref a.c_PoolError) = some (.type "type")
  E_PoolError : ExcC K a.c_PoolError
  g_InvalidArgument : mg "InvalidArgument" = some (.ref a.c_InvalidArgument)
  x_InvalidArgument : PySem.W.excIn K a.c_InvalidArgument [.type "ValueError", .type "Exception", .type "BaseException", .type "object"] "ValueError.__new__" = true
  k_InvalidArgument : PySem.W.keepIn K (.ref a.c_InvalidArgument) = true
  b_InvalidArgument : PySem.W.subIn K (.ref a.c_InvalidArgument) (.type "BaseException") = some true
  t_InvalidArgument : PySem.W.typeIn K (.ref a.c_InvalidArgument) = some (.type "type")
  E_InvalidArgument : ExcC K a.c_InvalidArgument
  u_InvalidArgument_PoolError : PySem.W.exmOne K (.ref a.c_InvalidArgument) (.ref a.c_PoolError) = some true
  i_InvalidArgument_InvalidArgument : PySem.W.kitOne K (.ref a.c_InvalidArgument) (.ref a.c_InvalidArgument) = some true
/-! the promises -/
/-! the draws: a list of the script, a place in it, a rest, a seed -/
/-- at p stands a pot, its script's list at l -/
def Pot (H : Hp) (p l : Addr) : Prop := ∃ (ns : List Int) (i acc seed : Int), H p = some (.lst [.ref l, .int i, .int acc, .int seed]) ∧ H l = some (.lst (ns.map V.int)) ∧ 0 ≤ i ∧ 0 ≤ acc ∧ 0 ≤ seed ∧ seed < 2147483647
theorem Pot.ne {H : Hp} {p l : Addr} (h : Pot H p l) : l ≠ p := by
  obtain ⟨ns, i, acc, seed, h1, h2, _⟩ := h
  refine ne_of h2 h1 fun e => ?_
  have e1 := HO.lst.inj e
  cases ns with
  | nil => cases e1
  | cons a r => rw [List.map_cons] at e1; injection e1 with e2 _; cases e2
theorem Pot.same {H H' : Hp} {p l : Addr} (h : Pot H p l) (s : Same H H') : Pot H' p l := by
  obtain ⟨ns, i, acc, seed, h1, h2, h3⟩ := h
  exact ⟨ns, i, acc, seed, s _ _ h1, s _ _ h2, h3⟩
theorem Pot.only {H H' : Hp} {p l q : Addr} (h : Pot H p l) (s : Only q H H') (n1 : p ≠ q) (n2 : l ≠ q) : Pot H' p l := by
  obtain ⟨ns, i, acc, seed, h1, h2, h3⟩ := h
  exact ⟨ns, i, acc, seed, by rw [s _ n1]; exact h1, by rw [s _ n2]; exact h2, h3⟩
/-- a draw's answer below the limit -/
def sp_law_next (K : PySem.W.Frag) (a : Ad) : Sp := fun vs H Q _ => ∃ (p l : Addr) (m : Int), vs = [.ref p, .int m] ∧ Pot H p l ∧ 0 < m ∧ m < 1073741824 ∧
  ∀ (v : Int) (H' : Hp), 0 ≤ v → v < m → Pot H' p l → Only p H H' → Q (.int v) H'
theorem sp_law_next_len {K : PySem.W.Frag} {a : Ad} {vs : List V} {H : Hp} {Q : VK} {E : XK} (h : sp_law_next K a vs H Q E) : vs.length = 2 := by
  obtain ⟨p, l, m, rfl, _⟩ := h
  rfl
def sp_law_pot (K : PySem.W.Frag) (a : Ad) : Sp := fun vs H Q _ => ∃ (s : Addr) (ns : List Int), vs = [.ref s] ∧ SqL K H s (ns.map V.int) ∧ ns.length ≤ 1000 ∧
  ∀ (p l : Addr) (H' : Hp), H p = none → H l = none → Same H H' → Pot H' p l → Q (.ref p) H'
theorem sp_law_pot_len {K : PySem.W.Frag} {a : Ad} {vs : List V} {H : Hp} {Q : VK} {E : XK} (h : sp_law_pot K a vs H Q E) : vs.length = 1 := by
  obtain ⟨s, ns, rfl, _⟩ := h
  rfl
/-- the law itself: True at every script -/
def sp_law0 (K : PySem.W.Frag) : Sp := fun vs H Q _ => ∃ (s : Addr) (ns : List Int), vs = [.ref s] ∧ SqL K H s (ns.map V.int) ∧ ns.length ≤ 63 ∧ ∀ H', Q (.bl true) H'
def sp_law (K : PySem.W.Frag) (a : Ad) : Sp := sp_law0 K
theorem sp_law_len {K : PySem.W.Frag} {a : Ad} {vs : List V} {H : Hp} {Q : VK} {E : XK} (h : sp_law K a vs H Q E) : vs.length = 1 := by
  obtain ⟨s, ns, rfl, _⟩ := h
  rfl
theorem int_item {ns : List Int} {i : Nat} {y : V} (h : (ns.map V.int)[i]? = some y) : ∃ z, ns[i]? = some z ∧ y = V.int z := by
  rw [List.getElem?_map] at h
  cases e : ns[i]? with
  | none => rw [e] at h; cases h
  | some z => rw [e] at h; exact ⟨z, rfl, (Option.some.inj h).symm⟩
/-- the pot's own object is no list of refs alone, no tuple -/
theorem Pot.list {H : Hp} {p l : Addr} (h : Pot H p l) : ∃ i acc seed : Int, H p = some (.lst [.ref l, .int i, .int acc, .int seed]) := by
  obtain ⟨ns, i, acc, seed, h1, _⟩ := h
  exact ⟨i, acc, seed, h1⟩
theorem But.seq {K : PySem.W.Frag} {H H' : Hp} {p a : Addr} {xs : List V} (b : But p H H') (n : a ≠ p) (h : SqL K H a xs) : SqL K H' a xs := by
  rcases h with (h | ⟨o, h⟩) | h
  · exact .inl (.inl (b _ _ h n))
  · exact .inl (.inr ⟨o, b _ _ h n⟩)
  · exact .inr h
theorem But.tup {K : PySem.W.Frag} {H H' : Hp} {p l a : Addr} {xs : List V} (P : Pot H p l) (b : But p H H') (h : SqT K H a xs) : SqT K H' a xs := by
  obtain ⟨i, acc, seed, hp⟩ := P.list
  rcases h with (h | ⟨o, h⟩) | h
  · exact .inl (.inl (b _ _ h (ne_of h hp (by intro q; cases q))))
  · exact .inl (.inr ⟨o, b _ _ h (ne_of h hp (by intro q; cases q))⟩)
  · exact .inr h
theorem Pot.noList {H : Hp} {p l a : Addr} (P : Pot H p l) {xs : List V} (h : H a = some (.lst xs)) (hx : ∀ i acc seed : Int, xs ≠ [.ref l, .int i, .int acc, .int seed]) : a ≠ p := by
  obtain ⟨i, acc, seed, hp⟩ := P.list
  exact ne_of h hp fun q => hx i acc seed (HO.lst.inj q)
theorem Pot.off {H : Hp} {p l q : Addr} (P : Pot H p l) (h : H q = none) : p ≠ q ∧ l ≠ q := by
  obtain ⟨_, _, _, _, g1, g2, _⟩ := P
  exact ⟨ne_of_none g1 h, ne_of_none g2 h⟩
theorem Pot.new {H : Hp} {p l q : Addr} {o : HO} (P : Pot H p l) (h : H q = none) : Pot (upd H q o) p l := P.same (Same.new h)
theorem PtsAt.but {K : PySem.W.Frag} {H H' : Hp} {p l d : Addr} {ps : List (Int × Int)} (P : Pot H p l) (h : PtsAt K H d ps) (n : d ≠ p) (b : But p H H') : PtsAt K H' d ps := by
  obtain ⟨L, h1, h2, h3⟩ := h
  exact ⟨L, b.seq n h1, h2, fun e m => But.tup P b (h3 e m)⟩
/-- the list of pairs and its tuples, all tracked -/
def PL (H : Hp) (d : Addr) (L : List (Addr × Int × Int)) : Prop := H d = some (.lst (L.map fun e => V.ref e.1)) ∧ ∀ e ∈ L, H e.1 = some (.tup [.int e.2.1, .int e.2.2])
theorem PL.at {K : PySem.W.Frag} {H : Hp} {d : Addr} {L : List (Addr × Int × Int)} (h : PL H d L) : PtsAt K H d (L.map (·.2)) := ⟨L, SqL.of h.1, rfl, fun e m => SqT.of (h.2 e m)⟩
theorem PL.same {H H' : Hp} {d : Addr} {L : List (Addr × Int × Int)} (h : PL H d L) (s : Same H H') : PL H' d L := ⟨s _ _ h.1, fun e m => s _ _ (h.2 e m)⟩
theorem PL.but {H H' : Hp} {p l d : Addr} {L : List (Addr × Int × Int)} (P : Pot H p l) (h : PL H d L) (n : d ≠ p) (b : But p H H') : PL H' d L := by
  obtain ⟨_, _, _, hp⟩ := P.list
  exact ⟨b _ _ h.1 n, fun e m => b _ _ (h.2 e m) (ne_of (h.2 e m) hp (by intro q; cases q))⟩
/-- an int is an int -/
def sp_law_is_int (K : PySem.W.Frag) (a : Ad) : Sp := fun vs H Q _ => ∃ x : Int, vs = [.int x] ∧ Q (.bl true) H
theorem sp_law_is_int_len {K : PySem.W.Frag} {a : Ad} {vs : List V} {H : Hp} {Q : VK} {E : XK} (h : sp_law_is_int K a vs H Q E) : vs.length = 1 := by
  obtain ⟨x, rfl, _⟩ := h
  rfl
def sp_inverse (K : PySem.W.Frag) (a : Ad) : Sp := fun vs H Q E => ∃ x : Int, vs = [.int x] ∧ (x % 65521 = 0 → ∀ H', Same H H' → E (.ref a.c_InvalidArgument) none H') ∧ (x % 65521 ≠ 0 → ∀ H', Same H H' → Q (.int (invP x)) H')
theorem sp_inverse_len {K : PySem.W.Frag} {a : Ad} {vs : List V} {H : Hp} {Q : VK} {E : XK} (h : sp_inverse K a vs H Q E) : vs.length = 1 := by
  obtain ⟨x, rfl, _⟩ := h
  rfl
def BadPts (ps : List (Int × Int)) : Prop := ps = [] ∨ ¬ Apart (ps.map (·.1))
def placesM (ps : List (Int × Int)) : List Int := (ps.map (·.1)).map (· % 65521)
def sp_distinct_places (K : PySem.W.Frag) (a : Ad) : Sp := fun vs H Q E => ∃ (p : Addr) (ps : List (Int × Int)), vs = [.ref p] ∧ PtsAt K H p ps ∧ ps.length ≤ 500 ∧
  (BadPts ps → ∀ H', Same H H' → E (.ref a.c_InvalidArgument) none H') ∧
  (¬ BadPts ps → ∀ (D : Addr) (H' : Hp), Same H H' → H D = none → H' D = some (.lst ((placesM ps).map V.int)) → Q (.ref D) H')
def sp_weight (K : PySem.W.Frag) (a : Ad) : Sp := fun vs H Q _ => ∃ (p : Int) (o : Addr) (os : List Int) (x : Int), vs = [.int p, .ref o, .int x] ∧ SqL K H o (os.map V.int) ∧ prodM os p 1 % 65521 ≠ 0 ∧
  ∀ H', Same H H' → Q (.int (wgt p os x)) H'
def sp_weights (K : PySem.W.Frag) (a : Ad) : Sp := fun vs H Q _ => ∃ (l : Addr) (ws : List Int) (x : Int), vs = [.ref l, .int x] ∧ H l = some (.lst (ws.map V.int)) ∧ Apart ws ∧ ws.length ≤ 500 ∧
  ∀ (D : Addr) (H' : Hp), Same H H' → H D = none → H' D = some (.lst ((weightsM ws x).map V.int)) → Q (.ref D) H'
def sp_value_at (K : PySem.W.Frag) (a : Ad) : Sp := fun vs H Q E => ∃ (p : Addr) (ps : List (Int × Int)) (x : Int), vs = [.ref p, .int x] ∧ PtsAt K H p ps ∧ ps.length ≤ 500 ∧
  (BadPts ps → ∀ H', Same H H' → E (.ref a.c_InvalidArgument) none H') ∧
  (¬ BadPts ps → ∀ H', Same H H' → Q (.int (valM (placesM ps) (ps.map (·.2)) x)) H')
theorem sp_distinct_places_len {K : PySem.W.Frag} {a : Ad} {vs : List V} {H : Hp} {Q : VK} {E : XK} (h : sp_distinct_places K a vs H Q E) : vs.length = 1 := by
  obtain ⟨p, ps, rfl, _⟩ := h
  rfl
theorem sp_weight_len {K : PySem.W.Frag} {a : Ad} {vs : List V} {H : Hp} {Q : VK} {E : XK} (h : sp_weight K a vs H Q E) : vs.length = 3 := by
  obtain ⟨p, o, os, x, rfl, _⟩ := h
  rfl
theorem sp_weights_len {K : PySem.W.Frag} {a : Ad} {vs : List V} {H : Hp} {Q : VK} {E : XK} (h : sp_weights K a vs H Q E) : vs.length = 2 := by
  obtain ⟨l, ws, x, rfl, _⟩ := h
  rfl
theorem sp_value_at_len {K : PySem.W.Frag} {a : Ad} {vs : List V} {H : Hp} {Q : VK} {E : XK} (h : sp_value_at K a vs H Q E) : vs.length = 2 := by
  obtain ⟨p, ps, x, rfl, _⟩ := h
  rfl
def sp_law_refused (K : PySem.W.Frag) (a : Ad) : Sp := fun vs H Q _ => ∃ (p : Addr) (ps : List (Int × Int)) (x : Int), vs = [.ref p, .int x] ∧ PtsAt K H p ps ∧ ps.length ≤ 500 ∧ BadPts ps ∧ ∀ H', Same H H' → Q (.bl true) H'
theorem sp_law_refused_len {K : PySem.W.Frag} {a : Ad} {vs : List V} {H : Hp} {Q : VK} {E : XK} (h : sp_law_refused K a vs H Q E) : vs.length = 2 := by
  obtain ⟨p, ps, x, rfl, _⟩ := h
  rfl
def sp_law_places (K : PySem.W.Frag) (a : Ad) : Sp := fun vs H Q _ => ∃ (p l : Addr) (n : Nat), vs = [.ref p, .int (n : Int)] ∧ Pot H p l ∧ n ≤ 9 ∧
  ∀ (D : Addr) (xs : List Int) (H' : Hp), xs.length = n → Apart xs → H D = none → H' D = some (.lst (xs.map V.int)) → But p H H' → Pot H' p l → Q (.ref D) H'
theorem sp_law_places_len {K : PySem.W.Frag} {a : Ad} {vs : List V} {H : Hp} {Q : VK} {E : XK} (h : sp_law_places K a vs H Q E) : vs.length = 2 := by
  obtain ⟨p, l, n, rfl, _⟩ := h
  rfl
section
variable {P : Program} {w : World} {K : PySem.W.Frag} {mg : Str → Option Value} {base : Heap} {a : Ad}
theorem sc_inverse : FnScope ["a", "number", "next_number", "factor", "next_factor", "quotient"] ["a"] (defScope s_inverse) := ⟨rfl, rfl, rfl, by decide +kernel, rfl, by decide +kernel, by decide +kernel⟩
theorem ok_inverse (T : Txt K mg a) : FnOk P w K mg base (L2.CX P w) 1 a.f_inverse a.d_inverse ["a"] (sp_inverse K a) := by
  refine T.F_inverse.okX sc_inverse (fun vs H Q E h => ?len) (fun cdv A outer s H vs Q E hr h => ?body)
  case len =>
    exact sp_inverse_len h
  case body =>
    obtain ⟨x, rfl, kE, kQ⟩ := h
    refine ⟨_, (pss_cons (ps_par (i := 1) (j := 2) (by rfl) sc_inverse.nd rfl rfl (by decide) rfl rfl (pa_cons (pe_const T.g_PRIME) (pa_cons (pe_op op_mod (pv 0) (pe_const T.g_PRIME)) pa_nil)) (by rfl))
      (pss_cons (ps_asg (pe_tup (pa_cons pe_int (pa_cons pe_int pa_nil))) (pg_tup rfl (pgs_cons (pg_name (i := 3) sc_inverse.nd rfl (Or.inl rfl)) (pgs_cons (pg_name (i := 4) sc_inverse.nd rfl (Or.inl rfl)) pgs_nil))))
      (pss_cons (ps_if (pt_cmpR op_eq (pv 2) pe_int (nomark _))
      (pss_one (ps_raise rfl (takes_of rfl rfl rfl rfl) (pmk_own PySem.F.excBase_ValueError T.x_InvalidArgument T.g_InvalidArgument T.k_InvalidArgument (raises_own T.b_InvalidArgument T.t_InvalidArgument) (by exact rfl))))
      pss_nil)
      (pss_cons (ps_while (passes_of rfl) (pt_cmpR op_ne (pv 2) pe_int (nomark _))
      (pss_cons (ps_set (i := 5) sc_inverse.nd rfl (Or.inl rfl) (pe_op op_fdiv (pv 1) (pv 2)))
      (pss_cons (ps_par (i := 1) (j := 2) (by rfl) sc_inverse.nd rfl rfl (by decide) rfl rfl (pa_cons (pv 2) (pa_cons (pe_op op_sub (pv 1) (pe_op op_mul (pv 5) (pv 2))) pa_nil)) (by rfl))
      (pss_one (ps_par (i := 3) (j := 4) (by rfl) sc_inverse.nd rfl rfl (by decide) rfl rfl (pa_cons (pv 4) (pa_cons (pe_op op_sub (pv 3) (pe_op op_mul (pv 5) (pv 4))) pa_nil)) (by rfl))))))
      (pss_one (ps_ret (pe_op op_mod (pv 3) (pe_const T.g_PRIME)))))))), ?_⟩
    have p1 := Int.emod_nonneg x (show (65521 : Int) ≠ 0 by decide)
    have p2 := Int.emod_lt_of_pos x (show (0 : Int) < 65521 by decide)
    refine ⟨_, rfl, _, _, rfl, rfl, (by show (0 : Int) < 65521; decide), _, _, rfl, (by show 2 ≤ sizeLine; decide), fun t ht => ?_⟩
    have sm : Same H (upd H t (.tup [V.int 0, V.int 1])) := fun b o z => by rw [upd_ne (ne_of_none z ht)]; exact z
    refine ⟨t, _, rfl, SqT.of upd_same, rfl, _, _, rfl, _, _, rfl, rfl, ?_⟩
    refine ⟨_, rfl, rfl, _, rfl, ?_⟩
    refine ite2 (fun e => ?_) (fun e => ?_)
    · have e0 : x % 65521 = 0 := V.int.inj (of_decide_eq_true e)
      exact kE e0 _ sm
    · have e0 : x % 65521 ≠ 0 := fun z => e (decide_eq_true (congrArg V.int z))
      refine ⟨fun m σ H' => ∃ (n r f g : Int) (u : Option V), σ = [some (.int x), some (.int n), some (.int r), some (.int f), some (.int g), u] ∧ Same H H' ∧ m = r.toNat ∧ 0 ≤ r ∧ r < n ∧ n ≤ 65521 ∧ (x * f - n) % 65521 = 0 ∧ (x * g - r) % 65521 = 0 ∧ Int.gcd n r = 1,
        ⟨_, _, _, _, _, _, rfl, sm, rfl, p1, p2, Int.le_refl _, by omega, by omega, gcd_q x e0⟩, ?_⟩
      rintro m σ H' ⟨n, r, f, g, u, rfl, sm', rfl, r0, rn, nq, h1, h2, hg⟩
      refine ⟨_, rfl, rfl, _, rfl, ?_⟩
      refine ite2 (fun er => ?_) (fun er => ?_)
      · have r1 : r ≠ 0 := fun z => by subst z; simp at er
        have rp : 0 < r := by omega
        have d0 : 0 ≤ n / r := Int.ediv_nonneg (by omega) r0
        have d1 : n / r ≤ 65521 := by
          have := Int.ediv_le_self r (show 0 ≤ n by omega)
          omega
        have rr : n - n / r * r = n % r := by
          have := Int.mul_ediv_add_emod n r
          rw [Int.mul_comm] at this
          omega
        have q1 := Int.emod_nonneg n r1
        have q2 := Int.emod_lt_of_pos n rp
        refine ⟨fun σ' H'' => ∃ m', m' < r.toNat ∧ _, fun _ _ z => z, ?_⟩
        refine ⟨_, rfl, _, rfl, _, _, rfl, rfl, ⟨rp, by omega⟩, ?_⟩
        refine ⟨_, rfl, _, rfl, _, rfl, _, rfl, _, _, rfl, rfl, .inl ⟨by omega, by omega⟩, _, _, rfl, rfl, _, _, rfl, ?_⟩
        refine ⟨_, rfl, _, rfl, _, rfl, _, rfl, _, _, rfl, rfl, .inl ⟨by omega, by omega⟩, _, _, rfl, rfl, _, _, rfl, ?_⟩
        exact ⟨(n - n / r * r).toNat, by omega, r, n - n / r * r, g, f - n / r * g, _, rfl, sm', rfl, by omega, by omega, by omega, h2, euclid_turn h1 h2, gcd_turn hg⟩
      · have r1 : r = 0 := by
          have := Classical.not_not.mp (fun z => er (by rw [decide_eq_false z]; rfl))
          exact V.int.inj this
        subst r1
        have n1 : n = 1 := by
          rw [Int.gcd_zero_right] at hg
          omega
        subst n1
        have z := invP_eq (euclid_end h1)
        refine ⟨_, rfl, _, _, rfl, rfl, (by show (0 : Int) < 65521; decide), ?_⟩
        show Q (.int (f % 65521)) H'
        rw [← z]
        exact kQ e0 _ sm'
theorem sc_distinct_places : FnScope ["points", "places", "x", "_"] ["points"] (defScope s_distinct_places) := ⟨rfl, rfl, rfl, by decide +kernel, rfl, by decide +kernel, by decide +kernel⟩
theorem ok_distinct_places (T : Txt K mg a) : FnOk P w K mg base (L2.CX P w) 1 a.f_distinct_places a.d_distinct_places ["points"] (sp_distinct_places K a) := by
  refine T.F_distinct_places.okX sc_distinct_places (fun vs H Q E h => ?len) (fun cdv A outer s H vs Q E hr h => ?body)
  case len =>
    exact sp_distinct_places_len h
  case body =>
    obtain ⟨p, ps, rfl, hP, hlen, kE, kQ⟩ := h
    obtain ⟨as, hA, hal, hT⟩ := hP.old
    refine ⟨_, (pss_cons (ps_if (pt_not (pt_truth (pv 0) (by intro _; rfl)))
      (pss_one (ps_raise rfl (takes_of rfl rfl rfl rfl) (pmk_own PySem.F.excBase_ValueError T.x_InvalidArgument T.g_InvalidArgument T.k_InvalidArgument (raises_own T.b_InvalidArgument T.t_InvalidArgument) (by exact rfl))))
      pss_nil)
      (pss_cons (ps_setLc (i := 1) (own := [("x", 2), ("_", 3)]) (g := (gTup K 2 (gCons (gName 2) (gCons (gName 3) gNil)))) (by rfl) sc_distinct_places.nd rfl rfl (sw_true rfl rfl rfl (by decide +kernel)) (pi_list (pv 0)) (blkOk_by (own := [("x", 2), ("_", 3)]) (N := ["points", "places", "x", "_"]) (sc := defScope s_distinct_places) (by decide +kernel))
      (fun _ _ _ _ _ => (pg_tup rfl (pgs_cons (pg_name (i := 2) sc_distinct_places.nd rfl (Or.inl rfl)) (pgs_cons (pg_name (i := 3) sc_distinct_places.nd rfl (Or.inl rfl)) pgs_nil)))) (fun _ _ _ _ _ => pts_nil) (fun _ _ _ _ _ => (pe_op op_mod (pv 2) (pe_const T.g_PRIME))))
      (pss_cons (ps_if (pt_cmpR op_lt (pe_unlike (by rfl) T.n_len (by rfl) T.n_set (pv 1)) (pe_callB call_len_seq (by rfl) T.n_len PySem.boot_len (pa_cons (pv 1) pa_nil)) (nomark _))
      (pss_one (ps_raise rfl (takes_of rfl rfl rfl rfl) (pmk_own PySem.F.excBase_ValueError T.x_InvalidArgument T.g_InvalidArgument T.k_InvalidArgument (raises_own T.b_InvalidArgument T.t_InvalidArgument) (by exact rfl))))
      pss_nil)
      (pss_one (ps_ret (pv 1)))))), ?_⟩
    refine ⟨_, rfl, _, .inl ⟨_, hA, rfl⟩, ?_⟩
    by_cases he : ps = []
    · have : as = [] := List.length_eq_zero_iff.mp (by rw [hal, he]; rfl)
      subst this
      refine iteT ?_
      exact kE (.inl he) _ (Same.refl _)
    · have ane : as ≠ [] := fun e => he (List.length_eq_zero_iff.mp (by rw [← hal, e]; rfl))
      have e1 : (as.map V.ref).isEmpty = false := by
        cases as with
        | nil => exact absurd rfl ane
        | cons => rfl
      rw [e1]
      refine iteF ?_
      refine ⟨_, rfl, p, rfl, ⟨_, hA⟩, fun D new => lc_list (K := K) (a := p) (xs := as.map V.ref) (fun i H' => Same H H' ∧ H' D = some (.lst (((placesM ps).take i).map V.int))) ⟨Same.new new, upd_same⟩ (fun i H' _ q => q.1.seq hA) ?_ ?_⟩
      · rintro i y H' hi ⟨s', hD⟩
        obtain ⟨t, q, rfl, h1, h2, h3⟩ := pts_item hal hT hi
        refine ⟨t, _, rfl, s'.tup h3, rfl, _, _, rfl, _, _, rfl, rfl, ?_⟩
        have h4 : (placesM ps)[i]? = some (q.1 % 65521) := by simp [placesM, h2]
        refine ⟨rfl, _, rfl, _, _, rfl, rfl, (by show (0 : Int) < 65521; decide), _, hD, small _ (by have := item_lt h2; simp; omega), fun b o e => ?_, ?_⟩
        · rw [upd_ne (ne_of_none e new)]
          exact s' b o e
        · rw [upd_same, take_snoc h4, List.map_append]
          rfl
      · rintro H' ⟨s', hD⟩
        have e2 : (placesM ps).take (as.map V.ref).length = placesM ps := List.take_of_length_le (by simp [placesM, hal])
        rw [e2] at hD
        have hl2 : (placesM ps).length = ps.length := by simp [placesM]
        refine ⟨_, rfl, D, _, rfl, SqL.of hD, by omega, _, rfl, D, _, rfl, .inl (SqL.of hD), _, _, rfl, rfl, _, rfl, ?_⟩
        rw [List.length_map]
        by_cases ha : Apart (ps.map (·.1))
        · have nd : (placesM ps).Nodup := words_apart.mpr ha
          rw [unlike_full nd]
          refine ite2 (fun c => absurd (of_decide_eq_true c) (by omega)) (fun _ => ?_)
          exact ⟨_, rfl, kQ (fun b => b.elim he fun n => n ha) D _ s' new hD⟩
        · have nd : ¬ (placesM ps).Nodup := fun q => ha (words_apart.mp q)
          have := unlike_short nd
          refine ite2 (fun _ => ?_) (fun c => absurd (decide_eq_true (by omega)) c)
          exact kE (.inr ha) _ s'
theorem sc_weight : FnScope ["place", "others", "x", "above", "below", "other"] ["place", "others", "x"] (defScope s_weight) := ⟨rfl, rfl, rfl, by decide +kernel, rfl, by decide +kernel, by decide +kernel⟩
theorem ok_weight (T : Txt K mg a) : FnOk P w K mg base CX0 2 a.f_weight a.d_weight ["place", "others", "x"] (sp_weight K a) := by
  refine T.F_weight.ok sc_weight (fun vs H Q E h => ?len) (fun cdv A outer s H vs Q E hr h => ?body)
  case len =>
    exact sp_weight_len h
  case body =>
    obtain ⟨p, o, os, x, rfl, hO, hne, k⟩ := h
    refine ⟨_, (pss_cons (ps_asg (pe_tup (pa_cons pe_int (pa_cons pe_int pa_nil))) (pg_tup rfl (pgs_cons (pg_name (i := 3) sc_weight.nd rfl (Or.inl rfl)) (pgs_cons (pg_name (i := 4) sc_weight.nd rfl (Or.inl rfl)) pgs_nil))))
      (pss_cons (ps_for PassesOwn.never rfl (pi_list (pv 1)) (pg_name (i := 5) sc_weight.nd rfl (Or.inl rfl))
      (pss_cons (ps_set (i := 3) sc_weight.nd rfl (Or.inl rfl) (pe_op op_mod (pe_op op_mul (pv 3) (pe_op op_sub (pv 2) (pv 5))) (pe_const T.g_PRIME)))
      (pss_one (ps_set (i := 4) sc_weight.nd rfl (Or.inl rfl) (pe_op op_mod (pe_op op_mul (pv 4) (pe_op op_sub (pv 0) (pv 5))) (pe_const T.g_PRIME))))))
      (pss_one (ps_ret (pe_op op_mod (pe_op op_mul (pv 3) (pe_call (ok_inverse T) (hr.mono (by decide)) rfl T.g_inverse T.F_inverse.kp T.d_inverse .nil passL (pa_cons (pv 4) pa_nil))) (pe_const T.g_PRIME)))))), ?_⟩
    refine ⟨by show 2 ≤ sizeLine; decide, fun t ht => ?_⟩
    have sm : Same H (upd H t (.tup [V.int 1, V.int 1])) := Same.new ht
    refine ⟨t, _, rfl, SqT.of upd_same, rfl, _, _, rfl, _, _, rfl, rfl, ?_⟩
    refine ⟨_, rfl, o, rfl, ⟨_, sm.seq hO⟩, for_list (K := K) (a := o) (xs := os.map V.int) (fun i σ H' => ∃ v : Option V, σ = [some (.int p), some (.ref o), some (.int x), some (.int (prodM (os.take i) x 1)), some (.int (prodM (os.take i) p 1)), v] ∧ Same H H')
      ⟨none, rfl, sm⟩ (fun i σ H' _ ⟨_, _, s⟩ => s.seq hO) ?_ ?_⟩
    · rintro i y σ H' hi ⟨v, rfl, s'⟩
      obtain ⟨c, hc, rfl⟩ := int_item hi
      have b1 := prodM_word (os.take i) x 1 (by decide) (by decide)
      have b2 := prodM_word (os.take i) p 1 (by decide) (by decide)
      refine ⟨_, rfl, _, rfl, _, rfl, _, _, rfl, rfl, _, _, rfl, rfl, .inl ⟨by omega, by omega⟩, _, _, rfl, rfl, (by show (0 : Int) < 65521; decide), ?_⟩
      refine ⟨_, rfl, _, rfl, _, rfl, _, _, rfl, rfl, _, _, rfl, rfl, .inl ⟨by omega, by omega⟩, _, _, rfl, rfl, (by show (0 : Int) < 65521; decide), ?_⟩
      refine ⟨some (V.int c), ?_, s'⟩
      rw [take_snoc hc, prodM_snoc, prodM_snoc]
      rfl
    · rintro σ H' ⟨v, rfl, s'⟩
      have ea : os.take (os.map V.int).length = os := by rw [List.length_map, List.take_length]
      rw [ea]
      have b1 := prodM_word os x 1 (by decide) (by decide)
      refine ⟨_, rfl, _, rfl, _, rfl, fun z => absurd z hne, fun _ H2 s2 => ?_⟩
      refine ⟨_, _, rfl, rfl, .inl ⟨by omega, by omega⟩, _, _, rfl, rfl, (by show (0 : Int) < 65521; decide), ?_⟩
      exact k _ (s'.trans s2)
theorem sc_weights : FnScope ["places", "x", "at", "place"] ["places", "x"] (defScope s_weights) := ⟨rfl, rfl, rfl, by decide +kernel, rfl, by decide +kernel, by decide +kernel⟩
theorem ok_weights (T : Txt K mg a) : FnOk P w K mg base CX0 3 a.f_weights a.d_weights ["places", "x"] (sp_weights K a) := by
  refine T.F_weights.ok sc_weights (fun vs H Q E h => ?len) (fun cdv A outer s H vs Q E hr h => ?body)
  case len =>
    exact sp_weights_len h
  case body =>
    obtain ⟨l, ws, x, rfl, hW, hap, hlen, k⟩ := h
    refine ⟨_, (pss_one (ps_ret (pe_lc (own := [("at", 2), ("place", 3)]) (g := (gTup K 2 (gCons (gName 2) (gCons (gName 3) gNil)))) (by rfl) sc_weights.nd (pi_enum (by rfl) T.n_enumerate (pa_cons (pv 0) pa_nil)) (blkOk_by (own := [("at", 2), ("place", 3)]) (N := ["places", "x", "at", "place"]) (sc := defScope s_weights) (by decide +kernel))
      (fun _ _ _ _ _ => (pg_tup rfl (pgs_cons (pg_name (i := 2) sc_weights.nd rfl (Or.inl rfl)) (pgs_cons (pg_name (i := 3) sc_weights.nd rfl (Or.inl rfl)) pgs_nil)))) (fun _ _ _ _ _ => pts_nil) (fun _ _ _ _ _ => (pe_call (ok_weight T) (hr.mono (by decide)) rfl T.g_weight T.F_weight.kp T.d_weight .nil pass0 (pa_cons (pv 3) (pa_cons (pe_op op_cat (pe_slice (by exact sl_list : SlR _ (rSlL K)) (pv 0) po_none (po_some (pv 2))) (pe_slice (by exact sl_list : SlR _ (rSlL K)) (pv 0) (po_some (pe_op op_add (pv 2) pe_int)) po_none)) (pa_cons (pv 1) pa_nil)))))))), ?_⟩
    have hS : SqL K H l (ws.map V.int) := SqL.of hW
    refine ⟨_, rfl, l, _, rfl, hS, fun D new => lc_it walk_enum (fun i H' => Same H H' ∧ H' D = some (.lst (((weightsM ws x).take i).map V.int))) ⟨Same.new new, upd_same⟩ (fun i H' _ q => q.1.seq hS) ?_ ?_⟩
    · rintro i y H1 H2 hi ⟨s1, hD⟩ ⟨t, u, v, rfl, ht, rfl, hu, hv⟩
      cases hu
      obtain ⟨c, hc, rfl⟩ := int_item hv
      have s2 : Same H1 (upd H1 t (.tup [V.int (i : Nat), V.int c])) := Same.new ht
      have s3 := s1.trans s2
      have w3 := s3 _ _ hW
      refine ⟨t, _, rfl, SqT.of upd_same, rfl, _, _, rfl, _, _, rfl, rfl, ?_⟩
      refine ⟨rfl, _, rfl, _, rfl, _, rfl, _, rfl, l, _, rfl, SqL.of w3, fun p1 n1 => ?_⟩
      have s4 := Same.new (o := .lst (cutV (ws.map V.int) none (some ((i : Nat) : Int)))) n1
      refine ⟨_, rfl, _, rfl, _, _, rfl, rfl, _, rfl, l, _, rfl, SqL.of (s4 _ _ w3), fun p2 n2 => ?_⟩
      have s5 := Same.new (o := .lst (cutV (ws.map V.int) (some (((i : Nat) : Int) + 1)) none)) n2
      have q1 := s5 _ _ (upd_same (H := upd H1 t (.tup [V.int (i : Nat), V.int c])) (a := p1) (o := .lst (cutV (ws.map V.int) none (some ((i : Nat) : Int)))))
      refine ⟨p1, p2, _, _, rfl, rfl, q1, upd_same, ?_, fun p3 n3 => ?_⟩
      · have a1 := cutV_length (ws.map V.int) none (some ((i : Nat) : Int))
        have a2 := cutV_length (ws.map V.int) (some (((i : Nat) : Int) + 1)) none
        rw [List.length_map] at a1 a2
        exact Nat.le_of_lt (small _ (by omega))
      · have eo : cutV (ws.map V.int) none (some ((i : Nat) : Int)) ++ cutV (ws.map V.int) (some (((i : Nat) : Int) + 1)) none = (others ws i).map V.int := by
          rw [cut_take, show (((i : Nat) : Int) + 1) = ((i + 1 : Nat) : Int) from rfl, cut_drop]
          simp [others, List.map_append, List.map_take, List.map_drop]
        rw [eo]
        have s6 := Same.new (o := .lst ((others ws i).map V.int)) n3
        have hi' : i < ws.length := by simpa using hi
        have gc : ws.getD i 0 = c := getD_item hc
        have ok := wgt_ok (others_apart hap hi')
        rw [gc] at ok
        refine ⟨_, rfl, c, p3, others ws i, x, rfl, SqL.of upd_same, ok, fun H7 s7 => ?_⟩
        have s8 := (((s3.trans s4).trans s5).trans s6).trans s7
        have d8 := s7 _ _ (s6 _ _ (s5 _ _ (s4 _ _ (s2 _ _ hD))))
        refine ⟨_, d8, small _ (by simp; omega), fun b o e => ?_, ?_⟩
        · rw [upd_ne (ne_of_none e new)]
          exact s8 b o e
        · rw [upd_same, take_snoc (weightsM_get hi'), List.map_append, gc]
          rfl
    · rintro H' ⟨s', hD⟩
      rw [List.take_of_length_le (by rw [weightsM_length]; simp)] at hD
      exact k D H' s' new hD
theorem sc_value_at : FnScope ["points", "x", "factors", "factor", "_", "y"] ["points", "x"] (defScope s_value_at) := ⟨rfl, rfl, rfl, by decide +kernel, rfl, by decide +kernel, by decide +kernel⟩
theorem ok_value_at (T : Txt K mg a) : FnOk P w K mg base (L2.CX P w) 4 a.f_value_at a.d_value_at ["points", "x"] (sp_value_at K a) := by
  refine T.F_value_at.okX sc_value_at (fun vs H Q E h => ?len) (fun cdv A outer s H vs Q E hr h => ?body)
  case len =>
    exact sp_value_at_len h
  case body =>
    obtain ⟨p, ps, x, rfl, hP, hlen, kE, kQ⟩ := h
    refine ⟨_, (pss_cons (ps_set (i := 2) sc_value_at.nd rfl (Or.inl rfl) (pe_call (ok_weights T) (hr.mono (by decide)) rfl T.g_weights T.F_weights.kp T.d_weights .nil pass0 (pa_cons (pe_call (ok_distinct_places T) (hr.mono (by decide)) rfl T.g_distinct_places T.F_distinct_places.kp T.d_distinct_places .nil (passes_call (takes_of rfl rfl rfl rfl) (fun _ _ _ _ z => z)) (pa_cons (pv 0) pa_nil)) (pa_cons (pv 1) pa_nil))))
      (pss_one (ps_ret (pe_op op_mod (pe_callB (cr_sum rfl) (by rfl) T.n_sum (by decide +kernel) (pa_cons (pe_lc (own := [("factor", 3), ("_", 4), ("y", 5)]) (g := (gTup K 2 (gCons (gName 3) (gCons (gTup K 2 (gCons (gName 4) (gCons (gName 5) gNil))) gNil)))) (by rfl) sc_value_at.nd (pi_zip (by rfl) T.n_zip (pa_cons (pv 2) (pa_cons (pv 0) pa_nil))) (blkOk_by (own := [("factor", 3), ("_", 4), ("y", 5)]) (N := ["points", "x", "factors", "factor", "_", "y"]) (sc := defScope s_value_at) (by decide +kernel))
      (fun _ _ _ _ _ => (pg_tup rfl (pgs_cons (pg_name (i := 3) sc_value_at.nd rfl (Or.inl rfl)) (pgs_cons (pg_tup rfl (pgs_cons (pg_name (i := 4) sc_value_at.nd rfl (Or.inl rfl)) (pgs_cons (pg_name (i := 5) sc_value_at.nd rfl (Or.inl rfl)) pgs_nil))) pgs_nil)))) (fun _ _ _ _ _ => pts_nil) (fun _ _ _ _ _ => (pe_op op_mul (pv 3) (pv 5)))) pa_nil)) (pe_const T.g_PRIME))))), ?_⟩
    refine ⟨_, rfl, p, ps, rfl, hP, hlen, kE, fun nb D1 H1 s1 n1 h1 => ?_⟩
    have ap : Apart (placesM ps) := apart_words.mpr (Classical.not_not.mp fun q => nb (.inr q))
    have pl : (placesM ps).length = ps.length := by simp [placesM]
    refine ⟨_, rfl, D1, _, x, rfl, h1, ap, by omega, fun D2 H2 s2 n2 h2 => ?_⟩
    have P2 := hP.same (s1.trans s2)
    obtain ⟨as, hA, hal, hT⟩ := P2.old
    have fl : ((weightsM (placesM ps) x).map V.int).length = ps.length := by rw [List.length_map, weightsM_length, pl]
    refine ⟨_, rfl, _, rfl, D2, p, _, _, rfl, SqL.of h2, hA, fun D new => lc_it (walk_zip (n := ps.length) (by simp [fl, hal])) (fun i H' => Same H2 H' ∧ H' D = some (.lst (((List.range i).map fun j => (weightsM (placesM ps) x).getD j 0 * (ps.map (·.2)).getD j 0).map V.int)))
      ⟨Same.new new, upd_same⟩ (fun i H' _ q => ⟨q.1.seq (SqL.of h2), q.1.seq hA⟩) ?_ ?_⟩
    · rintro i y Ha Hb hi ⟨s3, hD⟩ ⟨t, u, v, rfl, ht, rfl, hu, hv⟩
      obtain ⟨c, hc, rfl⟩ := int_item hu
      obtain ⟨r, q, rfl, g1, g2, g3⟩ := pts_item hal hT hv
      have s4 : Same Ha (upd Ha t (.tup [V.int c, V.ref r])) := Same.new ht
      refine ⟨t, _, rfl, SqT.of upd_same, rfl, _, _, rfl, _, _, rfl, ⟨r, _, rfl, s4.tup (s3.tup g3), rfl, _, _, rfl, _, _, rfl, rfl, ?_⟩⟩
      have wc : 0 ≤ c ∧ c < 65521 := by
        have e1 := weightsM_get (x := x) (ws := placesM ps) (i := i) (by omega)
        rw [hc] at e1
        rw [Option.some.inj e1]
        exact wgt_word _ _ _
      refine ⟨rfl, rfl, _, rfl, _, rfl, _, _, rfl, rfl, .inl ⟨by omega, by omega⟩, _, s4 _ _ hD, small _ (by simp; omega), fun b o e => ?_, ?_⟩
      · rw [upd_ne (ne_of_none e new)]
        exact s4 _ _ (s3 b o e)
      · rw [upd_same, List.range_succ, List.map_append, List.map_append]
        have e1 : (weightsM (placesM ps) x).getD i 0 = c := getD_item hc
        have e2 : (ps.map (·.2)).getD i 0 = q.2 := getD_item (by rw [List.getElem?_map, g2]; rfl)
        show some (HO.lst (_ ++ [V.int (c * q.2)])) = some (HO.lst (_ ++ [V.int ((weightsM (placesM ps) x).getD i 0 * (ps.map (·.2)).getD i 0)]))
        rw [e1, e2]
    · rintro H3 ⟨s3, hD⟩
      refine ⟨D, _, rfl, SqL.of hD, _, _, rfl, rfl, (by show (0 : Int) < 65521; decide), ?_⟩
      have e : ((List.range ps.length).map fun j => (weightsM (placesM ps) x).getD j 0 * (ps.map (·.2)).getD j 0).sum % 65521 = valM (placesM ps) (ps.map (·.2)) x := by
        unfold valM dotR
        rw [weightsM_length, pl]
      show Q (V.int (((List.range ps.length).map fun j => (weightsM (placesM ps) x).getD j 0 * (ps.map (·.2)).getD j 0).sum % 65521)) H3
      rw [e]
      exact kQ nb _ ((s1.trans s2).trans s3)
theorem sc_law_pot : FnScope ["script", "seed", "cell"] ["script"] (defScope s_law_pot) := ⟨rfl, rfl, rfl, by decide +kernel, rfl, by decide +kernel, by decide +kernel⟩
theorem ok_law_pot (T : Txt K mg a) : FnOk P w K mg base CX0 1 a.f_law_pot a.d_law_pot ["script"] (sp_law_pot K a) := by
  refine T.F_law_pot.ok sc_law_pot (fun vs H Q E h => ?len) (fun cdv A outer s H vs Q E hr h => ?body)
  case len =>
    exact sp_law_pot_len h
  case body =>
    obtain ⟨s, ns, rfl, hS, hlen, k⟩ := h
    refine ⟨_, (pss_cons (ps_set (i := 1) sc_law_pot.nd rfl (Or.inl rfl) pe_int)
      (pss_cons (ps_for PassesOwn.never rfl (pi_list (pv 0)) (pg_name (i := 2) sc_law_pot.nd rfl (Or.inl rfl))
      (pss_one (ps_set (i := 1) sc_law_pot.nd rfl (Or.inl rfl) (pe_op op_mod (pe_callTy call_int1 (by rfl) T.n_int (by decide +kernel) (pa_cons (pe_op op_add (pe_op op_mul (pv 1) pe_int) (pv 2)) pa_nil)) pe_int))))
      (pss_one (ps_ret (pe_lst (pa_cons (pe_callTy call_list_of (by rfl) T.n_list (by decide +kernel) (pa_cons (pv 0) pa_nil)) (pa_cons pe_int (pa_cons pe_int (pa_cons (pv 1) pa_nil))))))))), ?_⟩
    refine ⟨_, rfl, s, rfl, ⟨_, hS⟩, for_list (K := K) (a := s) (xs := ns.map V.int) (fun i σ H' => ∃ (z : Int) (v : Option V), σ = [some (.ref s), some (.int z), v] ∧ 0 ≤ z ∧ z < 2147483647 ∧ H' = H)
      ⟨1, none, rfl, by decide, by decide, rfl⟩ (fun i σ H' _ ⟨_, _, _, _, _, e⟩ => by rw [e]; exact hS) ?_ ?_⟩
    · rintro i y σ H' hi ⟨z, v, rfl, z0, z1, rfl⟩
      obtain ⟨c, hc, rfl⟩ := int_item hi
      refine ⟨_, rfl, _, _, rfl, rfl, .inl ⟨by omega, by omega⟩, _, rfl, _, _, rfl, rfl, .inl ⟨_, rfl, _, _, rfl, rfl, (by show (0 : Int) < 2147483647; decide), ?_⟩⟩
      exact ⟨_, _, rfl, Int.emod_nonneg _ (by decide), Int.emod_lt_of_pos _ (by decide), rfl⟩
    · rintro σ H' ⟨z, v, rfl, z0, z1, rfl⟩
      refine ⟨_, rfl, s, _, rfl, .inl hS, fun l hl => ?_⟩
      refine ⟨_, rfl, (by show 4 ≤ sizeLine; decide), fun p hp => ?_⟩
      have npl : l ≠ p := fun e => by subst e; rw [upd_same] at hp; cases hp
      have hp0 : H' p = none := by rw [upd_ne npl.symm] at hp; exact hp
      refine k p l _ hp0 hl (fun b o e => ?_) ⟨ns, 0, 0, z, upd_same, by rw [upd_ne npl, upd_same], by decide, by decide, z0, z1⟩
      rw [upd_ne (ne_of_none e hp0), upd_ne (ne_of_none e hl)]
      exact e
theorem sc_law_next : FnScope ["pot", "limit", "cell", "found", "mixed"] ["pot", "limit"] (defScope s_law_next) := ⟨rfl, rfl, rfl, by decide +kernel, rfl, by decide +kernel, by decide +kernel⟩
theorem ok_law_next (T : Txt K mg a) : FnOk P w K mg base CX0 1 a.f_law_next a.d_law_next ["pot", "limit"] (sp_law_next K a) := by
  refine T.F_law_next.ok sc_law_next (fun vs H Q E h => ?len) (fun cdv A outer s H vs Q E hr h => ?body)
  case len =>
    exact sp_law_next_len h
  case body =>
    obtain ⟨p, l, m, rfl, hP, m0, m1, k⟩ := h
    obtain ⟨ns, i, acc, seed, h1, h2, i0, acc0, s0, s1⟩ := id hP
    have nlp := hP.ne
    have mod0 : ∀ x : Int, 0 ≤ x % m := fun x => Int.emod_nonneg _ (by omega)
    have mod1 : ∀ x : Int, x % m < m := fun x => Int.emod_lt_of_pos _ m0
    refine ⟨_, (Evl.pss_cut (ps_if (PW.pt (pw_and (pt_cmpR op_eq (pe_ix ix_list (pv 0) pe_int (fun _ _ => rfl)) pe_int (nomark _)) (pw_and1 (pt_cmpR op_lt (pe_ix ix_list (pv 0) pe_int (fun _ _ => rfl)) (pe_callB call_len_seq (by rfl) T.n_len PySem.boot_len (pa_cons (pe_ix ix_list (pv 0) pe_int (fun _ _ => rfl)) pa_nil)) (nomark _)))))
      (pss_cons (ps_set (i := 2) sc_law_next.nd rfl (Or.inl rfl) (pe_callB call_abs (by rfl) T.n_abs (by decide +kernel) (pa_cons (pe_callTy call_int1 (by rfl) T.n_int (by decide +kernel) (pa_cons (pe_ix ix_list (pe_ix ix_list (pv 0) pe_int (fun _ _ => rfl)) (pe_ix ix_list (pv 0) pe_int (fun _ _ => rfl)) (fun _ _ => rfl)) pa_nil)) pa_nil)))
      (pss_cons (ps_asg (pe_op op_add (pe_ix ix_list (pv 0) pe_int (fun _ _ => rfl)) pe_int) (pg_sub (pv 0) pe_int set_list))
      (pss_cons (ps_if (pt_cmpR op_lt (pv 2) (pe_op op_pow pe_int pe_int) (nomark _))
      (pss_one (ps_ret (pe_op op_mod (pe_callTy call_int1 (by rfl) T.n_int (by decide +kernel) (pa_cons (pv 2) pa_nil)) (pv 1))))
      pss_nil)
      (pss_one (ps_asg (pv 2) (pg_sub (pv 0) pe_int set_list))))))
      pss_nil)
      (pss_cons (ps_if (pt_cmpR op_gt (pe_ix ix_list (pv 0) pe_int (fun _ _ => rfl)) pe_int (nomark _))
      (pss_cons (ps_set (i := 3) sc_law_next.nd rfl (Or.inl rfl) (pe_op op_mod (pe_callTy call_int1 (by rfl) T.n_int (by decide +kernel) (pa_cons (pe_ix ix_list (pv 0) pe_int (fun _ _ => rfl)) pa_nil)) (pv 1)))
      (pss_cons (ps_asg (pe_op op_fdiv (pe_ix ix_list (pv 0) pe_int (fun _ _ => rfl)) (pv 1)) (pg_sub (pv 0) pe_int set_list))
      (pss_one (ps_ret (pv 3)))))
      pss_nil)
      (pss_cons (ps_asg (pe_op op_mod (pe_callTy call_int1 (by rfl) T.n_int (by decide +kernel) (pa_cons (pe_op op_add (pe_op op_mul (pe_ix ix_list (pv 0) pe_int (fun _ _ => rfl)) pe_int) pe_int) pa_nil)) pe_int) (pg_sub (pv 0) pe_int set_list))
      (pss_cons (ps_set (i := 4) sc_law_next.nd rfl (Or.inl rfl) (pe_op op_mod (pe_callTy call_int1 (by rfl) T.n_int (by decide +kernel) (pa_cons (pe_op op_add (pe_op op_mul (pe_ix ix_list (pv 0) pe_int (fun _ _ => rfl)) pe_int) (pe_op op_fdiv (pe_ix ix_list (pv 0) pe_int (fun _ _ => rfl)) pe_int)) pa_nil)) pe_int))
      (pss_one (ps_ret (pe_op op_mod (pe_callTy call_int1 (by rfl) T.n_int (by decide +kernel) (pa_cons (pv 4) pa_nil)) (pv 1)))))))), ?_⟩
    refine ⟨fun σ H' => ∃ (u : Option V) (i' acc' : Int), σ = [some (.ref p), some (.int m), u, none, none] ∧ H' p = some (.lst [.ref l, .int i', .int acc', .int seed]) ∧ 0 ≤ i' ∧ 0 ≤ acc' ∧ Only p H H', ?_, ?_⟩
    · -- if pot[2] == 0 and pot[1] < len(pot[0])
      refine ⟨_, rfl, p, _, _, _, rfl, rfl, SqL.of h1, at_of (j := 2) rfl rfl, rfl, _, rfl, ?_⟩
      refine ite2 (fun e2 => ?_) (fun e2 => iteF ⟨none, i, acc, rfl, h1, i0, acc0, Only.refl⟩)
      refine ⟨_, rfl, p, _, _, _, rfl, rfl, SqL.of h1, at_of (j := 1) rfl rfl, _, rfl, p, _, _, _, rfl, rfl, SqL.of h1, at_of (j := 0) rfl rfl, l, _, rfl, .inl (SqL.of h2), _, _, rfl, rfl, _, rfl, ?_⟩
      refine ite2 (fun e3 => ?_) (fun e3 => ⟨none, i, acc, rfl, h1, i0, acc0, Only.refl⟩)
      have i1 : i < (ns.length : Int) := by
        have := of_decide_eq_true e3
        rw [List.length_map] at this
        exact this
      obtain ⟨j, rfl⟩ : ∃ j : Nat, i = (j : Int) := ⟨i.toNat, by omega⟩
      have hj : j < ns.length := by omega
      have hit : (ns.map V.int)[j]? = some (V.int ns[j]) := by rw [List.getElem?_map, List.getElem?_eq_getElem hj]; rfl
      -- cell = abs(int(pot[0][pot[1]])); pot[1] = pot[1] + 1
      refine ⟨_, rfl, p, _, _, _, rfl, rfl, SqL.of h1, at_of (j := 0) rfl rfl, _, rfl, p, _, _, _, rfl, rfl, SqL.of h1, at_of (j := 1) rfl rfl, l, _, _, _, rfl, rfl, SqL.of h2, at_of (j := j) rfl hit, .inl ⟨_, rfl, _, rfl, ?_⟩⟩
      have abs0 : 0 ≤ (if ns[j] < 0 then -ns[j] else ns[j]) := by split <;> omega
      generalize (if ns[j] < 0 then -ns[j] else ns[j]) = c at abs0 ⊢
      refine ⟨_, rfl, p, _, _, _, rfl, rfl, SqL.of h1, at_of (j := 1) rfl rfl, _, _, rfl, rfl, _, rfl, p, _, _, 1, rfl, rfl, h1, rfl, ?_⟩
      have g1 : upd H p (.lst (List.set [V.ref l, V.int (j : Int), V.int acc, V.int seed] 1 (V.int ((j : Int) + 1)))) p = some (.lst [.ref l, .int ((j : Int) + 1), .int acc, .int seed]) := upd_same
      -- if cell < 10 ** 18: return int(cell) % limit
      refine ⟨_, rfl, _, _, rfl, rfl, ⟨by decide, by decide, by decide⟩, _, _, rfl, rfl, _, rfl, ?_⟩
      refine ite2 (fun e4 => ?_) (fun e4 => ?_)
      · refine ⟨_, rfl, .inl ⟨_, rfl, _, rfl, _, _, rfl, rfl, m0, ?_⟩⟩
        exact k _ _ (mod0 _) (mod1 _) ⟨ns, _, _, _, g1, by rw [upd_ne nlp]; exact h2, by omega, acc0, s0, s1⟩ Only.upd
      · -- pot[2] = cell
        refine ⟨_, rfl, _, rfl, p, _, _, 2, rfl, rfl, g1, rfl, ?_⟩
        exact ⟨_, (j : Int) + 1, c, rfl, upd_same, by omega, abs0, Only.upd.trans Only.upd⟩
    · rintro σ H' ⟨u, i', acc', rfl, g1, i0', acc0', oH⟩
      have g2 : H' l = some (.lst (ns.map V.int)) := by rw [oH _ nlp]; exact h2
      -- if pot[2] > 0
      refine ⟨_, rfl, p, _, _, _, rfl, rfl, SqL.of g1, at_of (j := 2) rfl rfl, _, _, rfl, rfl, _, rfl, ?_⟩
      refine ite2 (fun e2 => ?_) (fun e2 => ?_)
      · refine ⟨_, rfl, p, _, _, _, rfl, rfl, SqL.of g1, at_of (j := 2) rfl rfl, .inl ⟨_, rfl, _, rfl, _, _, rfl, rfl, m0, ?_⟩⟩
        refine ⟨_, rfl, p, _, _, _, rfl, rfl, SqL.of g1, at_of (j := 2) rfl rfl, _, rfl, _, _, rfl, rfl, ⟨m0, m1⟩, _, rfl, p, _, _, 2, rfl, rfl, g1, rfl, ?_⟩
        refine ⟨_, rfl, ?_⟩
        exact k _ _ (mod0 _) (mod1 _) ⟨ns, i', acc' / m, seed, upd_same, by rw [upd_ne nlp]; exact g2, i0', Int.ediv_nonneg acc0' (by omega), s0, s1⟩ (oH.trans Only.upd)
      · -- pot[3] = int(pot[3] * 48271 + 12345) % 2147483647
        refine ⟨_, rfl, p, _, _, _, rfl, rfl, SqL.of g1, at_of (j := 3) rfl rfl, _, _, rfl, rfl, .inl ⟨by omega, by omega⟩, _, _, rfl, rfl, .inl ⟨_, rfl, _, _, rfl, rfl, (by show (0 : Int) < 2147483647; decide), ?_⟩⟩
        have t0 := Int.emod_nonneg (seed * 48271 + 12345) (show (2147483647 : Int) ≠ 0 by decide)
        have t1 := Int.emod_lt_of_pos (seed * 48271 + 12345) (show (0 : Int) < 2147483647 by decide)
        refine ⟨_, rfl, p, _, _, 3, rfl, rfl, g1, rfl, ?_⟩
        have g3 : upd H' p (.lst (List.set [V.ref l, V.int i', V.int acc', V.int seed] 3 (V.int ((seed * 48271 + 12345) % 2147483647)))) p = some (.lst [.ref l, .int i', .int acc', .int ((seed * 48271 + 12345) % 2147483647)]) := upd_same
        refine ⟨_, rfl, p, _, _, _, rfl, rfl, SqL.of g3, at_of (j := 3) rfl rfl, _, _, rfl, rfl, .inl ⟨by omega, by omega⟩, _, rfl, p, _, _, _, rfl, rfl, SqL.of g3, at_of (j := 3) rfl rfl, _, _, rfl, rfl, ⟨by decide, by decide⟩, _, _, rfl, rfl, .inl ⟨_, rfl, _, _, rfl, rfl, (by show (0 : Int) < 2147483629; decide), ?_⟩⟩
        refine ⟨_, rfl, .inl ⟨_, rfl, _, rfl, _, _, rfl, rfl, m0, ?_⟩⟩
        exact k _ _ (mod0 _) (mod1 _) ⟨ns, _, _, _, g3, by rw [upd_ne nlp]; exact g2, i0', acc0', t0, t1⟩ (oH.trans Only.upd)
theorem sc_law_is_int : FnScope ["value"] ["value"] (defScope s_law_is_int) := ⟨rfl, rfl, rfl, by decide +kernel, rfl, by decide +kernel, by decide +kernel⟩
theorem ok_law_is_int (T : Txt K mg a) : FnOk P w K mg base CX0 1 a.f_law_is_int a.d_law_is_int ["value"] (sp_law_is_int K a) := by
  refine T.F_law_is_int.ok sc_law_is_int (fun vs H Q E h => ?len) (fun cdv A outer s H vs Q E hr h => ?body)
  case len =>
    exact sp_law_is_int_len h
  case body =>
    obtain ⟨x, rfl, k⟩ := h
    refine ⟨_, (pss_one (ps_ret (pe_and (pe_callB call_isi (by rfl) T.n_isinstance (by decide +kernel) (pa_cons (pv 0) (pa_cons (pe_bltn (v := .ty "int") (by rfl) T.n_int (by decide +kernel) rfl) pa_nil))) (pe_one (pe_not (pe_callB call_isi (by rfl) T.n_isinstance (by decide +kernel) (pa_cons (pv 0) (pa_cons (pe_bltn (v := .ty "bool") (by rfl) T.n_bool (by decide +kernel) rfl) pa_nil)))))))), ?_⟩
    refine ⟨_, rfl, _, _, _, _, true, rfl, .ty "int", .base (.int x), kit_ty (by decide +kernel), _, rfl, ?_⟩
    refine iteT ?_
    exact ⟨_, rfl, _, _, _, _, false, rfl, .ty "bool", .base (.int x), kit_ty (by decide +kernel), _, rfl, k⟩
theorem sc_law_refused : FnScope ["points", "x", "e"] ["points", "x"] (defScope s_law_refused) := ⟨rfl, rfl, rfl, by decide +kernel, rfl, by decide +kernel, by decide +kernel⟩
theorem ok_law_refused (T : Txt K mg a) : FnOk P w K mg base CX0 5 a.f_law_refused a.d_law_refused ["points", "x"] (sp_law_refused K a) := by
  refine T.F_law_refused.ok sc_law_refused (fun vs H Q E h => ?len) (fun cdv A outer s H vs Q E hr h => ?body)
  case len =>
    exact sp_law_refused_len h
  case body =>
    obtain ⟨p, ps, x, rfl, hP, hlen, hB, k⟩ := h
    refine ⟨_, (pss_cons (ps_try_as (i := 2) rfl rfl sc_law_refused.nd rfl rfl ⟨rfl, by decide, .inl T.g_PoolError⟩ takes0
      (fun W pn xe tk _ => (pss_one (ps_expr (pe_callS (ok_value_at T) (hr.mono (by decide)) rfl T.g_value_at T.F_value_at.kp T.d_value_at (fun σ => passAt tk σ) (pa_cons (pv 0) (pa_cons (pv 1) pa_nil))))))
      (fun a oe cls d pn hz hf => (pss_one (ps_ret (pe_callB (call_isE' hz hf) (by rfl) T.n_isinstance (by decide +kernel) (pa_cons (pv 2) (pa_cons (pe_glob (v := .ref _) rfl T.g_InvalidArgument rfl) pa_nil)))))))
      (pss_one (ps_ret pe_bl))), ?_⟩
    refine ⟨_, rfl, _, rfl, p, ps, x, rfl, hP, hlen, fun _ H1 sm => ?_, fun z => absurd hB z⟩
    refine ⟨true, T.u_InvalidArgument_PoolError, fun _ b hb => ?_, fun z => Bool.noConfusion z⟩
    exact ⟨_, rfl, _, rfl, rfl, T.E_InvalidArgument, _, _, true, rfl, fun _ z => z, T.i_InvalidArgument_InvalidArgument, k _ sm⟩
theorem sc_law_places : FnScope ["pot", "count", "places", "place", "k"] ["pot", "count"] (defScope s_law_places) := ⟨rfl, rfl, rfl, by decide +kernel, rfl, by decide +kernel, by decide +kernel⟩
theorem ok_law_places (T : Txt K mg a) : FnOk P w K mg base CX0 2 a.f_law_places a.d_law_places ["pot", "count"] (sp_law_places K a) := by
  refine T.F_law_places.ok sc_law_places (fun vs H Q E h => ?len) (fun cdv A outer s H vs Q E hr h => ?body)
  case len =>
    exact sp_law_places_len h
  case body =>
    obtain ⟨p, l, n, rfl, hP, n9, k⟩ := h
    refine ⟨_, (pss_cons (ps_set (i := 2) sc_law_places.nd rfl (Or.inl rfl) (pe_lst pa_nil))
      (pss_cons (ps_set (i := 3) sc_law_places.nd rfl (Or.inl rfl) (pe_op op_sub (pe_call (ok_law_next T) (hr.mono (by decide)) rfl T.g_law_next T.F_law_next.kp T.d_law_next .nil pass0 (pa_cons (pv 0) (pa_cons pe_int pa_nil))) pe_int))
      (pss_cons (ps_for PassesOwn.never rfl (pi_range1 (by rfl) T.n_range (pa_cons (pv 1) pa_nil)) (pg_name (i := 4) sc_law_places.nd rfl (Or.inl rfl))
      (pss_cons (ps_expr (pe_bm PySem.F.plainAttrs_list PySem.F.slot_list_append PySem.F.type_list_append mt_append (pv 2) (pa_cons (pe_op op_add (pv 3) (pe_op op_mul pe_int (pe_op op_sub (pe_call (ok_law_next T) (hr.mono (by decide)) rfl T.g_law_next T.F_law_next.kp T.d_law_next .nil pass0 (pa_cons (pv 0) (pa_cons pe_int pa_nil))) pe_int))) pa_nil)))
      (pss_one (ps_set (i := 3) sc_law_places.nd rfl (Or.inl rfl) (pe_op op_add (pe_op op_add (pv 3) pe_int) (pe_call (ok_law_next T) (hr.mono (by decide)) rfl T.g_law_next T.F_law_next.kp T.d_law_next .nil pass0 (pa_cons (pv 0) (pa_cons pe_int pa_nil))))))))
      (pss_one (ps_ret (pv 2)))))), ?_⟩
    have pne := hP.ne
    obtain ⟨_, _, _, hp0⟩ := hP.list
    refine ⟨Nat.zero_le _, fun D hD => ?_⟩
    have npD : p ≠ D := ne_of_none hp0 hD
    have nlD : l ≠ D := by
      obtain ⟨_, _, _, _, _, g2, _⟩ := id hP
      exact ne_of_none g2 hD
    have P1 : Pot (upd H D (.lst [])) p l := hP.only Only.upd npD nlD
    refine ⟨_, rfl, p, l, 65521, rfl, P1, by decide, by decide, fun v H2 v0 v1 P2 o2 => ?_⟩
    have b2 : But p H H2 := (Same.new hD).but.trans o2.but
    have d2 : H2 D = some (.lst []) := by rw [o2 _ npD.symm]; exact upd_same
    refine ⟨_, _, rfl, rfl, ?_⟩
    refine ⟨_, rfl, _, rfl, by omega, by omega, ?_⟩
    rw [show ((n : Nat) : Int).toNat = n from Int.toNat_natCast n]
    refine for_range (lo := 0) (n := n) (fun i σ H' => ∃ (xs : List Int) (f pl : Int) (v : Option V), σ = [some (.ref p), some (.int (n : Int)), some (.ref D), some (.int pl), v] ∧ But p H H' ∧ Pot H' p l ∧ H' D = some (.lst (xs.map V.int)) ∧ xs.length = i ∧ i ≤ n ∧
      f ≤ pl ∧ pl ≤ f + 7001 * i ∧ Apart xs ∧ ∀ x ∈ xs, ∃ u, f ≤ u ∧ u < pl ∧ z x = z u)
      ⟨[], v - 32000, v - 32000, none, rfl, b2, P2, d2, rfl, Nat.zero_le _, Int.le_refl _, by omega, List.nodup_nil, fun x m => nomatch m⟩ ?_ ?_
    · rintro i σ H' hi ⟨xs, f, pl, v, rfl, b', P', d', xl, _, f1, f2, ap, hx⟩
      refine ⟨_, rfl, .inl ⟨rfl, _, SqL.of d'⟩, _, rfl, _, rfl, p, l, 5, rfl, P', by decide, by decide, fun u H3 u0 u1 P3 o3 => ?_⟩
      have d3 : H3 D = some (.lst (xs.map V.int)) := by rw [o3 _ npD.symm]; exact d'
      refine ⟨_, _, rfl, rfl, _, _, rfl, rfl, .inl ⟨by decide, by decide⟩, _, _, rfl, rfl, D, _, _, rfl, rfl, d3, small _ (by simp; omega), ?_⟩
      have P4 : Pot (upd H3 D (.lst (xs.map V.int ++ [V.int (pl + 65521 * (u - 2))]))) p l := P3.only Only.upd npD nlD
      refine ⟨_, rfl, _, _, rfl, rfl, _, rfl, p, l, 7000, rfl, P4, by decide, by decide, fun y H5 y0 y1 P5 o5 => ?_⟩
      refine ⟨_, _, rfl, rfl, xs ++ [pl + 65521 * (u - 2)], f, pl + 1 + y, some (.int (0 + (i : Nat))), rfl, ?_, P5, ?_, by simp [xl], hi, by omega, by omega, ?_, ?_⟩
      · intro b o e nb
        rw [o5 _ nb, upd_ne (ne_of_none e hD), o3 _ nb]
        exact b' b o e nb
      · rw [o5 _ npD.symm, upd_same, List.map_append]
        rfl
      · have zn : z (pl + 65521 * (u - 2)) = z pl := z_eq.mpr (by omega)
        unfold Apart
        rw [List.map_append, List.nodup_append]
        refine ⟨ap, by simp, fun a ha b hb e => ?_⟩
        obtain ⟨x, hxm, rfl⟩ := List.mem_map.mp ha
        obtain ⟨w, w1, w2, w3⟩ := hx x hxm
        have hb' : b = z (pl + 65521 * (u - 2)) := by simpa using hb
        rw [e, hb', zn] at w3
        have := z_eq.mp w3
        omega
      · intro x hm
        rcases List.mem_append.mp hm with hm | hm
        · obtain ⟨w, w1, w2, w3⟩ := hx x hm
          exact ⟨w, w1, by omega, w3⟩
        · have : x = pl + 65521 * (u - 2) := by simpa using hm
          exact ⟨pl, f1, by omega, by rw [this]; exact z_eq.mpr (by omega)⟩
    · rintro σ H' ⟨xs, f, pl, v, rfl, b', P', d', xl, _, _, _, ap, _⟩
      exact ⟨_, rfl, k D xs H' xl ap hD d' b' P'⟩
theorem sc_law : FnScope ["script", "pot", "count", "places", "points", "point", "found", "twin", "more", "at", "kept", "place"] ["script"] (defScope s_law) := ⟨rfl, rfl, rfl, by decide +kernel, rfl, by decide +kernel, by decide +kernel⟩
theorem ok_law (T : Txt K mg a) : FnOk P w K mg base CX0 6 a.f_law a.d_law ["script"] (sp_law K a) := by
  refine T.F_law.ok sc_law (fun vs H Q E h => ?len) (fun cdv A outer s H vs Q E hr h => ?body)
  case len =>
    exact sp_law_len h
  case body =>
    obtain ⟨s, ns, rfl, hS, hlen, k⟩ := h
    refine ⟨_, (pss_cons (ps_set (i := 1) sc_law.nd rfl (Or.inr rfl) (pe_call (ok_law_pot T) (hr.mono (by decide)) rfl T.g_law_pot T.F_law_pot.kp T.d_law_pot .nil pass0 (pa_cons (pv 0) pa_nil)))
      (pss_cons (ps_set (i := 2) sc_law.nd rfl (Or.inl rfl) (pe_op op_add pe_int (pe_call (ok_law_next T) (hr.mono (by decide)) rfl T.g_law_next T.F_law_next.kp T.d_law_next .nil pass0 (pa_cons (pv 1) (pa_cons pe_int pa_nil)))))
      (pss_cons (ps_set (i := 3) sc_law.nd rfl (Or.inl rfl) (pe_call (ok_law_places T) (hr.mono (by decide)) rfl T.g_law_places T.F_law_places.kp T.d_law_places .nil pass0 (pa_cons (pv 1) (pa_cons (pv 2) pa_nil))))
      (pss_cons (ps_setLc (i := 4) (own := [("place", 11)]) (g := (gName 11)) (by rfl) sc_law.nd rfl rfl (sw_true rfl rfl rfl (by decide +kernel)) (pi_list (pv 3)) (blkOk_by (own := [("place", 11)]) (N := ["script", "pot", "count", "places", "points", "point", "found", "twin", "more", "at", "kept", "place"]) (sc := defScope s_law) (by decide +kernel))
      (fun _ _ _ _ _ => (pg_name (i := 11) sc_law.nd rfl (Or.inl rfl))) (fun _ _ _ _ _ => pts_nil) (fun _ _ _ _ _ => (pe_tup (pa_cons (pv 11) (pa_cons (pe_op op_sub (pe_call (ok_law_next T) (hr.mono (by decide)) rfl T.g_law_next T.F_law_next.kp T.d_law_next .nil pass0 (pa_cons (pv 1) (pa_cons pe_int pa_nil))) pe_int) pa_nil)))))
      (pss_cons (ps_for PassesOwn.never rfl (pi_list (pv 4)) (pg_name (i := 5) sc_law.nd rfl (Or.inl rfl))
      (pss_cons (ps_set (i := 6) sc_law.nd rfl (Or.inl rfl) (pe_call (ok_value_at T) (hr.mono (by decide)) rfl T.g_value_at T.F_value_at.kp T.d_value_at .nil passL (pa_cons (pe_callTy call_list_of (by rfl) T.n_list (by decide +kernel) (pa_cons (pv 4) pa_nil)) (pa_cons (pe_ix ix_tup (pv 5) pe_int (fun _ _ => rfl)) pa_nil))))
      (pss_one (ps_if (PW.pt (pw_or (pt_not (pt_val (pe_call (ok_law_is_int T) (hr.mono (by decide)) rfl T.g_law_is_int T.F_law_is_int.kp T.d_law_is_int .nil pass0 (pa_cons (pv 6) pa_nil)))) (pw_or1 (pt_cmpR op_ne (pv 6) (pe_op op_mod (pe_callTy call_int1 (by rfl) T.n_int (by decide +kernel) (pa_cons (pe_ix ix_tup (pv 5) pe_int (fun _ _ => rfl)) pa_nil)) pe_int) (nomark _)))))
      (pss_one (ps_ret pe_bl))
      pss_nil))))
      (pss_cons (ps_set (i := 7) sc_law.nd rfl (Or.inl rfl) (pe_call (ok_law_next T) (hr.mono (by decide)) rfl T.g_law_next T.F_law_next.kp T.d_law_next .nil pass0 (pa_cons (pv 1) (pa_cons (pv 2) pa_nil))))
      (pss_cons (ps_set (i := 8) sc_law.nd rfl (Or.inl rfl) (pe_tup (pa_cons (pe_op op_add (pe_ix ix_tup (pe_ix ix_list (pv 4) (pv 7) (fun _ _ => rfl)) pe_int (fun _ _ => rfl)) (pe_op op_mul pe_int (pe_op op_sub (pe_call (ok_law_next T) (hr.mono (by decide)) rfl T.g_law_next T.F_law_next.kp T.d_law_next .nil pass0 (pa_cons (pv 1) (pa_cons pe_int pa_nil))) pe_int))) (pa_cons (pe_ix ix_tup (pe_ix ix_list (pv 4) (pv 7) (fun _ _ => rfl)) pe_int (fun _ _ => rfl)) pa_nil))))
      (pss_cons (ps_set (i := 9) sc_law.nd rfl (Or.inl rfl) (pe_call (ok_law_next T) (hr.mono (by decide)) rfl T.g_law_next T.F_law_next.kp T.d_law_next .nil pass0 (pa_cons (pv 1) (pa_cons (pe_op op_add (pv 2) pe_int) pa_nil))))
      (pss_cons (ps_if (pt_not (pt_val (pe_call (ok_law_refused T) (hr.mono (by decide)) rfl T.g_law_refused T.F_law_refused.kp T.d_law_refused .nil pass0 (pa_cons (pe_op op_cat (pe_op op_cat (pe_slice sl_list (pv 4) po_none (po_some (pv 9))) (pe_lst (pa_cons (pv 8) pa_nil))) (pe_slice sl_list (pv 4) (po_some (pv 9)) po_none)) (pa_cons (pe_call (ok_law_next T) (hr.mono (by decide)) rfl T.g_law_next T.F_law_next.kp T.d_law_next .nil pass0 (pa_cons (pv 1) (pa_cons pe_int pa_nil))) pa_nil)))))
      (pss_one (ps_ret pe_bl))
      pss_nil)
      (pss_cons (ps_set (i := 10) sc_law.nd rfl (Or.inl rfl) (pe_callTy call_list_of (by rfl) T.n_list (by decide +kernel) (pa_cons (pv 4) pa_nil)))
      (pss_cons (ps_expr (pe_call (ok_value_at T) (hr.mono (by decide)) rfl T.g_value_at T.F_value_at.kp T.d_value_at .nil passL (pa_cons (pv 4) (pa_cons pe_int pa_nil))))
      (pss_one (ps_ret (pe_and (pe_cmpR (op_eqD hr.units) (pv 4) (pv 10) (nomark _)) (pe_one (pe_call (ok_law_refused T) (hr.mono (by decide)) rfl T.g_law_refused T.F_law_refused.kp T.d_law_refused .nil pass0 (pa_cons (pe_lst pa_nil) (pa_cons pe_int pa_nil)))))))))))))))))), ?_⟩
    -- pot = _law_pot(script)
    refine ⟨_, rfl, s, ns, rfl, hS, by omega, fun p l H1 hp hl s1 P1 => ?_⟩
    -- count = 1 + _law_next(pot, 9)
    refine ⟨_, rfl, p, l, 9, rfl, P1, by decide, by decide, fun c H2 c0 c1 P2 o2 => ⟨_, _, rfl, rfl, ?_⟩⟩
    obtain ⟨n, hn⟩ : ∃ n : Nat, 1 + c = (n : Int) := ⟨(1 + c).toNat, by omega⟩
    -- places = _law_places(pot, count)
    refine ⟨_, rfl, _, rfl, p, l, n, congrArg (fun q => [V.ref p, V.int q]) hn, P2, by omega, fun D xs H3 xl xa nD hD b3 P3 => ?_⟩
    obtain ⟨_, _, _, hp2⟩ := P2.list
    have nDp : D ≠ p := (ne_of_none hp2 nD).symm
    have sq : SqL K H3 D (xs.map V.int) := SqL.of hD
    -- points = [(place, _law_next(pot, 200000) - 70000) for place in places]
    refine ⟨_, rfl, D, rfl, ⟨_, sq⟩, fun D2 n2 => lc_list (K := K) (a := D) (xs := xs.map V.int) (fun i H' => ∃ L : List (Addr × Int × Int), But p H3 H' ∧ Pot H' p l ∧ H' D2 = some (.lst (L.map fun e => V.ref e.1)) ∧ L.map (·.2.1) = xs.take i ∧ ∀ e ∈ L, H' e.1 = some (.tup [.int e.2.1, .int e.2.2]))
      ⟨[], (Same.new n2).but, P3.only Only.upd (ne_of_none P3.list.choose_spec.choose_spec.choose_spec n2) (by obtain ⟨_, _, _, _, _, g2, _⟩ := id P3; exact ne_of_none g2 n2), upd_same, rfl, fun _ m => nomatch m⟩ (fun i H' _ ⟨_, b, _⟩ => b.seq nDp sq) ?_ ?_⟩
    · rintro i y H' hi ⟨L, b', P', d', hL, hT⟩
      obtain ⟨x, hx, rfl⟩ := int_item hi
      have nd2 : D2 ≠ p := (ne_of_none P3.list.choose_spec.choose_spec.choose_spec n2).symm
      refine ⟨rfl, _, rfl, _, rfl, p, l, 200000, rfl, P', by decide, by decide, fun u H4 u0 u1 P4 o4 => ⟨_, _, rfl, rfl, (by show 2 ≤ sizeLine; decide), fun t ht => ?_⟩⟩
      have d4 : H4 D2 = some (.lst (L.map fun e => V.ref e.1)) := by rw [o4 _ nd2]; exact d'
      have ll : L.length ≤ 63 := by
        have e := congrArg List.length hL
        rw [List.length_map, List.length_take] at e
        omega
      have ntD : D2 ≠ t := ne_of_none d4 ht
      obtain ⟨_, _, _, hp4⟩ := P4.list
      have npt : p ≠ t := ne_of_none hp4 ht
      have nlt : l ≠ t := by
        obtain ⟨_, _, _, _, _, g2, _⟩ := id P4
        exact ne_of_none g2 ht
      have nlD : l ≠ D2 := by
        obtain ⟨_, _, _, _, _, g2, _⟩ := id P3
        exact ne_of_none g2 n2
      refine ⟨_, by rw [upd_ne ntD]; exact d4, small _ (by simp; omega), L ++ [(t, x, u - 70000)], ?_, (P4.only Only.upd npt nlt).only Only.upd nd2.symm nlD, ?_, ?_, ?_⟩
      · intro b o e nb
        rw [upd_ne (ne_of_none e n2)]
        have e4 : H4 b = some o := by rw [o4 _ nb]; exact b' b o e nb
        rw [upd_ne (ne_of_none e4 ht)]
        exact e4
      · rw [upd_same, List.map_append]
        rfl
      · rw [List.map_append, hL, take_snoc hx]
        rfl
      · intro e m
        rcases List.mem_append.mp m with m | m
        · have g := hT e m
          have ne2 : e.1 ≠ D2 := ne_of g d' (by intro q; cases q)
          obtain ⟨_, _, _, hp'⟩ := P'.list
          have nep : e.1 ≠ p := ne_of g hp' (by intro q; cases q)
          have g4 : H4 e.1 = some (.tup [.int e.2.1, .int e.2.2]) := by rw [o4 _ nep]; exact g
          rw [upd_ne ne2, upd_ne (ne_of_none g4 ht)]
          exact g4
        · have : e = (t, x, u - 70000) := by simpa using m
          subst this
          rw [upd_ne ntD.symm]
          exact upd_same
    · rintro H4 ⟨L, b4, P4, d4, hL, hT⟩
      rw [List.length_map, List.take_length] at hL
      have nd2 : D2 ≠ p := (P3.off n2).1.symm
      have L4 : PL H4 D2 L := ⟨d4, hT⟩
      have xs1 : (L.map (·.2)).map (·.1) = xs := by rw [List.map_map]; exact hL
      have ll : L.length = n := by rw [← xl, ← hL, List.length_map]
      have nb : ¬ BadPts (L.map (·.2)) := by
        rintro (e | e)
        · have := congrArg List.length e
          rw [List.length_map, List.length_nil] at this
          omega
        · exact e (by rw [xs1]; exact xa)
      have lz : (L.map (·.2)).length ≤ 500 := by rw [List.length_map]; omega
      -- for point in points
      refine ⟨_, rfl, D2, rfl, ⟨_, SqL.of d4⟩, for_list (K := K) (a := D2) (xs := L.map fun e => V.ref e.1) (fun i σ H' => ∃ v5 v6 : Option V, σ = [some (.ref s), some (.ref p), some (.int (1 + c)), some (.ref D), some (.ref D2), v5, v6, none, none, none, none, none] ∧ Same H4 H')
        ⟨none, none, rfl, Same.refl _⟩ (fun i σ H' _ ⟨_, _, _, e⟩ => e.seq (SqL.of d4)) ?_ ?_⟩
      · rintro i y σ H' hi ⟨v5, v6, rfl, s'⟩
        obtain ⟨e, he, rfl⟩ : ∃ e, L[i]? = some e ∧ y = .ref e.1 := by
          rw [List.getElem?_map] at hi
          cases q : L[i]? with
          | none => rw [q] at hi; cases hi
          | some e => rw [q] at hi; exact ⟨e, rfl, (Option.some.inj hi).symm⟩
        have em := List.mem_of_getElem? he
        have L' := L4.same s'
        -- found = value_at(list(points), point[0])
        refine ⟨_, rfl, D2, _, rfl, .inl (SqL.of L'.1), fun q nq => ?_⟩
        have sq' : Same H' (upd H' q (.lst (L.map fun e => V.ref e.1))) := Same.new nq
        have L2 := L'.same sq'
        refine ⟨_, rfl, e.1, _, _, _, rfl, rfl, SqT.of (L2.2 e em), at_of (j := 0) rfl rfl, q, L.map (·.2), e.2.1, rfl, ⟨L, SqL.of upd_same, rfl, fun u m => SqT.of (L2.2 u m)⟩, lz, fun b => absurd b nb, fun _ H5 s5 => ?_⟩
        have L5 := L2.same s5
        refine ⟨_, rfl, _, rfl, true, rfl, iteF ?_⟩
        refine ⟨_, rfl, _, rfl, e.1, _, _, _, rfl, rfl, SqT.of (L5.2 e em), at_of (j := 1) rfl rfl, .inl ⟨_, rfl, _, _, rfl, rfl, (by show (0 : Int) < 65521; decide), rfl, _, rfl, ?_⟩⟩
        have ev : valM (placesM (L.map (·.2))) ((L.map (·.2)).map (·.2)) e.2.1 = e.2.2 % 65521 := by
          have w := valM_word (placesM (L.map (·.2))) ((L.map (·.2)).map (·.2)) e.2.1
          have ap : Apart (placesM (L.map (·.2))) := apart_words.mpr (by rw [xs1]; exact xa)
          have gi : (placesM (L.map (·.2))).getD i 0 = e.2.1 % 65521 := getD_item (by simp [placesM, he])
          have gy : ((L.map (·.2)).map (·.2)).getD i 0 = e.2.2 := getD_item (by simp [he])
          have nv := valM_node (ys := (L.map (·.2)).map (·.2)) ap (x := e.2.1) (j := i) (by have := item_lt he; simpa [placesM] using this) (by rw [gi, z_mod])
          rw [gy] at nv
          exact z_inj w.1 w.2 (Int.emod_nonneg _ (by decide)) (Int.emod_lt_of_pos _ (by decide)) (nv.trans (z_mod _).symm)
        refine ite2 (fun q => ?_) (fun _ => ⟨_, _, rfl, (s'.trans sq').trans s5⟩)
        exfalso
        have : decide (V.int (valM (placesM (L.map (·.2))) ((L.map (·.2)).map (·.2)) e.2.1) = V.int (e.2.2 % 65521)) = true := decide_eq_true (congrArg V.int ev)
        have q' : (!decide (V.int (valM (placesM (L.map (·.2))) ((L.map (·.2)).map (·.2)) e.2.1) = V.int (e.2.2 % 65521))) = true := q
        rw [this] at q'
        cases q'
      · rintro σ H5 ⟨v5, v6, rfl, s5⟩
        have P5 := P4.same s5
        have L5 := L4.same s5
        -- twin = _law_next(pot, count)
        refine ⟨_, rfl, _, rfl, p, l, 1 + c, rfl, P5, by omega, by omega, fun tw H6 t0 t1 P6 o6 => ?_⟩
        have L6 := L5.but P5 nd2 o6.but
        obtain ⟨j, rfl⟩ : ∃ j : Nat, tw = (j : Int) := ⟨tw.toNat, by omega⟩
        have hj : j < L.length := by omega
        obtain ⟨e, he⟩ : ∃ e, L[j]? = some e := ⟨_, List.getElem?_eq_getElem hj⟩
        have em := List.mem_of_getElem? he
        have hr' : (L.map fun e => V.ref e.1)[j]? = some (V.ref e.1) := by rw [List.getElem?_map, he]; rfl
        -- more = (points[twin][0] + 65521 * (_law_next(pot, 3) - 1), points[twin][1])
        refine ⟨_, rfl, _, rfl, D2, _, _, _, rfl, rfl, SqL.of L6.1, at_of (j := j) rfl hr', e.1, _, _, _, rfl, rfl, SqT.of (L6.2 e em), at_of (j := 0) rfl rfl, _, rfl, p, l, 3, rfl, P6, by decide, by decide, fun u H7 u0 u1 P7 o7 => ?_⟩
        have L7 := L6.but P6 nd2 o7.but
        refine ⟨_, _, rfl, rfl, _, _, rfl, rfl, .inl ⟨by decide, by decide⟩, _, _, rfl, rfl, ?_⟩
        refine ⟨_, rfl, _, rfl, D2, _, _, _, rfl, rfl, SqL.of L7.1, at_of (j := j) rfl hr', e.1, _, _, _, rfl, rfl, SqT.of (L7.2 e em), at_of (j := 1) rfl rfl, (by show 2 ≤ sizeLine; decide), fun M nM => ?_⟩
        have P8 := P7.new (o := .tup [V.int (e.2.1 + 65521 * (u - 1)), V.int e.2.2]) nM
        have L8 := L7.same (Same.new (o := .tup [V.int (e.2.1 + 65521 * (u - 1)), V.int e.2.2]) nM)
        -- at = _law_next(pot, count + 1)
        refine ⟨_, rfl, _, rfl, _, _, rfl, rfl, p, l, 1 + c + 1, rfl, P8, by omega, by omega, fun at_ H9 a0 a1 P9 o9 => ?_⟩
        have L9 := L8.but P8 nd2 o9.but
        have npM : M ≠ p := (P7.off nM).1.symm
        have m9 : H9 M = some (.tup [V.int (e.2.1 + 65521 * (u - 1)), V.int e.2.2]) := by rw [o9 _ npM]; exact upd_same
        obtain ⟨i, rfl⟩ : ∃ i : Nat, at_ = (i : Int) := ⟨at_.toNat, by omega⟩
        -- _law_refused(points[:at] + [more] + points[at:], _law_next(pot, 100))
        refine ⟨_, rfl, _, rfl, _, rfl, D2, _, rfl, SqL.of L9.1, fun q1 n1 => ?_⟩
        rw [cut_take]
        have S1 := Same.new (o := .lst ((L.map fun e => V.ref e.1).take i)) n1
        refine ⟨_, rfl, (by show 1 ≤ sizeLine; decide), fun q2 n2 => ?_⟩
        have S2 := Same.new (o := .lst [V.ref M]) n2
        have w1 := S2 _ _ (upd_same (H := H9) (a := q1) (o := .lst ((L.map fun e => V.ref e.1).take i)))
        refine ⟨q1, q2, _, _, rfl, rfl, w1, upd_same, Nat.le_of_lt (small _ (by simp; omega)), fun q3 n3 => ?_⟩
        have S3 := Same.new (o := .lst ((L.map fun e => V.ref e.1).take i ++ [V.ref M])) n3
        have S13 := (S1.trans S2).trans S3
        refine ⟨_, rfl, _, rfl, _, rfl, D2, _, rfl, SqL.of (L9.same S13).1, fun q4 n4 => ?_⟩
        rw [cut_drop]
        have S4 := Same.new (o := .lst ((L.map fun e => V.ref e.1).drop i)) n4
        have w3 := S4 _ _ (upd_same (H := upd (upd H9 q1 (.lst ((L.map fun e => V.ref e.1).take i))) q2 (.lst [V.ref M])) (a := q3) (o := .lst ((L.map fun e => V.ref e.1).take i ++ [V.ref M])))
        refine ⟨q3, q4, _, _, rfl, rfl, w3, upd_same, Nat.le_of_lt (small _ (by simp; omega)), fun q5 n5 => ?_⟩
        have S5 := Same.new (o := .lst ((L.map fun e => V.ref e.1).take i ++ [V.ref M] ++ (L.map fun e => V.ref e.1).drop i)) n5
        have S15 := (S13.trans S4).trans S5
        have P10 := P9.same S15
        have n5p : q5 ≠ p := ((P9.same (S13.trans S4)).off n5).1.symm
        refine ⟨_, rfl, p, l, 100, rfl, P10, by decide, by decide, fun x H11 x0 x1 P11 o11 => ?_⟩
        have L10 := L9.same S15
        have L11 := L10.but P10 nd2 o11.but
        have m11 : H11 M = some (.tup [V.int (e.2.1 + 65521 * (u - 1)), V.int e.2.2]) := by rw [o11 _ npM]; exact S15 _ _ m9
        have bad : BadPts ((L.take i ++ [(M, e.2.1 + 65521 * (u - 1), e.2.2)] ++ L.drop i).map (·.2)) := by
          refine .inr fun ap => ?_
          have perm : ((L.take i ++ [(M, e.2.1 + 65521 * (u - 1), e.2.2)] ++ L.drop i).map fun t => z t.2.1).Perm (((M, e.2.1 + 65521 * (u - 1), e.2.2) :: L).map fun t => z t.2.1) := by
            refine List.Perm.map _ ?_
            have := List.perm_middle (a := (M, e.2.1 + 65521 * (u - 1), e.2.2)) (l₁ := L.take i) (l₂ := L.drop i)
            rw [List.take_append_drop] at this
            simpa using this
          have nd : (((M, e.2.1 + 65521 * (u - 1), e.2.2) :: L).map fun t => z t.2.1).Nodup := by
            refine perm.nodup_iff.mp ?_
            have : ((L.take i ++ [(M, e.2.1 + 65521 * (u - 1), e.2.2)] ++ L.drop i).map fun t => z t.2.1) = ((((L.take i ++ [(M, e.2.1 + 65521 * (u - 1), e.2.2)] ++ L.drop i).map (·.2)).map (·.1)).map z) := by
              rw [List.map_map, List.map_map]
              rfl
            rw [this]
            exact ap
          rw [List.map_cons, List.nodup_cons] at nd
          exact nd.1 (List.mem_map.mpr ⟨e, em, z_eq.mpr (by show e.2.1 % 65521 = (e.2.1 + 65521 * (u - 1)) % 65521; omega)⟩)
        refine ⟨q5, (L.take i ++ [(M, e.2.1 + 65521 * (u - 1), e.2.2)] ++ L.drop i).map (·.2), x, rfl, ⟨L.take i ++ [(M, e.2.1 + 65521 * (u - 1), e.2.2)] ++ L.drop i, SqL.of ?_, rfl, ?_⟩, by simp; omega, bad, fun H12 s12 => ?_⟩
        · rw [o11 _ n5p, upd_same, List.map_append, List.map_append, List.map_take, List.map_drop]
          rfl
        · intro t m
          rcases List.mem_append.mp m with m | m
          · rcases List.mem_append.mp m with m | m
            · exact SqT.of (L11.2 t (List.mem_of_mem_take m))
            · have : t = (M, e.2.1 + 65521 * (u - 1), e.2.2) := by simpa using m
              subst this
              exact SqT.of m11
          · exact SqT.of (L11.2 t (List.mem_of_mem_drop m))
        have L12 := L11.same s12
        refine ⟨true, rfl, iteF ?_⟩
        -- kept = list(points)
        refine ⟨_, rfl, D2, _, rfl, .inl (SqL.of L12.1), fun q6 n6 => ?_⟩
        have S6 := Same.new (o := .lst (L.map fun e => V.ref e.1)) n6
        have k6 : PL (upd H12 q6 (.lst (L.map fun e => V.ref e.1))) q6 L := ⟨upd_same, fun t m => S6 _ _ (L12.2 t m)⟩
        have L13 := L12.same S6
        -- value_at(points, 5)
        refine ⟨_, rfl, D2, L.map (·.2), 5, rfl, L13.at, lz, fun b => absurd b nb, fun _ H14 s14 => ?_⟩
        have L14 := L13.same s14
        have k14 := k6.same s14
        -- return points == kept and _law_refused([], 5)
        refine ⟨_, rfl, _, rfl, _, _, (L14.at (K := K)).dp, (k14.at (K := K)).dp, pairs_shaped _, pairs_shaped _, _, rfl, ?_⟩
        rw [pairs_eqv]
        refine iteT ⟨Nat.zero_le _, fun q7 n7 => ?_⟩
        exact ⟨q7, [], 5, rfl, ⟨[], SqL.of upd_same, rfl, fun _ m => nomatch m⟩, by simp, .inl rfl, fun H _ => k H⟩
end
theorem all_mk {l : PySem.W.OpenLaw} {w : World} {K : PySem.W.Frag} {h : Heap} {mg : Str → Option Value} {fa : Addr} (X : K.In h) (G : h.Ns mainGlobals mg) (hfa : mg "law" = some (.ref fa))
    {f_inverse : Addr} {oc_inverse kV_inverse dc_inverse pm_inverse cd_inverse ct_inverse : Value} {od_inverse an_inverse : Option Addr} {sl_inverse : Array (Option Value)}
    {f_distinct_places : Addr} {oc_distinct_places kV_distinct_places dc_distinct_places pm_distinct_places cd_distinct_places ct_distinct_places : Value} {od_distinct_places an_distinct_places : Option Addr} {sl_distinct_places : Array (Option Value)}
    {f_weight : Addr} {oc_weight kV_weight dc_weight pm_weight cd_weight ct_weight : Value} {od_weight an_weight : Option Addr} {sl_weight : Array (Option Value)}
    {f_weights : Addr} {oc_weights kV_weights dc_weights pm_weights cd_weights ct_weights : Value} {od_weights an_weights : Option Addr} {sl_weights : Array (Option Value)}
    {f_value_at : Addr} {oc_value_at kV_value_at dc_value_at pm_value_at cd_value_at ct_value_at : Value} {od_value_at an_value_at : Option Addr} {sl_value_at : Array (Option Value)}
    {f_law_pot : Addr} {oc_law_pot kV_law_pot dc_law_pot pm_law_pot cd_law_pot ct_law_pot : Value} {od_law_pot an_law_pot : Option Addr} {sl_law_pot : Array (Option Value)}
    {f_law_next : Addr} {oc_law_next kV_law_next dc_law_next pm_law_next cd_law_next ct_law_next : Value} {od_law_next an_law_next : Option Addr} {sl_law_next : Array (Option Value)}
    {f_law_is_int : Addr} {oc_law_is_int kV_law_is_int dc_law_is_int pm_law_is_int cd_law_is_int ct_law_is_int : Value} {od_law_is_int an_law_is_int : Option Addr} {sl_law_is_int : Array (Option Value)}
    {f_law_refused : Addr} {oc_law_refused kV_law_refused dc_law_refused pm_law_refused cd_law_refused ct_law_refused : Value} {od_law_refused an_law_refused : Option Addr} {sl_law_refused : Array (Option Value)}
    {f_law_places : Addr} {oc_law_places kV_law_places dc_law_places pm_law_places cd_law_places ct_law_places : Value} {od_law_places an_law_places : Option Addr} {sl_law_places : Array (Option Value)}
    {f_law : Addr} {oc_law kV_law dc_law pm_law cd_law ct_law : Value} {od_law an_law : Option Addr} {sl_law : Array (Option Value)}
    {c_PoolError : Addr}
    {c_InvalidArgument : Addr}
    {tk_PRIME : Tok}
    (a_inverse : PySem.W.nsIn K mainGlobals "inverse" = some (some (.ref f_inverse)))
    (l_inverse : K.lookup f_inverse = some ⟨oc_inverse, od_inverse, .func (PySem.W.fnOf "inverse" "inverse" (defArgs s_inverse) (defBody s_inverse) (defScope s_inverse) .none kV_inverse dc_inverse pm_inverse an_inverse cd_inverse ct_inverse), sl_inverse⟩)
    (q_inverse : PySem.W.codeIn K cd_inverse "inverse" = true)
    (k_inverse : PySem.W.keepIn K (.ref f_inverse) = true)
    (a_distinct_places : PySem.W.nsIn K mainGlobals "distinct_places" = some (some (.ref f_distinct_places)))
    (l_distinct_places : K.lookup f_distinct_places = some ⟨oc_distinct_places, od_distinct_places, .func (PySem.W.fnOf "distinct_places" "distinct_places" (defArgs s_distinct_places) (defBody s_distinct_places) (defScope s_distinct_places) .none kV_distinct_places dc_distinct_places pm_distinct_places an_distinct_places cd_distinct_places ct_distinct_places), sl_distinct_places⟩)
    (q_distinct_places : PySem.W.codeIn K cd_distinct_places "distinct_places" = true)
    (k_distinct_places : PySem.W.keepIn K (.ref f_distinct_places) = true)
    (a_weight : PySem.W.nsIn K mainGlobals "weight" = some (some (.ref f_weight)))
    (l_weight : K.lookup f_weight = some ⟨oc_weight, od_weight, .func (PySem.W.fnOf "weight" "weight" (defArgs s_weight) (defBody s_weight) (defScope s_weight) .none kV_weight dc_weight pm_weight an_weight cd_weight ct_weight), sl_weight⟩)
    (q_weight : PySem.W.codeIn K cd_weight "weight" = true)
    (k_weight : PySem.W.keepIn K (.ref f_weight) = true)
    (a_weights : PySem.W.nsIn K mainGlobals "weights" = some (some (.ref f_weights)))
    (l_weights : K.lookup f_weights = some ⟨oc_weights, od_weights, .func (PySem.W.fnOf "weights" "weights" (defArgs s_weights) (defBody s_weights) (defScope s_weights) .none kV_weights dc_weights pm_weights an_weights cd_weights ct_weights), sl_weights⟩)
    (q_weights : PySem.W.codeIn K cd_weights "weights" = true)
    (k_weights : PySem.W.keepIn K (.ref f_weights) = true)
    (a_value_at : PySem.W.nsIn K mainGlobals "value_at" = some (some (.ref f_value_at)))
    (l_value_at : K.lookup f_value_at = some ⟨oc_value_at, od_value_at, .func (PySem.W.fnOf "value_at" "value_at" (defArgs s_value_at) (defBody s_value_at) (defScope s_value_at) .none kV_value_at dc_value_at pm_value_at an_value_at cd_value_at ct_value_at), sl_value_at⟩)
    (q_value_at : PySem.W.codeIn K cd_value_at "value_at" = true)
    (k_value_at : PySem.W.keepIn K (.ref f_value_at) = true)
    (a_law_pot : PySem.W.nsIn K mainGlobals "_law_pot" = some (some (.ref f_law_pot)))
    (l_law_pot : K.lookup f_law_pot = some ⟨oc_law_pot, od_law_pot, .func (PySem.W.fnOf "_law_pot" "_law_pot" (defArgs s_law_pot) (defBody s_law_pot) (defScope s_law_pot) .none kV_law_pot dc_law_pot pm_law_pot an_law_pot cd_law_pot ct_law_pot), sl_law_pot⟩)
    (q_law_pot : PySem.W.codeIn K cd_law_pot "_law_pot" = true)
    (k_law_pot : PySem.W.keepIn K (.ref f_law_pot) = true)
    (a_law_next : PySem.W.nsIn K mainGlobals "_law_next" = some (some (.ref f_law_next)))
    (l_law_next : K.lookup f_law_next = some ⟨oc_law_next, od_law_next, .func (PySem.W.fnOf "_law_next" "_law_next" (defArgs s_law_next) (defBody s_law_next) (defScope s_law_next) .none kV_law_next dc_law_next pm_law_next an_law_next cd_law_next ct_law_next), sl_law_next⟩)
    (q_law_next : PySem.W.codeIn K cd_law_next "_law_next" = true)
    (k_law_next : PySem.W.keepIn K (.ref f_law_next) = true)
    (a_law_is_int : PySem.W.nsIn K mainGlobals "_law_is_int" = some (some (.ref f_law_is_int)))
    (l_law_is_int : K.lookup f_law_is_int = some ⟨oc_law_is_int, od_law_is_int, .func (PySem.W.fnOf "_law_is_int" "_law_is_int" (defArgs s_law_is_int) (defBody s_law_is_int) (defScope s_law_is_int) .none kV_law_is_int dc_law_is_int pm_law_is_int an_law_is_int cd_law_is_int ct_law_is_int), sl_law_is_int⟩)
    (q_law_is_int : PySem.W.codeIn K cd_law_is_int "_law_is_int" = true)
    (k_law_is_int : PySem.W.keepIn K (.ref f_law_is_int) = true)
    (a_law_refused : PySem.W.nsIn K mainGlobals "_law_refused" = some (some (.ref f_law_refused)))
    (l_law_refused : K.lookup f_law_refused = some ⟨oc_law_refused, od_law_refused, .func (PySem.W.fnOf "_law_refused" "_law_refused" (defArgs s_law_refused) (defBody s_law_refused) (defScope s_law_refused) .none kV_law_refused dc_law_refused pm_law_refused an_law_refused cd_law_refused ct_law_refused), sl_law_refused⟩)
    (q_law_refused : PySem.W.codeIn K cd_law_refused "_law_refused" = true)
    (k_law_refused : PySem.W.keepIn K (.ref f_law_refused) = true)
    (a_law_places : PySem.W.nsIn K mainGlobals "_law_places" = some (some (.ref f_law_places)))
    (l_law_places : K.lookup f_law_places = some ⟨oc_law_places, od_law_places, .func (PySem.W.fnOf "_law_places" "_law_places" (defArgs s_law_places) (defBody s_law_places) (defScope s_law_places) .none kV_law_places dc_law_places pm_law_places an_law_places cd_law_places ct_law_places), sl_law_places⟩)
    (q_law_places : PySem.W.codeIn K cd_law_places "_law_places" = true)
    (k_law_places : PySem.W.keepIn K (.ref f_law_places) = true)
    (a_law : PySem.W.nsIn K mainGlobals "law" = some (some (.ref f_law)))
    (l_law : K.lookup f_law = some ⟨oc_law, od_law, .func (PySem.W.fnOf "law" "law" (defArgs s_law) (defBody s_law) (defScope s_law) .none kV_law dc_law pm_law an_law cd_law ct_law), sl_law⟩)
    (q_law : PySem.W.codeIn K cd_law "law" = true)
    (k_law : PySem.W.keepIn K (.ref f_law) = true)
    (a_PRIME : PySem.W.nsIn K mainGlobals "PRIME" = some (some (.int 65521 tk_PRIME)))
    (n_len : PySem.W.nsIn K mainGlobals "len" = some none)
    (n_set : PySem.W.nsIn K mainGlobals "set" = some none)
    (n_enumerate : PySem.W.nsIn K mainGlobals "enumerate" = some none)
    (n_sum : PySem.W.nsIn K mainGlobals "sum" = some none)
    (n_zip : PySem.W.nsIn K mainGlobals "zip" = some none)
    (n_list : PySem.W.nsIn K mainGlobals "list" = some none)
    (n_int : PySem.W.nsIn K mainGlobals "int" = some none)
    (n_abs : PySem.W.nsIn K mainGlobals "abs" = some none)
    (n_isinstance : PySem.W.nsIn K mainGlobals "isinstance" = some none)
    (n_bool : PySem.W.nsIn K mainGlobals "bool" = some none)
    (n_range : PySem.W.nsIn K mainGlobals "range" = some none)
    (a_PoolError : PySem.W.nsIn K mainGlobals "PoolError" = some (some (.ref c_PoolError)))
    (x_PoolError : PySem.W.excIn K c_PoolError [.type "ValueError", .type "Exception", .type "BaseException", .type "object"] "ValueError.__new__" = true)
    (k_PoolError : PySem.W.keepIn K (.ref c_PoolError) = true)
    (b_PoolError : PySem.W.subIn K (.ref c_PoolError) (.type "BaseException") = some true)
    (t_PoolError : PySem.W.typeIn K (.ref c_PoolError) = some (.type "type"))
    (E1_PoolError : PySem.W.findIn K (.ref c_PoolError) "__getattribute__" = some (some (.builtin "BaseException.__getattribute__")))
    (E2_PoolError : PySem.W.findIn K (.ref c_PoolError) "__getattr__" = some none)
    (E3_PoolError : PySem.W.hasDictIn K c_PoolError = true)
    (E4_PoolError : PySem.W.findIn K (.ref c_PoolError) "__class__" = some (some (.builtin "object.__class__")))
    (s_PoolError : PySem.W.subIn K (.ref c_PoolError) (.ref c_PoolError) = some true)
    (E5_PoolError : PySem.W.mroIn K c_PoolError (.type "object") = some true)
    (a_InvalidArgument : PySem.W.nsIn K mainGlobals "InvalidArgument" = some (some (.ref c_InvalidArgument)))
    (x_InvalidArgument : PySem.W.excIn K c_InvalidArgument [.type "ValueError", .type "Exception", .type "BaseException", .type "object"] "ValueError.__new__" = true)
    (k_InvalidArgument : PySem.W.keepIn K (.ref c_InvalidArgument) = true)
    (b_InvalidArgument : PySem.W.subIn K (.ref c_InvalidArgument) (.type "BaseException") = some true)
    (t_InvalidArgument : PySem.W.typeIn K (.ref c_InvalidArgument) = some (.type "type"))
    (E1_InvalidArgument : PySem.W.findIn K (.ref c_InvalidArgument) "__getattribute__" = some (some (.builtin "BaseException.__getattribute__")))
    (E2_InvalidArgument : PySem.W.findIn K (.ref c_InvalidArgument) "__getattr__" = some none)
    (E3_InvalidArgument : PySem.W.hasDictIn K c_InvalidArgument = true)
    (E4_InvalidArgument : PySem.W.findIn K (.ref c_InvalidArgument) "__class__" = some (some (.builtin "object.__class__")))
    (s_InvalidArgument : PySem.W.subIn K (.ref c_InvalidArgument) (.ref c_InvalidArgument) = some true)
    (E5_InvalidArgument : PySem.W.mroIn K c_InvalidArgument (.type "object") = some true)
    (E6 : PySem.W.specialIn K (.builtin "object.__class__") "__get__" = some (some (.builtin "getset_descriptor.__get__")))
    (E7 : PySem.W.takesIn K (.builtin "object.__class__") = some true)
    (u_InvalidArgument_PoolError : PySem.W.subIn K (.ref c_InvalidArgument) (.ref c_PoolError) = some true) :
    ∃ fd : FuncData, (∀ (s : Shared) (v : Value), BindsTo s fd ⟨[v], []⟩ [("script", v)]) ∧ ∀ base : Heap, K.In base → base.Ns mainGlobals mg → FnOk l.prog w K mg base CX0 6 fa fd ["script"] (sp_law0 K) := by
  have e := hfa.symm.trans (PySem.W.mg_of X G a_law)
  cases e
  have F_inverse := fun_mk (st := s_inverse) l_inverse q_inverse k_inverse
  have d_inverse := F_inverse.binds (ps := ["a"]) fun _ _ _ _ _ _ us hl => match us, hl with | [_], _ => rfl
  have F_distinct_places := fun_mk (st := s_distinct_places) l_distinct_places q_distinct_places k_distinct_places
  have d_distinct_places := F_distinct_places.binds (ps := ["points"]) fun _ _ _ _ _ _ us hl => match us, hl with | [_], _ => rfl
  have F_weight := fun_mk (st := s_weight) l_weight q_weight k_weight
  have d_weight := F_weight.binds (ps := ["place", "others", "x"]) fun _ _ _ _ _ _ us hl => match us, hl with | [_, _, _], _ => rfl
  have F_weights := fun_mk (st := s_weights) l_weights q_weights k_weights
  have d_weights := F_weights.binds (ps := ["places", "x"]) fun _ _ _ _ _ _ us hl => match us, hl with | [_, _], _ => rfl
  have F_value_at := fun_mk (st := s_value_at) l_value_at q_value_at k_value_at
  have d_value_at := F_value_at.binds (ps := ["points", "x"]) fun _ _ _ _ _ _ us hl => match us, hl with | [_, _], _ => rfl
  have F_law_pot := fun_mk (st := s_law_pot) l_law_pot q_law_pot k_law_pot
  have d_law_pot := F_law_pot.binds (ps := ["script"]) fun _ _ _ _ _ _ us hl => match us, hl with | [_], _ => rfl
  have F_law_next := fun_mk (st := s_law_next) l_law_next q_law_next k_law_next
  have d_law_next := F_law_next.binds (ps := ["pot", "limit"]) fun _ _ _ _ _ _ us hl => match us, hl with | [_, _], _ => rfl
  have F_law_is_int := fun_mk (st := s_law_is_int) l_law_is_int q_law_is_int k_law_is_int
  have d_law_is_int := F_law_is_int.binds (ps := ["value"]) fun _ _ _ _ _ _ us hl => match us, hl with | [_], _ => rfl
  have F_law_refused := fun_mk (st := s_law_refused) l_law_refused q_law_refused k_law_refused
  have d_law_refused := F_law_refused.binds (ps := ["points", "x"]) fun _ _ _ _ _ _ us hl => match us, hl with | [_, _], _ => rfl
  have F_law_places := fun_mk (st := s_law_places) l_law_places q_law_places k_law_places
  have d_law_places := F_law_places.binds (ps := ["pot", "count"]) fun _ _ _ _ _ _ us hl => match us, hl with | [_, _], _ => rfl
  have F_law := fun_mk (st := s_law) l_law q_law k_law
  have d_law := F_law.binds (ps := ["script"]) fun _ _ _ _ _ _ us hl => match us, hl with | [_], _ => rfl
  have T : Txt K mg ⟨f_inverse, _, f_distinct_places, _, f_weight, _, f_weights, _, f_value_at, _, f_law_pot, _, f_law_next, _, f_law_is_int, _, f_law_refused, _, f_law_places, _, fa, _, c_PoolError, c_InvalidArgument⟩ := {
    F_inverse := F_inverse, g_inverse := PySem.W.mg_of X G a_inverse, d_inverse := d_inverse,
    F_distinct_places := F_distinct_places, g_distinct_places := PySem.W.mg_of X G a_distinct_places, d_distinct_places := d_distinct_places,
    F_weight := F_weight, g_weight := PySem.W.mg_of X G a_weight, d_weight := d_weight,
    F_weights := F_weights, g_weights := PySem.W.mg_of X G a_weights, d_weights := d_weights,
    F_value_at := F_value_at, g_value_at := PySem.W.mg_of X G a_value_at, d_value_at := d_value_at,
    F_law_pot := F_law_pot, g_law_pot := PySem.W.mg_of X G a_law_pot, d_law_pot := d_law_pot,
    F_law_next := F_law_next, g_law_next := PySem.W.mg_of X G a_law_next, d_law_next := d_law_next,
    F_law_is_int := F_law_is_int, g_law_is_int := PySem.W.mg_of X G a_law_is_int, d_law_is_int := d_law_is_int,
    F_law_refused := F_law_refused, g_law_refused := PySem.W.mg_of X G a_law_refused, d_law_refused := d_law_refused,
    F_law_places := F_law_places, g_law_places := PySem.W.mg_of X G a_law_places, d_law_places := d_law_places,
    F_law := F_law, g_law := PySem.W.mg_of X G a_law, d_law := d_law,
    g_PRIME := ⟨_, PySem.W.mg_of X G a_PRIME, ⟨_, rfl⟩⟩,
    n_len := PySem.W.mg_none_of X G n_len,
    n_set := PySem.W.mg_none_of X G n_set,
    n_enumerate := PySem.W.mg_none_of X G n_enumerate,
    n_sum := PySem.W.mg_none_of X G n_sum,
    n_zip := PySem.W.mg_none_of X G n_zip,
    n_list := PySem.W.mg_none_of X G n_list,
    n_int := PySem.W.mg_none_of X G n_int,
    n_abs := PySem.W.mg_none_of X G n_abs,
    n_isinstance := PySem.W.mg_none_of X G n_isinstance,
    n_bool := PySem.W.mg_none_of X G n_bool,
    n_range := PySem.W.mg_none_of X G n_range,
    g_PoolError := PySem.W.mg_of X G a_PoolError, x_PoolError := x_PoolError, k_PoolError := k_PoolError, b_PoolError := b_PoolError, t_PoolError := t_PoolError, E_PoolError := ⟨E1_PoolError, E2_PoolError, b_PoolError, E3_PoolError, E4_PoolError, E6, E7, E5_PoolError⟩,
    g_InvalidArgument := PySem.W.mg_of X G a_InvalidArgument, x_InvalidArgument := x_InvalidArgument, k_InvalidArgument := k_InvalidArgument, b_InvalidArgument := b_InvalidArgument, t_InvalidArgument := t_InvalidArgument, E_InvalidArgument := ⟨E1_InvalidArgument, E2_InvalidArgument, b_InvalidArgument, E3_InvalidArgument, E4_InvalidArgument, E6, E7, E5_InvalidArgument⟩,
    u_InvalidArgument_PoolError := PySem.W.exm_ref b_PoolError E3_PoolError t_PoolError u_InvalidArgument_PoolError,
    i_InvalidArgument_InvalidArgument := kit_self }
  exact ⟨PySem.W.fnOf "law" "law" (defArgs s_law) (defBody s_law) (defScope s_law) .none kV_law dc_law pm_law an_law cd_law ct_law, fun s v => .of_eq rfl, fun base _ _ => (ok_law T).imp fun vs H Q E h => h⟩
theorem walk {l : PySem.W.OpenLaw} {q : Program} {loose : List Str} {XP : (Str → Option Value) → Heap → Prop} {YP : World → Heap → Prop} {d : DefRec} {K : Params → PySem.W.Frag} (hn : l.most = some 63) (hdf : d.params.defaults = [])
    (hY : ∀ (w : World) (h : Heap), YP w h → (K w.params).In h)
    (F : ∀ (w : World) (mg : Str → Option Value) (fa : Addr) (h : Heap), (K w.params).In h → h.Ns mainGlobals mg → mg d.name = some (.ref fa) →
      ∃ fd : FuncData, (∀ (s : Shared) (u : Value), BindsTo s fd ⟨[u], []⟩ [("script", u)]) ∧ ∀ base : Heap, (K w.params).In base → base.Ns mainGlobals mg → FnOk l.prog w (K w.params) mg base CX0 6 fa fd ["script"] (sp_law0 (K w.params))) :
    PySem.W.WalkO q loose XP YP l.row.toRowW d [] (fun f vs => PySem.call f vs) :=
  L2.walk_of (n := 63) (k := 6) (x := "script") (CX := fun _ => CX0) (sp := fun w => sp_law0 (K w.params)) hn (by decide) hdf ⟨rfl, by decide, by decide⟩ hY F (fun _ _ a ns hl _ hS => ⟨a, ns, rfl, hS, hl, fun _ => rfl⟩) fun _ _ _ _ _ z => z
end PP
open PySem PySem.W PyProof.Rows
set_option maxRecDepth 100000 in
set_option maxHeartbeats 0 in
theorem PySem.Challenge.cw_paritypool_k01_value_at_the_points_holds : PySem.Challenge.rw_paritypool_k01_value_at_the_points.Holds := by
  w_on; o_law; k_head; (case hw => w_witness2)
  k_fill
  refine PP.walk (l := PySem.Challenge.rw_paritypool_k01_value_at_the_points) rfl rfl (fun w h Y => PySem.W.kIn_of Y) ?F
  case F =>
    intro w mg fa h KX G hmg
    refine' PP.all_mk KX G hmg ?a_inverse ?l_inverse ?q_inverse ?k_inverse ?a_distinct_places ?l_distinct_places ?q_distinct_places ?k_distinct_places ?a_weight ?l_weight ?q_weight ?k_weight ?a_weights ?l_weights ?q_weights ?k_weights ?a_value_at ?l_value_at ?q_value_at ?k_value_at ?a_law_pot ?l_law_pot ?q_law_pot ?k_law_pot ?a_law_next ?l_law_next ?q_law_next ?k_law_next ?a_law_is_int ?l_law_is_int ?q_law_is_int ?k_law_is_int ?a_law_refused ?l_law_refused ?q_law_refused ?k_law_refused ?a_law_places ?l_law_places ?q_law_places ?k_law_places ?a_law ?l_law ?q_law ?k_law ?a_PRIME ?n_len ?n_set ?n_enumerate ?n_sum ?n_zip ?n_list ?n_int ?n_abs ?n_isinstance ?n_bool ?n_range ?a_PoolError ?x_PoolError ?k_PoolError ?b_PoolError ?t_PoolError ?E1_PoolError ?E2_PoolError ?E3_PoolError ?E4_PoolError ?s_PoolError ?E5_PoolError ?a_InvalidArgument ?x_InvalidArgument ?k_InvalidArgument ?b_InvalidArgument ?t_InvalidArgument ?E1_InvalidArgument ?E2_InvalidArgument ?E3_InvalidArgument ?E4_InvalidArgument ?s_InvalidArgument ?E5_InvalidArgument ?E6 ?E7 ?u_InvalidArgument_PoolError
    (case a_inverse => k_is)
    (case l_inverse => k_is)
    (case q_inverse => k_is)
    (case k_inverse => k_is)
    (case a_distinct_places => k_is)
    (case l_distinct_places => k_is)
    (case q_distinct_places => k_is)
    (case k_distinct_places => k_is)
    (case a_weight => k_is)
    (case l_weight => k_is)
    (case q_weight => k_is)
    (case k_weight => k_is)
    (case a_weights => k_is)
    (case l_weights => k_is)
    (case q_weights => k_is)
    (case k_weights => k_is)
    (case a_value_at => k_is)
    (case l_value_at => k_is)
    (case q_value_at => k_is)
    (case k_value_at => k_is)
    (case a_law_pot => k_is)
    (case l_law_pot => k_is)
    (case q_law_pot => k_is)
    (case k_law_pot => k_is)
    (case a_law_next => k_is)
    (case l_law_next => k_is)
    (case q_law_next => k_is)
    (case k_law_next => k_is)
    (case a_law_is_int => k_is)
    (case l_law_is_int => k_is)
    (case q_law_is_int => k_is)
    (case k_law_is_int => k_is)
    (case a_law_refused => k_is)
    (case l_law_refused => k_is)
    (case q_law_refused => k_is)
    (case k_law_refused => k_is)
    (case a_law_places => k_is)
    (case l_law_places => k_is)
    (case q_law_places => k_is)
    (case k_law_places => k_is)
    (case a_law => k_is)
    (case l_law => k_is)
    (case q_law => k_is)
    (case k_law => k_is)
    (case a_PRIME => k_is)
    (case n_len => k_is)
    (case n_set => k_is)
    (case n_enumerate => k_is)
    (case n_sum => k_is)
    (case n_zip => k_is)
    (case n_list => k_is)
    (case n_int => k_is)
    (case n_abs => k_is)
    (case n_isinstance => k_is)
    (case n_bool => k_is)
    (case n_range => k_is)
    (case a_PoolError => k_is)
    (case x_PoolError => k_exc)
    (case k_PoolError => k_is)
    (case b_PoolError => k_is)
    (case t_PoolError => k_is)
    (case E1_PoolError => k_is)
    (case E2_PoolError => k_is)
    (case E3_PoolError => k_is)
    (case E4_PoolError => k_is)
    (case s_PoolError => first | rfl | k_is)
    (case E5_PoolError => k_is)
    (case a_InvalidArgument => k_is)
    (case x_InvalidArgument => k_exc)
    (case k_InvalidArgument => k_is)
    (case b_InvalidArgument => k_is)
    (case t_InvalidArgument => k_is)
    (case E1_InvalidArgument => k_is)
    (case E2_InvalidArgument => k_is)
    (case E3_InvalidArgument => k_is)
    (case E4_InvalidArgument => k_is)
    (case s_InvalidArgument => first | rfl | k_is)
    (case E5_InvalidArgument => k_is)
    (case E6 => k_is)
    (case E7 => k_is)
    (case u_InvalidArgument_PoolError => k_is)
