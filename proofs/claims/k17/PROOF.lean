import PyProof.Rows.All
import Wide.All
import OpenK.AllK
import Wide.FinOn
import HandS.ForMost
import HandS.ForExc
import HandS.ExcIs
import HandS.IsInst
import HandS.Evl
import HandS.Walk
import HandS.More
import HandS.Wide
import HandS.SortRule
import KE.SortData
import PySem.Challenge.RW_paritypool_k17_choose_disks
set_option Elab.async false
set_option linter.all false
set_option maxRecDepth 100000
set_option maxHeartbeats 2000000
/-! sorted(xs) of items that read as data of one shape -/
namespace L2
open PySem PySem.Spec PyProof.Rows
theorem each_of {R : Value → V → Prop} : ∀ {xs : List V} {us : List Value}, Paired RelV xs us → (∀ x ∈ xs, ∀ u, RelV x u → R u x) → PySem.W.EachIs R us xs
  | [], _, .nil, _ => .nil
  | x :: xs, _, .cons r rr, h => .cons (h x (by simp) _ r) (each_of rr fun y m => h y (by simp [m]))
theorem vals_of_each : ∀ {us : List Value} {xs : List V}, PySem.W.EachIs (fun u x => RelV x u) us xs → Paired RelV xs us
  | _, _, .nil => .nil
  | _, _, .cons r rr => .cons r (vals_of_each rr)
def rSortedD (K : PySem.W.Frag) : List V → Hp → VK → Prop := fun vs H Q => ∃ (a : Addr) (xs : List V) (k : V → PyData), vs = [V.ref a] ∧ SqL K H a xs ∧ (∀ x ∈ xs, Dp K H x (k x)) ∧ PySem.W.AllAlike (xs.map k) ∧ PySem.W.Sortable (xs.map k) ∧ (∀ x ∈ xs, (k x).depth ≤ 40) ∧
  ∀ p, H p = none → Q (.ref p) (upd H p (.lst (xs.mergeSort (PySem.W.dataLe false k))))
section
variable {X : Cx}
theorem cr_sortedD (hu : X.A.units + 64 < cLine) : CallR X (.builtin "sorted") (rSortedD X.K) := by
  intro pins s σ H vs us Q I r h
  obtain ⟨a, xs, k, rfl, hs, hx, hal, hk, hd, q⟩ := h
  obtain ⟨its, rv, hl, hz⟩ := I.list hs
  obtain ⟨u, rfl, ru⟩ := vals1 r
  obtain rfl : u = Value.ref a := ru
  refine PySem.W.sorted_data (R := fun u x => RelV x u) (enc := k) hl.isList (each_of rv fun _ _ _ r => r) (each_of rv fun x m u r => Dp.reads I _ x u (hx x m) r) hal hk hz (fun b hb => ?_) fun out hlen eo => ?_
  · have := hd b hb
    omega
  · obtain ⟨n, hn⟩ := sortedAll_at s.heap its out.toArray
    refine ⟨.ref (s.heap.objs.size + 1), _, I.laid (a := s.heap.objs.size + 1) (o := .lst (xs.mergeSort (PySem.W.dataLe false k))) (t' := s.toks) (fun b o e => sortedAll_old e) (Nat.le_succ _) ⟨?_, out, n, vals_of_each eo, hn⟩, rfl, q _ (I.hok.fresh (Nat.le_succ _))⟩
    rw [List.length_mergeSort]
    exact hz
end
end L2
namespace PP
open PySem L2
def top (i : Nat) : Stmt := (PySem.Challenge.pw_paritypool_k17_choose_disks).main.body.getD i (.Pass ⟨0, 0, 0, 0⟩)
abbrev s_choose_disks : Stmt := top 5
abbrev s_law_pot : Stmt := top 7
abbrev s_law_next : Stmt := top 8
abbrev s_law_is_int : Stmt := top 9
abbrev s_law_answer : Stmt := top 10
abbrev s_law_before : Stmt := top 11
abbrev s_law : Stmt := top 12
/-! small rules of one's own -/
section
variable {X : Cx}
theorem pe_const {x : Str} {v : V} {pos : Pos} (h : ∃ u, X.mg x = some u ∧ RelV v u) (hg : Gl X x := by rfl) (hd : (x == ("__debug__" : Str)) = false := by decide) : PE X (.Name x pos) (tC v) := by
  obtain ⟨u, h1, h2⟩ := h
  exact pe_glob hg h1 h2 hd
/-- isinstance of a caught error, whatever class the clause has caught -/
theorem call_isE' {a : Addr} {cls : Value} {d : Option Addr} {oe : Obj} {pn : List (Addr × Obj)} (hz : Zc cls d oe) (hf : ∃ vs, oe.data = .fields vs) :
    CallR (X.suite a ((a, oe) :: pn)) (.builtin "isinstance") (fun xs H Q => ∃ D, cls = .ref D ∧ d = none ∧ ExcC X.K D ∧ rIsE X.K D a xs H Q) := by
  intro pins s σ H xs us Q I r h
  obtain ⟨D, rfl, rfl, C, h⟩ := h
  exact call_isE C hz hf pins s σ H xs us Q I r h
end
/-- all but p is as it was, what is free too -/
def Only (p : Addr) (H H' : Hp) : Prop := ∀ b, b ≠ p → H' b = H b
theorem Only.upd {p : Addr} {H : Hp} {o : HO} : Only p H (upd H p o) := fun _ h => upd_ne h
theorem Only.refl {p : Addr} {H : Hp} : Only p H H := fun _ _ => rfl
theorem Only.trans {p : Addr} {H H1 H2 : Hp} (x : Only p H H1) (y : Only p H1 H2) : Only p H H2 := fun b h => (y b h).trans (x b h)
/-! which class is asked of a caught error -/
theorem kit_self {K : PySem.W.Frag} {c : Value} : PySem.W.kitOne K c c = some true := by
  unfold PySem.W.kitOne
  rw [if_pos (by simp)]
theorem kit_type {K : PySem.W.Frag} {D : Addr} {n : String} {b : Bool} (m : PySem.W.kitMeta n = true) (h : PySem.W.subIn K (.ref D) (.type n) = some b) : PySem.W.kitOne K (.ref D) (.type n) = some b := by
  unfold PySem.W.kitOne
  rw [if_neg (by intro z; cases (beq_iff_eq.mp z))]
  show (if PySem.W.kitMeta n = true then PySem.W.subIn K (.ref D) (.type n) else none) = some b
  rw [if_pos m]
  exact h
theorem kit_cls_of {K : PySem.W.Frag} {C : Addr} {t : Value} {b : Bool} (hd : PySem.W.hasDictIn K C = true) (ht : PySem.W.typeIn K (.ref C) = some (.type "type")) (h : PySem.W.subIn K t (.ref C) = some b) : PySem.W.kitCls K t (.ref C) = some b := by
  obtain ⟨cd, hc, _⟩ := PySem.W.any_some hd
  show (if ((PySem.W.clsIn K C).isSome && PySem.W.typeIn K (.ref C) == some (.type "type")) = true then PySem.W.subIn K t (.ref C) else none) = some b
  rw [if_pos (by rw [hc, ht]; rfl)]
  exact h
theorem kit_yes {K : PySem.W.Frag} {C D : Addr} (hd : PySem.W.hasDictIn K C = true) (ht : PySem.W.typeIn K (.ref C) = some (.type "type")) (h : PySem.W.subIn K (.ref D) (.ref C) = some true) : PySem.W.kitOne K (.ref D) (.ref C) = some true := by
  unfold PySem.W.kitOne
  split
  · rfl
  · exact kit_cls_of hd ht h
theorem kit_no {K : PySem.W.Frag} {C D : Addr} (hd : PySem.W.hasDictIn K C = true) (ht : PySem.W.typeIn K (.ref C) = some (.type "type")) (h : PySem.W.subIn K (.ref D) (.ref C) = some false) (hs : PySem.W.subIn K (.ref D) (.ref D) = some true) : PySem.W.kitOne K (.ref D) (.ref C) = some false := by
  unfold PySem.W.kitOne
  split
  · rename_i z
    have e : D = C := by
      have := beq_iff_eq.mp z
      injection this
    rw [← e] at h
    rw [h] at hs
    cases hs
  · exact kit_cls_of hd ht h
/-- len of a list or tuple; list of one -/
abbrev rLenS (K : PySem.W.Frag) := Evl.rLenS K
abbrev rListOf (K : PySem.W.Frag) := Evl.rListS K
/-! the prime, the inverse -/
theorem no_div (d : Nat) (h1 : 2 ≤ d) (h2 : d ≤ 255) : ¬ d ∣ 65521 := by
  intro h
  have e : 65521 % d = 0 := Nat.mod_eq_zero_of_dvd h
  have key : ∀ d : Fin 256, 2 ≤ d.val → ¬ 65521 % d.val = 0 := by decide +kernel
  exact key ⟨d, by omega⟩ h1 e
theorem prime_q (d : Nat) (h : d ∣ 65521) : d = 1 ∨ d = 65521 := by
  obtain ⟨e, he⟩ := h
  by_cases a : d ≤ 255
  · by_cases b : 2 ≤ d
    · exact absurd ⟨e, he⟩ (no_div d b a)
    · have : d ≠ 0 := by rintro rfl; omega
      omega
  · by_cases b : 2 ≤ e
    · by_cases c : e ≤ 255
      · exact absurd ⟨d, by rw [Nat.mul_comm]; exact he⟩ (no_div e b c)
      · have h1 : 256 * 256 ≤ d * e := Nat.mul_le_mul (by omega) (by omega)
        omega
    · have : e ≠ 0 := by rintro rfl; omega
      have e1 : e = 1 := by omega
      subst e1
      omega
theorem gcd_q (x : Int) (h : x % 65521 ≠ 0) : Int.gcd 65521 (x % 65521) = 1 := by
  have d1 : (Int.gcd 65521 (x % 65521) : Nat) ∣ 65521 := by
    have := Int.gcd_dvd_left (65521 : Int) (x % 65521)
    have h2 : ((Int.gcd 65521 (x % 65521) : Nat) : Int) ∣ ((65521 : Nat) : Int) := this
    exact Int.natCast_dvd_natCast.mp h2
  rcases prime_q _ d1 with e | e
  · exact e
  · exfalso
    have d2 := Int.gcd_dvd_right (65521 : Int) (x % 65521)
    rw [e] at d2
    obtain ⟨c, hc⟩ := d2
    have e2 : ((65521 : Nat) : Int) = 65521 := rfl
    rw [e2] at hc
    have p1 := Int.emod_nonneg x (show (65521 : Int) ≠ 0 by decide)
    have p2 := Int.emod_lt_of_pos x (show (0 : Int) < 65521 by decide)
    omega
theorem gcd_turn {n m : Int} (h : Int.gcd n m = 1) : Int.gcd m (n - n / m * m) = 1 := by
  rw [Int.gcd_sub_mul_right_right, Int.gcd_comm]
  exact h
/-- the inverse of a word, by what it is -/
noncomputable def invP (x : Int) : Int := open Classical in if h : ∃ b : Int, 0 ≤ b ∧ b < 65521 ∧ x * b % 65521 = 1 then h.choose else 0
theorem inv_unique {x b c : Int} (hb : 0 ≤ b ∧ b < 65521 ∧ x * b % 65521 = 1) (hc : 0 ≤ c ∧ c < 65521 ∧ x * c % 65521 = 1) : b = c := by
  have e1 : b * (x * c) % 65521 = b := by
    rw [Int.mul_emod, hc.2.2, Int.mul_one, Int.emod_emod_of_dvd _ (Int.dvd_refl _), Int.emod_eq_of_lt hb.1 hb.2.1]
  have e2 : c * (x * b) % 65521 = c := by
    rw [Int.mul_emod, hb.2.2, Int.mul_one, Int.emod_emod_of_dvd _ (Int.dvd_refl _), Int.emod_eq_of_lt hc.1 hc.2.1]
  have e3 : b * (x * c) = c * (x * b) := by grind
  rw [← e1, e3, e2]
theorem invP_eq {x b : Int} (h : 0 ≤ b ∧ b < 65521 ∧ x * b % 65521 = 1) : invP x = b := by
  have hx : ∃ b : Int, 0 ≤ b ∧ b < 65521 ∧ x * b % 65521 = 1 := ⟨b, h⟩
  unfold invP
  rw [dif_pos hx]
  exact inv_unique hx.choose_spec h
/-- one turn of Euclid's algorithm -/
theorem euclid_turn {x n m f g : Int} (h1 : (x * f - n) % 65521 = 0) (h2 : (x * g - m) % 65521 = 0) : (x * (f - n / m * g) - (n - n / m * m)) % 65521 = 0 := by
  have e : x * (f - n / m * g) - (n - n / m * m) = (x * f - n) - n / m * (x * g - m) := by grind
  rw [e, Int.sub_emod, h1, Int.mul_emod, h2, Int.mul_zero]
  rfl
theorem euclid_end {x f : Int} (h : (x * f - 1) % 65521 = 0) : 0 ≤ f % 65521 ∧ f % 65521 < 65521 ∧ x * (f % 65521) % 65521 = 1 := by
  refine ⟨Int.emod_nonneg _ (by decide), Int.emod_lt_of_pos _ (by decide), ?_⟩
  have e : x * (f % 65521) % 65521 = x * f % 65521 := by rw [Int.mul_emod, Int.emod_emod_of_dvd _ (Int.dvd_refl _), ← Int.mul_emod]
  rw [e]
  omega
/-- the inverse exists (Euclid, run in the mathematics) -/
theorem inv_ex : ∀ (k : Nat) (x n m f g : Int), m.toNat ≤ k → 0 ≤ m → 0 < n → (x * f - n) % 65521 = 0 → (x * g - m) % 65521 = 0 → Int.gcd n m = 1 → ∃ b : Int, 0 ≤ b ∧ b < 65521 ∧ x * b % 65521 = 1
  | k, x, n, m, f, g, hk, hm, hn, h1, h2, hg => by
    by_cases e : m = 0
    · subst e
      have : n = 1 := by
        rw [Int.gcd_zero_right] at hg
        omega
      subst this
      exact ⟨_, euclid_end h1⟩
    · have hm' : 0 < m := by omega
      match k, hk with
      | 0, hk => omega
      | k + 1, hk =>
        have r : n - n / m * m = n % m := by
          have := Int.mul_ediv_add_emod n m
          rw [Int.mul_comm] at this
          omega
        have r1 := Int.emod_nonneg n (show m ≠ 0 by omega)
        have r2 := Int.emod_lt_of_pos n hm'
        exact inv_ex k x m (n - n / m * m) g (f - n / m * g) (by omega) (by omega) hm' h2 (euclid_turn h1 h2) (gcd_turn hg)
theorem invP_spec {x : Int} (h : x % 65521 ≠ 0) : 0 ≤ invP x ∧ invP x < 65521 ∧ x * invP x % 65521 = 1 := by
  have p1 := Int.emod_nonneg x (show (65521 : Int) ≠ 0 by decide)
  obtain ⟨b, hb⟩ := inv_ex (x % 65521).toNat x 65521 (x % 65521) 0 1 (Nat.le_refl _) p1 (by decide) (by omega) (by omega) (gcd_q x h)
  rw [invP_eq hb]
  exact hb
/-! the field of words -/
def Zp : Type := Fin 65521
instance : Lean.Grind.CommRing Zp := inferInstanceAs (Lean.Grind.CommRing (Fin 65521))
instance : Lean.Grind.IsCharP Zp 65521 := inferInstanceAs (Lean.Grind.IsCharP (Fin 65521) 65521)
instance : DecidableEq Zp := inferInstanceAs (DecidableEq (Fin 65521))
def z (n : Int) : Zp := Lean.Grind.Ring.intCast.intCast n
theorem z_eq {a b : Int} : z a = z b ↔ a % 65521 = b % 65521 := Lean.Grind.IsCharP.intCast_ext_iff (α := Zp) 65521
theorem z_mod (a : Int) : z (a % 65521) = z a := z_eq.mpr (Int.emod_emod_of_dvd _ (Int.dvd_refl _))
theorem z_add (a b : Int) : z (a + b) = z a + z b := Lean.Grind.Ring.intCast_add a b
theorem z_sub (a b : Int) : z (a - b) = z a - z b := Lean.Grind.Ring.intCast_sub a b
theorem z_mul (a b : Int) : z (a * b) = z a * z b := Lean.Grind.Ring.intCast_mul a b
theorem z_neg (a : Int) : z (-a) = -z a := Lean.Grind.Ring.intCast_neg a
theorem z_zero : z 0 = 0 := Lean.Grind.Ring.intCast_zero
theorem z_one : z 1 = 1 := Lean.Grind.Ring.intCast_one
theorem z_z (a : Int) : z a = 0 ↔ a % 65521 = 0 := by
  rw [← z_zero, z_eq]
  rfl
theorem z_inj {a b : Int} (ha : 0 ≤ a) (ha' : a < 65521) (hb : 0 ≤ b) (hb' : b < 65521) (h : z a = z b) : a = b := by
  have := z_eq.mp h
  rw [Int.emod_eq_of_lt ha ha', Int.emod_eq_of_lt hb hb'] at this
  exact this
theorem z_mod_eq {a b : Int} (h : z a = z b) : a % 65521 = b % 65521 := z_eq.mp h
theorem z_surj (x : Zp) : ∃ n : Int, 0 ≤ n ∧ n < 65521 ∧ z n = x := by
  refine ⟨((show Fin 65521 from x).val : Int), by omega, by omega, ?_⟩
  show (Fin.intCast ((show Fin 65521 from x).val : Int) : Fin 65521) = x
  unfold Fin.intCast
  rw [if_pos (by omega), Int.natAbs_natCast]
  exact Fin.ofNat_val_eq_self _
theorem z_invP {n : Int} (h : z n ≠ 0) : z n * z (invP n) = 1 := by
  have h' : n % 65521 ≠ 0 := fun e => h ((z_z n).mpr e)
  obtain ⟨b0, b1, b2⟩ := invP_spec h'
  rw [← z_mul, ← z_one, z_eq]
  exact b2
theorem zp_inv {a : Zp} (h : a ≠ 0) : ∃ b : Zp, a * b = 1 := by
  obtain ⟨n, _, _, rfl⟩ := z_surj a
  exact ⟨_, z_invP h⟩
theorem zp_div {a b : Zp} (h : a * b = 0) : a = 0 ∨ b = 0 := by
  by_cases ha : a = 0
  · exact .inl ha
  · obtain ⟨c, hc⟩ := zp_inv ha
    right
    have : b = c * (a * b) := by grind
    rw [this, h]
    grind
theorem zp_01 : (1 : Zp) ≠ 0 := by
  rw [← z_one, ← z_zero]
  intro h
  have := z_eq.mp h
  omega
theorem zp_mul_ne {a b : Zp} (ha : a ≠ 0) (hb : b ≠ 0) : a * b ≠ 0 := fun h => (zp_div h).elim ha hb
/-! ### functions that are polynomials with n coefficients -/
def Pol : Nat → (Zp → Zp) → Prop
  | 0, f => ∀ x, f x = 0
  | n + 1, f => ∃ (c : Zp) (g : Zp → Zp), Pol n g ∧ ∀ x, f x = c + x * g x
theorem Pol.ext : ∀ {n : Nat} {f g : Zp → Zp}, Pol n f → (∀ x, g x = f x) → Pol n g
  | 0, _, _, h, e => fun x => (e x).trans (h x)
  | _ + 1, _, _, ⟨c, g, h, q⟩, e => ⟨c, g, h, fun x => (e x).trans (q x)⟩
theorem pol_nil : ∀ n : Nat, Pol n fun _ => 0
  | 0 => fun _ => rfl
  | n + 1 => ⟨0, fun _ => 0, pol_nil n, fun x => by grind⟩
theorem Pol.up : ∀ {n : Nat} {f : Zp → Zp}, Pol n f → Pol (n + 1) f
  | 0, f, h => ⟨0, fun _ => 0, fun _ => rfl, fun x => by rw [h x]; grind⟩
  | n + 1, _, ⟨c, g, h, q⟩ => ⟨c, g, h.up, q⟩
theorem Pol.mono {n m : Nat} {f : Zp → Zp} (h : Pol n f) (l : n ≤ m) : Pol m f := by
  induction l with
  | refl => exact h
  | step _ ih => exact ih.up
theorem Pol.add : ∀ {n : Nat} {f g : Zp → Zp}, Pol n f → Pol n g → Pol n fun x => f x + g x
  | 0, f, g, h, k => fun x => by show f x + g x = 0; rw [h x, k x]; grind
  | n + 1, f, g, ⟨c, u, h, p⟩, ⟨d, v, k, q⟩ => ⟨c + d, fun x => u x + v x, Pol.add h k, fun x => by show f x + g x = _; rw [p x, q x]; grind⟩
theorem Pol.smul : ∀ {n : Nat} {f : Zp → Zp} (a : Zp), Pol n f → Pol n fun x => f x * a
  | 0, f, a, h => fun x => by show f x * a = 0; rw [h x]; grind
  | n + 1, f, a, ⟨c, u, h, p⟩ => ⟨c * a, fun x => u x * a, Pol.smul a h, fun x => by show f x * a = _; rw [p x]; grind⟩
theorem Pol.const (c : Zp) : Pol 1 fun _ => c := ⟨c, fun _ => 0, fun _ => rfl, fun x => by grind⟩
theorem Pol.xmul {n : Nat} {f : Zp → Zp} (h : Pol n f) : Pol (n + 1) fun x => x * f x := ⟨0, f, h, fun x => by grind⟩
theorem Pol.lin {n : Nat} {f : Zp → Zp} (a : Zp) (h : Pol n f) : Pol (n + 1) fun x => (x - a) * f x :=
  (h.xmul.add (h.up.smul (-a))).ext fun x => by grind
theorem Pol.sub {n : Nat} {f g : Zp → Zp} (h : Pol n f) (k : Pol n g) : Pol n fun x => f x - g x :=
  (h.add (k.smul (-1))).ext fun x => by grind
/-- a polynomial less its value at a is a multiple of x - a -/
theorem Pol.at : ∀ {n : Nat} {f : Zp → Zp} (a : Zp), Pol (n + 1) f → ∃ g, Pol n g ∧ ∀ x, f x = f a + (x - a) * g x
  | 0, f, a, ⟨c, g, h, q⟩ => ⟨fun _ => 0, fun _ => rfl, fun x => by rw [q x, q a, h x, h a]; grind⟩
  | n + 1, f, a, ⟨c, g, h, q⟩ => by
    obtain ⟨k, hk, e⟩ := Pol.at a h
    refine ⟨fun x => g a + x * k x, ⟨g a, k, hk, fun _ => rfl⟩, fun x => ?_⟩
    have e1 := e x
    rw [q x, q a]
    grind
/-- as many zeros as coefficients: it is zero -/
theorem Pol.roots : ∀ {n : Nat} {f : Zp → Zp} (xs : List Zp), Pol n f → xs.Nodup → n ≤ xs.length → (∀ a ∈ xs, f a = 0) → ∀ x, f x = 0
  | 0, _, _, h, _, _, _ => h
  | n + 1, f, [], _, _, hl, _ => absurd hl (by simp)
  | n + 1, f, a :: r, h, hn, hl, hz => by
    obtain ⟨g, hg, e⟩ := Pol.at a h
    have ha : f a = 0 := hz a (by simp)
    have hn' := List.nodup_cons.mp hn
    have g0 : ∀ x, g x = 0 := Pol.roots r hg hn'.2 (by simpa using hl) fun b hb => by
      have hb0 := hz b (List.mem_cons_of_mem _ hb)
      rw [e b, ha] at hb0
      have : (b - a) * g b = 0 := by grind
      rcases zp_div this with q | q
      · exfalso
        have : b = a := by grind
        exact hn'.1 (this ▸ hb)
      · exact q
    intro x
    rw [e x, ha, g0 x]
    grind
/-! ### products of differences -/
def prodZ : List Int → Zp → Zp
  | [], _ => 1
  | o :: os, x => (x - z o) * prodZ os x
theorem prodZ_pol : ∀ os : List Int, Pol (os.length + 1) (prodZ os)
  | [] => (Pol.const 1).ext fun _ => rfl
  | o :: os => (Pol.lin (z o) (prodZ_pol os)).ext fun _ => rfl
theorem prodZ_root {o : Int} {x : Zp} : ∀ {os : List Int}, o ∈ os → x = z o → prodZ os x = 0
  | [], h, _ => by simp at h
  | p :: os, h, e => by
    show (x - z p) * prodZ os x = 0
    rcases List.mem_cons.mp h with q | q
    · rw [e, q]
      grind
    · rw [prodZ_root q e]
      grind
theorem prodZ_ne {x : Zp} : ∀ {os : List Int}, (∀ o ∈ os, x ≠ z o) → prodZ os x ≠ 0
  | [], _ => zp_01
  | p :: os, h => by
    refine zp_mul_ne (fun e => h p (by simp) ?_) (prodZ_ne fun o ho => h o (List.mem_cons_of_mem _ ho))
    grind
/-- as the program multiplies -/
def prodM (os : List Int) (x acc : Int) : Int := os.foldl (fun acc o => acc * (x - o) % 65521) acc
theorem prodM_z : ∀ (os : List Int) (x acc : Int), z (prodM os x acc) = z acc * prodZ os (z x)
  | [], x, acc => by
    show z acc = z acc * 1
    grind
  | o :: os, x, acc => by
    show z (prodM os x (acc * (x - o) % 65521)) = z acc * ((z x - z o) * prodZ os (z x))
    rw [prodM_z os x, z_mod, z_mul, z_sub]
    grind
theorem prodM_word : ∀ (os : List Int) (x acc : Int), 0 ≤ acc → acc < 65521 → 0 ≤ prodM os x acc ∧ prodM os x acc < 65521
  | [], _, _, h0, h1 => ⟨h0, h1⟩
  | o :: os, x, acc, _, _ => prodM_word os x _ (Int.emod_nonneg _ (by decide)) (Int.emod_lt_of_pos _ (by decide))
theorem prodM_snoc (os : List Int) (o x acc : Int) : prodM (os ++ [o]) x acc = prodM os x acc * (x - o) % 65521 := by
  unfold prodM
  rw [List.foldl_append]
  rfl
/-- a place's factor -/
noncomputable def wgt (p : Int) (os : List Int) (x : Int) : Int := prodM os x 1 * invP (prodM os p 1) % 65521
theorem wgt_word (p : Int) (os : List Int) (x : Int) : 0 ≤ wgt p os x ∧ wgt p os x < 65521 := ⟨Int.emod_nonneg _ (by decide), Int.emod_lt_of_pos _ (by decide)⟩
theorem wgt_z (p : Int) (os : List Int) (x : Int) : z (wgt p os x) = prodZ os (z x) * z (invP (prodM os p 1)) := by
  unfold wgt
  rw [z_mod, z_mul, prodM_z, z_one]
  grind
theorem wgt_ok {p : Int} {os : List Int} (h : ∀ o ∈ os, z p ≠ z o) : prodM os p 1 % 65521 ≠ 0 := fun e => by
  have := (z_z _).mpr e
  rw [prodM_z, z_one] at this
  refine prodZ_ne h ?_
  grind
/-- all places but the i-th -/
def others (ws : List Int) (i : Nat) : List Int := ws.take i ++ ws.drop (i + 1)
noncomputable def weightsM (ws : List Int) (x : Int) : List Int := (List.range ws.length).map fun i => wgt (ws.getD i 0) (others ws i) x
theorem weightsM_length (ws : List Int) (x : Int) : (weightsM ws x).length = ws.length := by simp [weightsM]
theorem weightsM_get {ws : List Int} {x : Int} {i : Nat} (h : i < ws.length) : (weightsM ws x)[i]? = some (wgt (ws.getD i 0) (others ws i) x) := by
  unfold weightsM
  rw [List.getElem?_map, List.getElem?_range h]
  rfl
/-- no two places are equal modulo the prime -/
def Apart (ws : List Int) : Prop := (ws.map z).Nodup
theorem apart_ne {ws : List Int} (h : Apart ws) {i j : Nat} (hi : i < ws.length) (hj : j < ws.length) (n : i ≠ j) : z (ws.getD i 0) ≠ z (ws.getD j 0) := fun e => by
  refine n ((List.getElem_inj (xs := ws.map z) (h₀ := by simpa using hi) (h₁ := by simpa using hj) h).mp ?_)
  rw [List.getElem_map, List.getElem_map]
  simpa [List.getD_eq_getElem?_getD, hi, hj] using e
theorem mem_others {ws : List Int} {i : Nat} {o : Int} : o ∈ others ws i ↔ ∃ j, j < ws.length ∧ j ≠ i ∧ o = ws.getD j 0 := by
  unfold others
  rw [List.mem_append, List.mem_iff_getElem?, List.mem_iff_getElem?]
  constructor
  · rintro (⟨j, h⟩ | ⟨j, h⟩)
    · rw [List.getElem?_take] at h
      by_cases c : j < i
      · rw [if_pos c] at h
        obtain ⟨hl, e⟩ := List.getElem?_eq_some_iff.mp h
        exact ⟨j, hl, by omega, by simp [List.getD_eq_getElem?_getD, hl, e]⟩
      · rw [if_neg c] at h
        cases h
    · rw [List.getElem?_drop] at h
      obtain ⟨hl, e⟩ := List.getElem?_eq_some_iff.mp h
      exact ⟨_, hl, by omega, by simp [List.getD_eq_getElem?_getD, hl, e]⟩
  · rintro ⟨j, hl, n, rfl⟩
    by_cases c : j < i
    · exact .inl ⟨j, by rw [List.getElem?_take, if_pos c, List.getElem?_eq_getElem hl]; simp [List.getD_eq_getElem?_getD, hl]⟩
    · refine .inr ⟨j - (i + 1), ?_⟩
      rw [List.getElem?_drop, show i + 1 + (j - (i + 1)) = j by omega, List.getElem?_eq_getElem hl]
      simp [List.getD_eq_getElem?_getD, hl]
theorem others_length {ws : List Int} {i : Nat} (h : i < ws.length) : (others ws i).length + 1 = ws.length := by
  unfold others
  rw [List.length_append, List.length_take, List.length_drop]
  omega
theorem others_apart {ws : List Int} (h : Apart ws) {i : Nat} (hi : i < ws.length) : ∀ o ∈ others ws i, z (ws.getD i 0) ≠ z o := fun o ho => by
  obtain ⟨j, hl, n, rfl⟩ := mem_others.mp ho
  exact apart_ne h hi hl (Ne.symm n)
/-! ### sums -/
def sumR : Nat → (Nat → Zp) → Zp
  | 0, _ => 0
  | n + 1, g => sumR n g + g n
theorem sumR_ext : ∀ {n : Nat} {f g : Nat → Zp}, (∀ i, i < n → f i = g i) → sumR n f = sumR n g
  | 0, _, _, _ => rfl
  | n + 1, f, g, h => by
    show sumR n f + f n = sumR n g + g n
    rw [sumR_ext fun i hi => h i (by omega), h n (by omega)]
theorem sumR_zero : ∀ {n : Nat} {f : Nat → Zp}, (∀ i, i < n → f i = 0) → sumR n f = 0
  | 0, _, _ => rfl
  | n + 1, f, h => by
    show sumR n f + f n = 0
    rw [sumR_zero fun i hi => h i (by omega), h n (by omega)]
    grind
theorem sumR_one : ∀ {n : Nat} {f : Nat → Zp} {j : Nat}, j < n → (∀ i, i < n → i ≠ j → f i = 0) → sumR n f = f j
  | n + 1, f, j, hj, h => by
    show sumR n f + f n = f j
    by_cases c : j = n
    · subst c
      rw [sumR_zero fun i hi => h i (by omega) (by omega)]
      grind
    · rw [sumR_one (j := j) (by omega) fun i hi n' => h i (by omega) n', h n (by omega) (by omega)]
      grind
theorem sumR_pol {m : Nat} : ∀ {n : Nat} {F : Nat → Zp → Zp}, (∀ i, i < n → Pol m (F i)) → Pol m fun x => sumR n fun i => F i x
  | 0, _, _ => (pol_nil m).ext fun _ => rfl
  | n + 1, F, h => (Pol.add (sumR_pol (n := n) fun i hi => h i (by omega)) (h n (by omega))).ext fun _ => rfl
/-- the sum of factors times values -/
def dotR (us vs : List Int) : Int := ((List.range us.length).map fun i => us.getD i 0 * vs.getD i 0).sum
theorem sum_range_z : ∀ (n : Nat) (f : Nat → Int), z ((List.range n).map f).sum = sumR n fun i => z (f i)
  | 0, _ => z_zero
  | n + 1, f => by
    rw [List.range_succ, List.map_append, List.sum_append, z_add, sum_range_z n f]
    show _ + z ((f n) + 0) = _
    rw [Int.add_zero]
    rfl
theorem dotR_z (us vs : List Int) : z (dotR us vs) = sumR us.length fun i => z (us.getD i 0) * z (vs.getD i 0) := by
  unfold dotR
  rw [sum_range_z]
  exact sumR_ext fun i _ => z_mul _ _
/-- the value at x, as the program reckons it -/
noncomputable def valM (ws ys : List Int) (x : Int) : Int := dotR (weightsM ws x) ys % 65521
theorem valM_word (ws ys : List Int) (x : Int) : 0 ≤ valM ws ys x ∧ valM ws ys x < 65521 := ⟨Int.emod_nonneg _ (by decide), Int.emod_lt_of_pos _ (by decide)⟩
theorem valM_z (ws ys : List Int) (x : Int) : z (valM ws ys x) = sumR ws.length fun i => prodZ (others ws i) (z x) * (z (invP (prodM (others ws i) (ws.getD i 0) 1)) * z (ys.getD i 0)) := by
  unfold valM
  rw [z_mod, dotR_z, weightsM_length]
  refine sumR_ext fun i hi => ?_
  have e : (weightsM ws x).getD i 0 = wgt (ws.getD i 0) (others ws i) x := by rw [List.getD_eq_getElem?_getD, weightsM_get hi]; rfl
  rw [e, wgt_z]
  grind
/-- at a place it is the point's own value -/
theorem valM_node {ws ys : List Int} (h : Apart ws) {x : Int} {j : Nat} (hj : j < ws.length) (e : z x = z (ws.getD j 0)) : z (valM ws ys x) = z (ys.getD j 0) := by
  rw [valM_z, sumR_one hj fun i hi n => ?_]
  · have p := others_apart h hj
    have q := wgt_ok p
    have r : z (prodM (others ws j) (ws.getD j 0) 1) * z (invP (prodM (others ws j) (ws.getD j 0) 1)) = 1 := z_invP fun e => q ((z_z _).mp e)
    rw [prodM_z, z_one] at r
    rw [e]
    grind
  · rw [prodZ_root (mem_others.mpr ⟨j, hj, Ne.symm n, rfl⟩) e]
    grind
/-- the values of a polynomial at the places give its value anywhere -/
theorem valM_pol {ws ys : List Int} (h : Apart ws) {f : Zp → Zp} (hf : Pol ws.length f) (hy : ∀ i, i < ws.length → z (ys.getD i 0) = f (z (ws.getD i 0))) (x : Int) : z (valM ws ys x) = f (z x) := by
  have P : Pol ws.length fun x => (sumR ws.length fun i => prodZ (others ws i) x * (z (invP (prodM (others ws i) (ws.getD i 0) 1)) * z (ys.getD i 0))) - f x := by
    refine Pol.sub (sumR_pol fun i hi => Pol.smul _ ?_) hf
    have := prodZ_pol (others ws i)
    rw [others_length hi] at this
    exact this
  have R := Pol.roots (ws.map z) P h (by simp) (fun a ha => ?_) (z x)
  · rw [valM_z]
    have R' : (sumR ws.length fun i => prodZ (others ws i) (z x) * (z (invP (prodM (others ws i) (ws.getD i 0) 1)) * z (ys.getD i 0))) - f (z x) = 0 := R
    grind
  · obtain ⟨p, hp, rfl⟩ := List.mem_map.mp ha
    obtain ⟨j, hj⟩ := List.mem_iff_getElem?.mp hp
    obtain ⟨hl, e⟩ := List.getElem?_eq_some_iff.mp hj
    have ep : ws.getD j 0 = p := by simp [List.getD_eq_getElem?_getD, hl, e]
    have v := valM_node (ys := ys) h (x := p) hl (by rw [ep])
    rw [valM_z, hy j hl, ep] at v
    show (sumR ws.length fun i => prodZ (others ws i) (z p) * (z (invP (prodM (others ws i) (ws.getD i 0) 1)) * z (ys.getD i 0))) - f (z p) = 0
    rw [v]
    grind
theorem z_small {n : Int} (h0 : 0 < n) (h1 : n < 65521) : z n ≠ 0 := fun e => by
  have := (z_z n).mp e
  omega
/-! a polynomial's value -/
def pev : List Int → Zp → Zp
  | [], _ => 0
  | c :: r, x => z c + x * pev r x
theorem pev_pol : ∀ ns : List Int, Pol ns.length (pev ns)
  | [] => fun _ => rfl
  | c :: r => ⟨z c, pev r, pev_pol r, fun _ => rfl⟩
/-- as it is reckoned: from the highest coefficient down -/
def horn : List Int → Int → Int
  | [], _ => 0
  | c :: r, x => (horn r x * x + c) % 65521
theorem horn_z : ∀ (ns : List Int) (x : Int), z (horn ns x) = pev ns (z x)
  | [], _ => z_zero
  | c :: r, x => by
    show z ((horn r x * x + c) % 65521) = z c + z x * pev r (z x)
    rw [z_mod, z_add, z_mul, horn_z r x]
    grind
theorem horn_word : ∀ (ns : List Int) (x : Int), 0 ≤ horn ns x ∧ horn ns x < 65521
  | [], _ => by show (0 : Int) ≤ 0 ∧ (0 : Int) < 65521; omega
  | _ :: _, _ => ⟨Int.emod_nonneg _ (by decide), Int.emod_lt_of_pos _ (by decide)⟩
theorem horn_drop {ns : List Int} {x c : Int} {i : Nat} (h : ns[i]? = some c) : horn (ns.drop i) x = (horn (ns.drop (i + 1)) x * x + c) % 65521 := by
  obtain ⟨hl, e⟩ := List.getElem?_eq_some_iff.mp h
  rw [List.drop_eq_getElem_cons hl, e]
  rfl
/-! polynomials by their values: degree, normal forms -/
def Wd (w : Int) : Prop := 0 ≤ w ∧ w < 65521
/-- a list of words whose last one is not 0 -/
def Norm (r : List Int) : Prop := (∀ w ∈ r, Wd w) ∧ (r = [] ∨ r.getD (r.length - 1) 0 ≠ 0)
def pw (x : Zp) : Nat → Zp
  | 0 => 1
  | n + 1 => x * pw x n
theorem pev_append : ∀ (a b : List Int) (x : Zp), pev (a ++ b) x = pev a x + pw x a.length * pev b x
  | [], b, x => by
    show pev b x = 0 + 1 * pev b x
    grind
  | c :: a, b, x => by
    show z c + x * pev (a ++ b) x = (z c + x * pev a x) + (x * pw x a.length) * pev b x
    rw [pev_append a b x]
    grind
theorem pev_zeros : ∀ {a : List Int}, (∀ w ∈ a, z w = 0) → ∀ x, pev a x = 0
  | [], _, _ => rfl
  | c :: a, h, x => by
    show z c + x * pev a x = 0
    rw [h c (by simp), pev_zeros (fun w m => h w (List.mem_cons_of_mem _ m))]
    grind
theorem pev_mod : ∀ (a : List Int) (x : Zp), pev (a.map (· % 65521)) x = pev a x
  | [], _ => rfl
  | c :: a, x => by
    show z (c % 65521) + x * pev (a.map (· % 65521)) x = z c + x * pev a x
    rw [z_mod, pev_mod a x]
/-- one place of the list gets another number -/
theorem pev_set : ∀ {a : List Int} {i : Nat} {c d : Int} (x : Zp), a[i]? = some c → pev (a.set i d) x = pev a x + pw x i * (z d - z c)
  | [], _, _, _, _, h => by simp at h
  | b :: a, 0, c, d, x, h => by
    have e : b = c := Option.some.inj h
    subst e
    show z d + x * pev a x = (z b + x * pev a x) + 1 * (z d - z b)
    grind
  | b :: a, i + 1, c, d, x, h => by
    show z b + x * pev (a.set i d) x = (z b + x * pev a x) + (x * pw x i) * (z d - z c)
    rw [pev_set (i := i) (c := c) x h]
    grind
theorem pw_add (x : Zp) : ∀ n m : Nat, pw x (n + m) = pw x n * pw x m
  | 0, m => by
    rw [Nat.zero_add]
    show pw x m = 1 * pw x m
    grind
  | n + 1, m => by
    rw [Nat.succ_add]
    show x * pw x (n + m) = (x * pw x n) * pw x m
    rw [pw_add x n m]
    grind
theorem pev_snoc (a : List Int) (c : Int) (x : Zp) : pev (a ++ [c]) x = pev a x + pw x a.length * z c := by
  rw [pev_append]
  show _ + _ * (z c + x * 0) = _
  grind
/-! all words as places -/
def allZ (n : Nat) : List Zp := (List.range n).map fun (k : Nat) => z ((k : Int) + 1)
theorem allZ_nodup {n : Nat} (h : n ≤ 65520) : (allZ n).Nodup := by
  unfold allZ List.Nodup
  rw [List.pairwise_map]
  refine (List.nodup_range (n := n)).imp_of_mem fun {a b} ha hb ne e => ?_
  have h1 := List.mem_range.mp ha
  have h2 := List.mem_range.mp hb
  have := z_eq.mp e
  omega
theorem allZ_ne {n : Nat} (h : n ≤ 65520) : ∀ a ∈ allZ n, a ≠ 0 := fun a ha e => by
  obtain ⟨k, hk, rfl⟩ := List.mem_map.mp ha
  have h1 := List.mem_range.mp hk
  have := (z_z _).mp e
  omega
/-- zero but perhaps at 0: zero -/
theorem Pol.punct {n : Nat} {f : Zp → Zp} (h : Pol n f) (hn : n ≤ 65520) (hz : ∀ x, x ≠ 0 → f x = 0) : ∀ x, f x = 0 :=
  Pol.roots (allZ n) h (allZ_nodup hn) (by simp [allZ]) fun a ha => hz a (allZ_ne hn a ha)
theorem Pol.pw : ∀ (n : Nat) (c : Zp), Pol (n + 1) fun x => c * PP.pw x n
  | 0, c => (Pol.const c).ext fun x => by show c * 1 = c; grind
  | n + 1, c => ((Pol.pw n c).xmul).ext fun x => by show c * (x * PP.pw x n) = x * (c * PP.pw x n); grind
/-- a power beyond the coefficients has the factor 0 -/
theorem lead_zero : ∀ (n : Nat) {c : Zp} {h : Zp → Zp}, n ≤ 60000 → Pol n h → (∀ x, c * pw x n = h x) → c = 0
  | 0, c, h, _, hp, e => by
    have := e 0
    rw [hp 0] at this
    have : c * 1 = 0 := this
    grind
  | n + 1, c, h, hn, ⟨d, g, hg, q⟩, e => by
    have e0 : d = 0 := by
      have h0 := e 0
      rw [q 0] at h0
      have : c * (0 * pw 0 n) = d + 0 * g 0 := h0
      grind
    have F : ∀ x, c * pw x n - g x = 0 := Pol.punct (n := n + 1) (Pol.sub (Pol.pw n c) hg.up) (by omega) fun x hx => by
      have h1 := e x
      rw [q x, e0] at h1
      have h2 : c * (x * pw x n) = 0 + x * g x := h1
      have h3 : x * (c * pw x n - g x) = 0 := by grind
      exact (zp_div h3).resolve_left hx
    exact lead_zero n (by omega) hg fun x => by
      have := F x
      grind
/-- a normal list has no more words than its values need -/
theorem norm_le {r : List Int} {n : Nat} (h : Norm r) (hn : n ≤ 60000) (hp : Pol n (pev r)) (hr : r.length ≤ 60000) : r.length ≤ n := by
  refine Classical.byContradiction fun c => ?_
  obtain ⟨hw, hl⟩ := h
  have rne : r ≠ [] := fun e => by rw [e] at c; simp at c
  have hl := hl.resolve_left rne
  have e : r = r.take (r.length - 1) ++ [r.getD (r.length - 1) 0] := by
    have hlt : r.length - 1 < r.length := by
      have := List.length_pos_iff.mpr rne
      omega
    conv => lhs; rw [← List.take_append_drop (r.length - 1) r]
    rw [List.drop_eq_getElem_cons hlt, show r.length - 1 + 1 = r.length by omega, List.drop_length]
    simp [List.getD_eq_getElem?_getD, hlt]
  have P1 : Pol (r.length - 1) (pev (r.take (r.length - 1))) := (pev_pol _).mono (by rw [List.length_take]; omega)
  have P2 : Pol (r.length - 1) (pev r) := hp.mono (by omega)
  have z0 := lead_zero (r.length - 1) (c := z (r.getD (r.length - 1) 0)) (by omega) (Pol.sub P2 P1) fun x => by
    have := pev_snoc (r.take (r.length - 1)) (r.getD (r.length - 1) 0) x
    rw [← e, List.length_take, Nat.min_eq_left (by omega)] at this
    show _ = pev r x - pev (r.take (r.length - 1)) x
    grind
  have w := hw (r.getD (r.length - 1) 0) (by
    have hlt : r.length - 1 < r.length := by
      have := List.length_pos_iff.mpr rne
      omega
    rw [List.getD_eq_getElem?_getD, List.getElem?_eq_getElem hlt]
    exact List.getElem_mem hlt)
  have := (z_z _).mp z0
  obtain ⟨w0, w1⟩ := w
  omega
/-- the same values everywhere: the same words -/
theorem pev_inj : ∀ {a b : List Int}, a.length = b.length → a.length ≤ 60000 → (∀ w ∈ a, Wd w) → (∀ w ∈ b, Wd w) → (∀ x, pev a x = pev b x) → a = b
  | [], [], _, _, _, _, _ => rfl
  | [], _ :: _, h, _, _, _, _ => by simp at h
  | _ :: _, [], h, _, _, _, _ => by simp at h
  | c :: a, d :: b, hl, hz, ha, hb, e => by
    have e0 : z c = z d := by
      have : z c + 0 * pev a 0 = z d + 0 * pev b 0 := e 0
      grind
    have wc := ha c (by simp)
    have wd := hb d (by simp)
    have ecd : c = d := z_inj wc.1 wc.2 wd.1 wd.2 e0
    have hl' : a.length = b.length := by simpa using hl
    have hz' : a.length + 1 ≤ 60000 := by simpa using hz
    have F : ∀ x, pev a x - pev b x = 0 := Pol.punct (n := a.length) (Pol.sub (pev_pol a) ((pev_pol b).mono (by omega))) (by omega) fun x hx => by
      have h1 : z c + x * pev a x = z d + x * pev b x := e x
      have h3 : x * (pev a x - pev b x) = 0 := by grind
      exact (zp_div h3).resolve_left hx
    rw [ecd, pev_inj hl' (by omega) (fun w m => ha w (List.mem_cons_of_mem _ m)) (fun w m => hb w (List.mem_cons_of_mem _ m)) fun x => by have := F x; grind]
theorem norm_inj {a b : List Int} (ha : Norm a) (hb : Norm b) (la : a.length ≤ 60000) (lb : b.length ≤ 60000) (e : ∀ x, pev a x = pev b x) : a = b := by
  have h1 := norm_le ha lb ((pev_pol b).ext e) la
  have h2 := norm_le hb la ((pev_pol a).ext fun x => (e x).symm) lb
  exact pev_inj (by omega) la ha.1 hb.1 e
/-! products -/
theorem Pol.mul : ∀ {n m : Nat} {f g : Zp → Zp}, Pol n f → Pol m g → Pol (n + m) fun x => f x * g x
  | 0, m, f, g, h, _ => (pol_nil (0 + m)).ext fun x => by show f x * g x = 0; rw [h x]; grind
  | n + 1, m, f, g, ⟨c, u, h, q⟩, k => by
    have A := (Pol.mul h k).xmul
    have B := (k.smul c).mono (show m ≤ n + m + 1 by omega)
    rw [show n + 1 + m = n + m + 1 by omega]
    exact (B.add A).ext fun x => by show f x * g x = g x * c + x * (u x * g x); rw [q x]; grind
/-- the highest coefficient -/
theorem norm_lead {a : List Int} (h : Norm a) (ne : a ≠ []) : ∃ (c : Zp) (g : Zp → Zp), c ≠ 0 ∧ Pol (a.length - 1) g ∧ ∀ x, pev a x = g x + c * pw x (a.length - 1) := by
  have hlt : a.length - 1 < a.length := by
    have := List.length_pos_iff.mpr ne
    omega
  refine ⟨z (a.getD (a.length - 1) 0), pev (a.take (a.length - 1)), fun e => ?_, (pev_pol _).mono (by rw [List.length_take]; omega), fun x => ?_⟩
  · have w : Wd (a.getD (a.length - 1) 0) := h.1 _ (by rw [List.getD_eq_getElem?_getD, List.getElem?_eq_getElem hlt]; exact List.getElem_mem hlt)
    have := (z_z _).mp e
    have ne0 := h.2.resolve_left ne
    obtain ⟨w0, w1⟩ := w
    omega
  · have e : a = a.take (a.length - 1) ++ [a.getD (a.length - 1) 0] := by
      conv => lhs; rw [← List.take_append_drop (a.length - 1) a]
      rw [List.drop_eq_getElem_cons hlt, show a.length - 1 + 1 = a.length by omega, List.drop_length]
      simp [List.getD_eq_getElem?_getD, hlt]
    have := pev_snoc (a.take (a.length - 1)) (a.getD (a.length - 1) 0) x
    rw [← e, List.length_take, Nat.min_eq_left (by omega)] at this
    rw [this]
    grind
theorem norm_mul {a b r : List Int} (ha : Norm a) (hb : Norm b) (hr : Norm r) (na : a ≠ []) (nb : b ≠ []) (la : a.length ≤ 1000) (lb : b.length ≤ 1000) (lr : r.length ≤ 60000) (e : ∀ x, pev r x = pev a x * pev b x) : r.length = a.length + b.length - 1 := by
  obtain ⟨c, g, hc, hg, eg⟩ := norm_lead ha na
  obtain ⟨d, k, hd, hk, ek⟩ := norm_lead hb nb
  have pa := List.length_pos_iff.mpr na
  have pb := List.length_pos_iff.mpr nb
  -- what is below the highest power
  have low : Pol (a.length - 1 + (b.length - 1)) fun x => pev r x - (c * d) * pw x (a.length - 1 + (b.length - 1)) := by
    have A := (hg.mul ((Pol.pw (b.length - 1) d).add hk.up)).mono (show a.length - 1 + (b.length - 1 + 1) ≤ a.length - 1 + (b.length - 1) + 1 by omega)
    have B : ∀ n m : Nat, ∀ u : Zp → Zp, Pol m u → Pol (n + m) fun x => pw x n * u x := by
      intro n
      induction n with
      | zero => exact fun m u hu => by rw [Nat.zero_add]; exact hu.ext fun x => by show 1 * u x = u x; grind
      | succ n ih => exact fun m u hu => by rw [Nat.succ_add]; exact ((ih m u hu).xmul).ext fun x => by show (x * pw x n) * u x = x * (pw x n * u x); grind
    have C := (B (a.length - 1) (b.length - 1) k hk).smul c
    have D := (B (b.length - 1) (a.length - 1) g hg).smul d
    have G : Pol (a.length - 1 + (b.length - 1)) fun x => g x * k x := hg.mul hk
    rw [Nat.add_comm (b.length - 1)] at D
    refine ((C.add D).add G).ext fun x => ?_
    show pev r x - (c * d) * pw x (a.length - 1 + (b.length - 1)) = (pw x (a.length - 1) * k x * c + pw x (b.length - 1) * g x * d) + g x * k x
    rw [e x, eg x, ek x, pw_add]
    grind
  have up : Pol (a.length - 1 + (b.length - 1) + 1) (pev r) := (low.up.add (Pol.pw _ (c * d))).ext fun x => by
    show pev r x = (pev r x - (c * d) * pw x _) + (c * d) * pw x _
    grind
  have h1 := norm_le hr (by omega) up lr
  by_cases q : r.length ≤ a.length - 1 + (b.length - 1)
  · exfalso
    have P := (pev_pol r).mono q
    have := lead_zero (a.length - 1 + (b.length - 1)) (c := c * d) (by omega) (P.sub low) fun x => by
      show _ = pev r x - (pev r x - (c * d) * pw x _)
      grind
    exact zp_mul_ne hc hd this
  · omega
theorem norm_snoc {a : List Int} {c : Int} (h : ∀ w ∈ a, Wd w) (hc : Wd c) (n : c ≠ 0) : Norm (a ++ [c]) := by
  refine ⟨fun w m => ?_, .inr ?_⟩
  · rcases List.mem_append.mp m with m | m
    · exact h w m
    · have : w = c := by simpa using m
      rw [this]
      exact hc
  · rw [List.length_append, List.length_singleton, Nat.add_sub_cancel, List.getD_eq_getElem?_getD]
    simpa using n
theorem norm_nil : Norm [] := ⟨fun _ m => (nomatch m), .inl rfl⟩
theorem pev_smul (fa : Int) : ∀ (b : List Int) (x : Zp), pev (b.map fun c => fa * c) x = z fa * pev b x
  | [], x => by show (0 : Zp) = _ * 0; grind
  | c :: r, x => by
    show z (fa * c) + x * pev (r.map fun c => fa * c) x = z fa * (z c + x * pev r x)
    rw [pev_smul fa r x, z_mul]
    grind
/-! heaps, slices, points -/
theorem _root_.L2.Same.tup {K : PySem.W.Frag} {H H' : Hp} {a : Addr} {xs : List V} (e : Same H H') (h : SqT K H a xs) : SqT K H' a xs := by
  rcases h with (h | ⟨o, h⟩) | h
  · exact .inl (.inl (e _ _ h))
  · exact .inl (.inr ⟨o, e _ _ h⟩)
  · exact .inr h
theorem _root_.L2.Same.new {H : Hp} {p : Addr} {o : HO} (h : H p = none) : Same H (upd H p o) := fun _ _ e => by
  rw [upd_ne (ne_of_none e h)]
  exact e
/-- what was tracked is as it was, but for p -/
def But (p : Addr) (H H' : Hp) : Prop := ∀ b o, H b = some o → b ≠ p → H' b = some o
theorem Only.but {p : Addr} {H H' : Hp} (h : Only p H H') : But p H H' := fun b _ e n => (h b n).trans e
theorem _root_.L2.Same.but {p : Addr} {H H' : Hp} (h : Same H H') : But p H H' := fun b o e _ => h b o e
theorem But.trans {p : Addr} {H H1 H2 : Hp} (x : But p H H1) (y : But p H1 H2) : But p H H2 := fun b o e n => y b o (x b o e n) n
theorem But.same {p : Addr} {H0 H H' : Hp} (y : But p H H') (x : Same H0 H) (h : H0 p = none) : Same H0 H' := fun b o e => y b o (x b o e) (ne_of_none e h)
theorem But.new {p q : Addr} {H H' : Hp} {o : HO} (x : But p H H') (h : H' q = none) : But p H (upd H' q o) := x.trans (Same.new h).but
theorem _root_.L2.Same.at {H H' : Hp} {b : Addr} {o : HO} (s : Same H H') (e : H b = some o) : H' b = some o := s b o e
theorem cut_take (xs : List V) (i : Nat) : cutV xs none (some (i : Int)) = xs.take i := by
  unfold cutV
  rw [HT.sIx_none, HT.sIx_nat, List.drop_zero, Nat.sub_zero]
  by_cases h : i ≤ xs.length
  · rw [Nat.min_eq_left h]
  · rw [Nat.min_eq_right (by omega), List.take_of_length_le (by omega), List.take_of_length_le (by omega)]
theorem cut_drop (xs : List V) (i : Nat) : cutV xs (some (i : Int)) none = xs.drop i := by
  unfold cutV
  rw [HT.sIx_none, HT.sIx_nat]
  by_cases h : i ≤ xs.length
  · rw [Nat.min_eq_left h, List.take_of_length_le (by rw [List.length_drop]; omega)]
  · rw [Nat.min_eq_right (by omega), List.drop_of_length_le (by omega), List.drop_of_length_le (by omega), List.take_nil]
theorem take_snoc {α : Type} {l : List α} {i : Nat} {x : α} (h : l[i]? = some x) : l.take (i + 1) = l.take i ++ [x] := by
  rw [List.take_add_one, h]
  rfl
theorem item_lt {α : Type} {l : List α} {i : Nat} {x : α} (h : l[i]? = some x) : i < l.length := (List.getElem?_eq_some_iff.mp h).1
theorem small (n : Nat) (h : n ≤ 60000) : n < sizeLine := Nat.lt_of_le_of_lt h (by decide)
theorem getD_item {α : Type} {l : List α} {i : Nat} {x d : α} (h : l[i]? = some x) : l.getD i d = x := by rw [List.getD_eq_getElem?_getD, h]; rfl
theorem seq_off {K : PySem.W.Frag} {H : Hp} {a b : Addr} {xs : List V} {o : HO} (h : SqL K H a xs) (n : a ≠ b) : SqL K (upd H b o) a xs := by
  rcases h with (h | ⟨u, h⟩) | h
  · exact .inl (.inl (by rw [upd_ne n]; exact h))
  · exact .inl (.inr ⟨u, by rw [upd_ne n]; exact h⟩)
  · exact .inr h
/-- one more thing at a place that was free at the entry -/
theorem same_put {H H' : Hp} {p : Addr} {o : HO} (s : Same H H') (n : H p = none) : Same H (upd H' p o) := fun b u e => by
  rw [upd_ne (ne_of_none e n)]
  exact s b u e
theorem item_set {α : Type} {l : List α} {i j : Nat} {x y : α} (h : (l.set i x)[j]? = some y) : (i = j ∧ y = x ∧ j < l.length) ∨ (i ≠ j ∧ l[j]? = some y) := by
  rw [List.getElem?_set] at h
  by_cases e : i = j
  · subst e
    rw [if_pos rfl] at h
    split at h
    · exact .inl ⟨rfl, (Option.some.inj h).symm, by assumption⟩
    · cases h
  · rw [if_neg e] at h
    exact .inr ⟨e, h⟩
theorem same_none {H H' : Hp} {b : Addr} (s : Same H H') (n : H' b = none) : H b = none := by
  cases q : H b with
  | none => rfl
  | some o => rw [s _ _ q] at n; cases n
theorem getD_set {w : List Int} {i k : Nat} {v : Int} (h : k < w.length) : (w.set i v).getD k 0 = if i = k then v else w.getD k 0 := by
  rw [List.getD_eq_getElem?_getD, List.getElem?_set]
  split
  · next e =>
    subst e
    rw [if_pos h]
    rfl
  · rw [List.getD_eq_getElem?_getD]
/-! data: == of lists of ints, of pairs -/
theorem eqvAll_ints : ∀ xs ys : List Int, PyData.eqvAll (xs.map .int) (ys.map .int) = decide (xs = ys)
  | [], [] => by simp [PyData.eqvAll]
  | [], _ :: _ => by simp [PyData.eqvAll]
  | _ :: _, [] => by simp [PyData.eqvAll]
  | x :: xs, y :: ys => by
    simp only [List.map_cons, PyData.eqvAll, PyData.eqv, eqvAll_ints xs ys]
    by_cases h : x = y <;> by_cases k : xs = ys <;> simp [h, k]
theorem canLayAll_ints : ∀ xs : List Int, PyData.canLayAll0 (xs.map .int) = true
  | [] => rfl
  | x :: xs => by simp [PyData.canLayAll0, PyData.canLay0, canLayAll_ints xs]
theorem depthAll_ints : ∀ xs : List Int, PyData.depthAll (xs.map .int) = 0
  | [] => rfl
  | x :: xs => by simp [PyData.depthAll, PyData.depth, depthAll_ints xs]
theorem shaped_ints (xs : List Int) : SeqAt.shaped (.list (xs.map .int)) = true := by
  simp [SeqAt.shaped, PyData.canLay0, canLayAll_ints, PyData.depth, depthAll_ints]
theorem dpAll_ints {K : PySem.W.Frag} {H : Hp} : ∀ xs : List Int, DpAll K H (xs.map V.int) (xs.map .int)
  | [] => .nil
  | x :: xs => .cons (.int x) (dpAll_ints xs)
theorem dp_ints {K : PySem.W.Frag} {H : Hp} {a : Addr} {xs : List Int} (h : SqL K H a (xs.map V.int)) : Dp K H (.ref a) (.list (xs.map .int)) := .lst h (dpAll_ints xs)
theorem eqv_ints (xs ys : List Int) : PyData.eqv (.list (xs.map .int)) (.list (ys.map .int)) = decide (xs = ys) := by
  simp only [PyData.eqv]
  exact eqvAll_ints xs ys
/-- rows of ints -/
def rowD (xs : List Int) : PyData := .list (xs.map .int)
theorem rows_data : ∀ xss : List (List Int), PyData.canLayAll0 (xss.map rowD) = true ∧ PyData.depthAll (xss.map rowD) ≤ 1
  | [] => ⟨rfl, Nat.zero_le _⟩
  | xs :: xss => by
    obtain ⟨h1, h2⟩ := rows_data xss
    refine ⟨by simp [PyData.canLayAll0, PyData.canLay0, rowD, canLayAll_ints, h1], ?_⟩
    simp only [List.map_cons, PyData.depthAll, rowD, PyData.depth, depthAll_ints]
    omega
theorem rows_shaped (xss : List (List Int)) : SeqAt.shaped (.list (xss.map rowD)) = true := by
  obtain ⟨h1, h2⟩ := rows_data xss
  have e : PyData.depth (.list (xss.map rowD)) = PyData.depthAll (xss.map rowD) + 1 := by simp only [PyData.depth]
  unfold SeqAt.shaped
  rw [Bool.and_eq_true]
  exact ⟨by simp only [PyData.canLay0]; exact h1, decide_eq_true (by rw [e]; omega)⟩
theorem eqvAll_rows : ∀ xss yss : List (List Int), PyData.eqvAll (xss.map rowD) (yss.map rowD) = decide (xss = yss)
  | [], [] => by simp [PyData.eqvAll]
  | [], _ :: _ => by simp [PyData.eqvAll]
  | _ :: _, [] => by simp [PyData.eqvAll]
  | x :: xs, y :: ys => by
    have h := eqv_ints x y
    simp only [List.map_cons, PyData.eqvAll, rowD, eqvAll_rows xs ys, h]
    by_cases h : x = y <;> by_cases k : xs = ys <;> simp [h, k]
theorem eqv_rows (xss yss : List (List Int)) : PyData.eqv (.list (xss.map rowD)) (.list (yss.map rowD)) = decide (xss = yss) := by
  simp only [PyData.eqv]
  exact eqvAll_rows xss yss
theorem dp_two {K : PySem.W.Frag} {H : Hp} {a b c : Addr} {xs ys : List Int} (h : SqL K H a [V.ref b, V.ref c]) (hb : SqL K H b (xs.map V.int)) (hc : SqL K H c (ys.map V.int)) : Dp K H (.ref a) (.list ([xs, ys].map rowD)) :=
  .lst h (.cons (dp_ints hb) (.cons (dp_ints hc) .nil))
/-! xs[i] op= e, i not below 0 -/
def rGetL (K : PySem.W.Frag) : V → V → Hp → VK → Prop := fun x y H Q => ∃ (p : Addr) (xs : List V) (i : Int) (j : Nat) (v : V), x = .ref p ∧ y = .int i ∧ i = (j : Int) ∧ SqL K H p xs ∧ xs[j]? = some v ∧ Q v H
theorem pget_list {X : Cx} : PGet X (rGetL X.K) := by
  intro pins s σ H o i ov iv Q I ro ri h
  obtain ⟨p, xs, _, j, v, rfl, rfl, rfl, hS, hv, q⟩ := h
  cases ro
  obtain ⟨t, rfl⟩ := ri
  obtain ⟨its, r, pl, hz⟩ := I.list hS
  obtain ⟨u, hu, ru⟩ := r.get hv
  have hl : j < xs.length := (List.getElem?_eq_some_iff.mp hv).1
  have hn := line63
  exact PySem.wpAny_getItem_list pl.isList (by omega) (by omega) (by rw [Int.toNat_natCast]; simpa using hu) ⟨v, H, I, ru, q⟩
theorem rep_zero (n : Nat) : (List.replicate n [V.int 0]).flatten = (List.replicate n (0 : Int)).map V.int := by
  induction n with
  | zero => rfl
  | succ n ih => rw [List.replicate_succ, List.flatten_cons, ih, List.replicate_succ]; rfl
theorem pev_rep (n : Nat) (x : Zp) : pev (List.replicate n (0 : Int)) x = 0 := pev_zeros (fun w m => by rw [(List.mem_replicate.mp m).2]; exact z_zero) x
theorem ixN_nat {n j : Nat} (h : j < n) : ixN n (j : Int) = some j := by
  unfold ixN
  rw [if_pos (by omega), if_pos (by omega), Int.toNat_natCast]
theorem erase_map {α β : Type} (f : α → β) : ∀ (l : List α) (i : Nat), (l.map f).eraseIdx i = (l.eraseIdx i).map f
  | [], _ => rfl
  | _ :: _, 0 => rfl
  | a :: l, i + 1 => by
    show f a :: (l.map f).eraseIdx i = f a :: (l.eraseIdx i).map f
    rw [erase_map f l i]
theorem erase_perm : ∀ (l : List Int) (i : Nat) (h : i < l.length), (l[i] :: l.eraseIdx i).Perm l
  | _ :: _, 0, _ => List.Perm.refl _
  | a :: l, i + 1, h => by
    have h' : i < l.length := Nat.lt_of_succ_lt_succ h
    show (l[i] :: a :: l.eraseIdx i).Perm (a :: l)
    exact (List.Perm.swap _ _ _).trans (List.Perm.cons _ (erase_perm l i (Nat.lt_of_succ_lt_succ h)))
theorem seqIx_nat {i n : Nat} (h : i < n) : seqIndex? (i : Int) n = some i := by
  rw [seqIndex_of (by omega) (by omega), Int.toNat_natCast]
def upto (n : Nat) : List Int := (List.range n).map fun (i : Nat) => (i : Int)
theorem upto_len (n : Nat) : (upto n).length = n := by simp [upto]
/-- where things stand -/
structure Ad where
  f_choose_disks : Addr
  d_choose_disks : FuncData
  f_law_pot : Addr
  d_law_pot : FuncData
  f_law_next : Addr
  d_law_next : FuncData
  f_law_is_int : Addr
  d_law_is_int : FuncData
  f_law_answer : Addr
  d_law_answer : FuncData
  f_law_before : Addr
  d_law_before : FuncData
  f_law : Addr
  d_law : FuncData
  c_PoolError : Addr
  c_NoSpace : Addr
  c_NotEnoughDisks : Addr
/-- what the top has written -/
structure Txt (K : PySem.W.Frag) (mg : Str → Option Value) (a : Ad) : Prop where
  F_choose_disks : Fun K "choose_disks" "choose_disks" s_choose_disks a.f_choose_disks a.d_choose_disks
  g_choose_disks : mg "choose_disks" = some (.ref a.f_choose_disks)
  d_choose_disks : Binds K a.d_choose_disks ["candidates", "width"] []
  F_law_pot : Fun K "_law_pot" "_law_pot" s_law_pot a.f_law_pot a.d_law_pot
  g_law_pot : mg "_law_pot" = some (.ref a.f_law_pot)
  d_law_pot : Binds K a.d_law_pot ["script"] []
  F_law_next : Fun K "_law_next" "_law_next" s_law_next a.f_law_next a.d_law_next
  g_law_next : mg "_law_next" = some (.ref a.f_law_next)
  d_law_next : Binds K a.d_law_next ["pot", "limit"] []
  F_law_is_int : Fun K "_law_is_int" "_law_is_int" s_law_is_int a.f_law_is_int a.d_law_is_int
  g_law_is_int : mg "_law_is_int" = some (.ref a.f_law_is_int)
  d_law_is_int : Binds K a.d_law_is_int ["value"] []
  F_law_answer : Fun K "_law_answer" "_law_answer" s_law_answer a.f_law_answer a.d_law_answer
  g_law_answer : mg "_law_answer" = some (.ref a.f_law_answer)
  d_law_answer : Binds K a.d_law_answer ["candidates", "width"] []
  F_law_before : Fun K "_law_before" "_law_before" s_law_before a.f_law_before a.d_law_before
  g_law_before : mg "_law_before" = some (.ref a.f_law_before)
  d_law_before : Binds K a.d_law_before ["one", "other"] []
  F_law : Fun K "law" "law" s_law a.f_law a.d_law
  g_law : mg "law" = some (.ref a.f_law)
  d_law : Binds K a.d_law ["script"] []
  n_sorted : mg "sorted" = none
  n_len : mg "len" = none
  n_list : mg "list" = none
  n_int : mg "int" = none
  n_abs : mg "abs" = none
  n_isinstance : mg "isinstance" = none
  n_bool : mg "bool" = none
  n_range : mg "range" = none
  n_all : mg "all" = none
  g_PoolError : mg "PoolError" = some (.ref a.c_PoolError)
  x_PoolError : PySem.W.excIn K a.c_PoolError [.type "ValueError", .type "Exception", .type "BaseException", .type "object"] "ValueError.__new__" = true
  k_PoolError : PySem.W.keepIn K (.ref a.c_PoolError) = true
  b_PoolError : PySem.W.subIn K (.ref a.c_PoolError) (.type "BaseException") = some true
  t_PoolError : PySem.W.typeIn K (.ref a.c_PoolError) = some (.type "type")
  E_PoolError : ExcC K a.c_PoolError
  g_NoSpace : mg "NoSpace" = some (.ref a.c_NoSpace)
  x_NoSpace : PySem.W.excIn K a.c_NoSpace [.type "ValueError", .type "Exception", .type "BaseException", .type "object"] "ValueError.__new__" = true
  k_NoSpace : PySem.W.keepIn K (.ref a.c_NoSpace) = true
  b_NoSpace : PySem.W.subIn K (.ref a.c_NoSpace) (.type "BaseException") = some true
  t_NoSpace : PySem.W.typeIn K (.ref a.c_NoSpace) = some (.type "type")
  E_NoSpace : ExcC K a.c_NoSpace
  g_NotEnoughDisks : mg "NotEnoughDisks" = some (.ref a.c_NotEnoughDisks)
  x_NotEnoughDisks : PySem.W.excIn K a.c_NotEnoughDisks [.type "ValueError", .type "Exception", .type "BaseException", .type "object"] "ValueError.__new__" = true
  k_NotEnoughDisks : PySem.W.keepIn K (.ref a.c_NotEnoughDisks) = true
  b_NotEnoughDisks : PySem.W.subIn K (.ref a.c_NotEnoughDisks) (.type "BaseException") = some true
  t_NotEnoughDisks : PySem.W.typeIn K (.ref a.c_NotEnoughDisks) = some (.type "type")
  E_NotEnoughDisks : ExcC K a.c_NotEnoughDisks
  u_NoSpace_PoolError : PySem.W.exmOne K (.ref a.c_NoSpace) (.ref a.c_PoolError) = some true
  u_NotEnoughDisks_PoolError : PySem.W.exmOne K (.ref a.c_NotEnoughDisks) (.ref a.c_PoolError) = some true
  i_NoSpace_NoSpace : PySem.W.kitOne K (.ref a.c_NoSpace) (.ref a.c_NoSpace) = some true
  i_NoSpace_NotEnoughDisks : PySem.W.kitOne K (.ref a.c_NoSpace) (.ref a.c_NotEnoughDisks) = some false
  i_NotEnoughDisks_NoSpace : PySem.W.kitOne K (.ref a.c_NotEnoughDisks) (.ref a.c_NoSpace) = some false
  i_NotEnoughDisks_NotEnoughDisks : PySem.W.kitOne K (.ref a.c_NotEnoughDisks) (.ref a.c_NotEnoughDisks) = some true
/-! the promises -/
/-! the draws: a list of the script, a place in it, a rest, a seed -/
/-- at p stands a pot, its script's list at l -/
def Pot (H : Hp) (p l : Addr) : Prop := ∃ (ns : List Int) (i acc seed : Int), H p = some (.lst [.ref l, .int i, .int acc, .int seed]) ∧ H l = some (.lst (ns.map V.int)) ∧ 0 ≤ i ∧ 0 ≤ acc ∧ 0 ≤ seed ∧ seed < 2147483647
theorem Pot.ne {H : Hp} {p l : Addr} (h : Pot H p l) : l ≠ p := by
  obtain ⟨ns, i, acc, seed, h1, h2, _⟩ := h
  refine ne_of h2 h1 fun e => ?_
  have e1 := HO.lst.inj e
  cases ns with
  | nil => cases e1
  | cons a r => rw [List.map_cons] at e1; injection e1 with e2 _; cases e2
theorem Pot.same {H H' : Hp} {p l : Addr} (h : Pot H p l) (s : Same H H') : Pot H' p l := by
  obtain ⟨ns, i, acc, seed, h1, h2, h3⟩ := h
  exact ⟨ns, i, acc, seed, s _ _ h1, s _ _ h2, h3⟩
theorem Pot.only {H H' : Hp} {p l q : Addr} (h : Pot H p l) (s : Only q H H') (n1 : p ≠ q) (n2 : l ≠ q) : Pot H' p l := by
  obtain ⟨ns, i, acc, seed, h1, h2, h3⟩ := h
  exact ⟨ns, i, acc, seed, by rw [s _ n1]; exact h1, by rw [s _ n2]; exact h2, h3⟩
/-- a draw's answer below the limit -/
def sp_law_next (K : PySem.W.Frag) (a : Ad) : Sp := fun vs H Q _ => ∃ (p l : Addr) (m : Int), vs = [.ref p, .int m] ∧ Pot H p l ∧ 0 < m ∧ m < 1099511627776 ∧
  ∀ (v : Int) (H' : Hp), 0 ≤ v → v < m → Pot H' p l → Only p H H' → Q (.int v) H'
theorem sp_law_next_len {K : PySem.W.Frag} {a : Ad} {vs : List V} {H : Hp} {Q : VK} {E : XK} (h : sp_law_next K a vs H Q E) : vs.length = 2 := by
  obtain ⟨p, l, m, rfl, _⟩ := h
  rfl
def sp_law_pot (K : PySem.W.Frag) (a : Ad) : Sp := fun vs H Q _ => ∃ (s : Addr) (ns : List Int), vs = [.ref s] ∧ SqL K H s (ns.map V.int) ∧ ns.length ≤ 1000 ∧
  ∀ (p l : Addr) (H' : Hp), H p = none → H l = none → Same H H' → Pot H' p l → Q (.ref p) H'
theorem sp_law_pot_len {K : PySem.W.Frag} {a : Ad} {vs : List V} {H : Hp} {Q : VK} {E : XK} (h : sp_law_pot K a vs H Q E) : vs.length = 1 := by
  obtain ⟨s, ns, rfl, _⟩ := h
  rfl
/-- the law itself: True at every script -/
def sp_law0 (K : PySem.W.Frag) : Sp := fun vs H Q _ => ∃ (s : Addr) (ns : List Int), vs = [.ref s] ∧ SqL K H s (ns.map V.int) ∧ ns.length ≤ 63 ∧ ∀ H', Q (.bl true) H'
def sp_law (K : PySem.W.Frag) (a : Ad) : Sp := sp_law0 K
theorem sp_law_len {K : PySem.W.Frag} {a : Ad} {vs : List V} {H : Hp} {Q : VK} {E : XK} (h : sp_law K a vs H Q E) : vs.length = 1 := by
  obtain ⟨s, ns, rfl, _⟩ := h
  rfl
theorem int_item {ns : List Int} {i : Nat} {y : V} (h : (ns.map V.int)[i]? = some y) : ∃ z, ns[i]? = some z ∧ y = V.int z := by
  rw [List.getElem?_map] at h
  cases e : ns[i]? with
  | none => rw [e] at h; cases h
  | some z => rw [e] at h; exact ⟨z, rfl, (Option.some.inj h).symm⟩
/-- the pot's own object is no list of refs alone, no tuple -/
theorem Pot.list {H : Hp} {p l : Addr} (h : Pot H p l) : ∃ i acc seed : Int, H p = some (.lst [.ref l, .int i, .int acc, .int seed]) := by
  obtain ⟨ns, i, acc, seed, h1, _⟩ := h
  exact ⟨i, acc, seed, h1⟩
theorem But.seq {K : PySem.W.Frag} {H H' : Hp} {p a : Addr} {xs : List V} (b : But p H H') (n : a ≠ p) (h : SqL K H a xs) : SqL K H' a xs := by
  rcases h with (h | ⟨o, h⟩) | h
  · exact .inl (.inl (b _ _ h n))
  · exact .inl (.inr ⟨o, b _ _ h n⟩)
  · exact .inr h
theorem But.tup {K : PySem.W.Frag} {H H' : Hp} {p l a : Addr} {xs : List V} (P : Pot H p l) (b : But p H H') (h : SqT K H a xs) : SqT K H' a xs := by
  obtain ⟨i, acc, seed, hp⟩ := P.list
  rcases h with (h | ⟨o, h⟩) | h
  · exact .inl (.inl (b _ _ h (ne_of h hp (by intro q; cases q))))
  · exact .inl (.inr ⟨o, b _ _ h (ne_of h hp (by intro q; cases q))⟩)
  · exact .inr h
theorem Pot.noList {H : Hp} {p l a : Addr} (P : Pot H p l) {xs : List V} (h : H a = some (.lst xs)) (hx : ∀ i acc seed : Int, xs ≠ [.ref l, .int i, .int acc, .int seed]) : a ≠ p := by
  obtain ⟨i, acc, seed, hp⟩ := P.list
  exact ne_of h hp fun q => hx i acc seed (HO.lst.inj q)
theorem Pot.off {H : Hp} {p l q : Addr} (P : Pot H p l) (h : H q = none) : p ≠ q ∧ l ≠ q := by
  obtain ⟨_, _, _, _, g1, g2, _⟩ := P
  exact ⟨ne_of_none g1 h, ne_of_none g2 h⟩
theorem Pot.new {H : Hp} {p l q : Addr} {o : HO} (P : Pot H p l) (h : H q = none) : Pot (upd H q o) p l := P.same (Same.new h)
/-- an int is an int -/
def sp_law_is_int (K : PySem.W.Frag) (a : Ad) : Sp := fun vs H Q _ => ∃ x : Int, vs = [.int x] ∧ Q (.bl true) H
theorem sp_law_is_int_len {K : PySem.W.Frag} {a : Ad} {vs : List V} {H : Hp} {Q : VK} {E : XK} (h : sp_law_is_int K a vs H Q E) : vs.length = 1 := by
  obtain ⟨x, rfl, _⟩ := h
  rfl
/-! candidates -/
structure Cd where
  t : Addr
  d : Int
  b : Bool
  f : Int
abbrev cdV (e : Cd) : V := .ref e.t
def beforeM (x y : Cd) : Bool := if x.b = y.b then (if x.f = y.f then decide (x.d < y.d) else decide (y.f < x.f)) else x.b
def usableM (L : List Cd) : List Cd := L.filter fun e => decide (0 < e.f)
def rankM (U : List Cd) (x : Cd) : Nat := (U.filter fun y => beforeM y x).length
def bestM (U : List Cd) (w : Nat) : List Int := (U.filter fun x => decide (rankM U x < w)).map (·.d)
theorem before_irr (x : Cd) : beforeM x x = false := by
  unfold beforeM
  rw [if_pos rfl, if_pos rfl]
  exact decide_eq_false (Int.lt_irrefl _)
theorem before_asym {x y : Cd} (h : beforeM x y = true) : beforeM y x = false := by
  obtain ⟨t1, d1, b1, f1⟩ := x
  obtain ⟨t2, d2, b2, f2⟩ := y
  unfold beforeM at h ⊢
  dsimp only at h ⊢
  by_cases hb : b1 = b2
  · subst hb
    rw [if_pos rfl] at h ⊢
    by_cases hf : f1 = f2
    · subst hf
      rw [if_pos rfl] at h ⊢
      have := of_decide_eq_true h
      exact decide_eq_false (by omega)
    · rw [if_neg hf] at h
      rw [if_neg (Ne.symm hf)]
      have := of_decide_eq_true h
      exact decide_eq_false (by omega)
  · rw [if_neg hb] at h
    rw [if_neg (Ne.symm hb)]
    cases b2 with
    | false => rfl
    | true => rw [h] at hb; exact absurd rfl hb
theorem before_tot {x y : Cd} (n : x.d ≠ y.d) (h : beforeM x y = false) : beforeM y x = true := by
  obtain ⟨t1, d1, b1, f1⟩ := x
  obtain ⟨t2, d2, b2, f2⟩ := y
  unfold beforeM at h ⊢
  dsimp only at n h ⊢
  by_cases hb : b1 = b2
  · subst hb
    rw [if_pos rfl] at h ⊢
    by_cases hf : f1 = f2
    · subst hf
      rw [if_pos rfl] at h ⊢
      have := of_decide_eq_false h
      exact decide_eq_true (by omega)
    · rw [if_neg hf] at h
      rw [if_neg (Ne.symm hf)]
      have := of_decide_eq_false h
      exact decide_eq_true (by omega)
  · rw [if_neg hb] at h
    rw [if_neg (Ne.symm hb)]
    cases b2 with
    | true => rfl
    | false => rw [h] at hb; exact absurd rfl hb
def leM (x y : Cd) : Bool := !beforeM y x
theorem before_trans {x y z : Cd} (h1 : beforeM y x = false) (h2 : beforeM z y = false) : beforeM z x = false := by
  obtain ⟨t1, d1, b1, f1⟩ := x
  obtain ⟨t2, d2, b2, f2⟩ := y
  obtain ⟨t3, d3, b3, f3⟩ := z
  unfold beforeM at h1 h2 ⊢
  dsimp only at h1 h2 ⊢
  cases b1 <;> cases b2 <;> cases b3 <;> simp only [if_true, Bool.false_eq_true, Bool.true_eq_false, if_false, reduceCtorEq] at h1 h2 ⊢ <;>
    (split at h1 <;> split at h2 <;> split <;> simp only [decide_eq_false_iff_not] at h1 h2 ⊢ <;> omega)
theorem leM_trans (x y z : Cd) (h1 : leM x y = true) (h2 : leM y z = true) : leM x z = true := by
  unfold leM at h1 h2 ⊢
  rw [Bool.not_eq_true'] at h1 h2 ⊢
  exact before_trans h1 h2
theorem leM_total (x y : Cd) : (leM x y || leM y x) = true := by
  unfold leM
  cases h : beforeM y x with
  | false => rfl
  | true => rw [before_asym h]; rfl
theorem rank_aux (w : Nat) : ∀ (S P : List Cd), (P ++ S).Pairwise (fun x y => beforeM x y = true) → S.filter (fun x => decide (rankM (P ++ S) x < w)) = S.take (w - P.length)
  | [], P, _ => by simp
  | a :: T, P, h => by
    have e : P ++ a :: T = (P ++ [a]) ++ T := by simp
    have hP := List.pairwise_append.mp h
    have ha : rankM (P ++ a :: T) a = P.length := by
      unfold rankM
      rw [List.filter_append, List.filter_eq_self.mpr (fun x m => hP.2.2 x m a (by simp)), List.filter_cons_of_neg (by rw [before_irr]; decide), List.filter_eq_nil_iff.mpr (fun x m => by rw [before_asym ((List.pairwise_cons.mp hP.2.1).1 x m)]; decide), List.append_nil]
    have ih := rank_aux w T (P ++ [a]) (by rw [← e]; exact h)
    rw [← e, List.length_append] at ih
    by_cases hw : P.length < w
    · rw [List.filter_cons_of_pos (by rw [ha]; exact decide_eq_true hw), ih]
      rw [show w - P.length = (w - (P.length + [a].length)) + 1 by simp; omega, List.take_succ_cons]
    · rw [List.filter_cons_of_neg (by rw [ha, decide_eq_false hw]; decide), ih, show w - P.length = 0 by omega, show w - (P.length + [a].length) = 0 by omega, List.take_zero, List.take_zero]
theorem rank_perm {U S : List Cd} (p : S.Perm U) (x : Cd) : rankM S x = rankM U x := (p.filter _).length_eq
theorem best_of {U S : List Cd} {w : Nat} (p : S.Perm U) (h : S.Pairwise fun x y => beforeM x y = true) : ((S.take w).map (·.d)).Perm (bestM U w) := by
  have h1 := rank_aux w S [] h
  have e : S.take w = S.filter fun x => decide (rankM U x < w) := by
    have h2 : S.filter (fun x => decide (rankM ([] ++ S) x < w)) = S.take (w - 0) := h1
    rw [Nat.sub_zero] at h2
    rw [← h2]
    refine List.filter_congr fun x _ => ?_
    rw [List.nil_append, rank_perm p]
  rw [e]
  exact (p.filter _).map _
theorem strict_of {S : List Cd} (h : S.Pairwise fun x y => leM x y = true) (n : (S.map (·.d)).Nodup) : S.Pairwise fun x y => beforeM x y = true := by
  have n' : S.Pairwise fun x y => x.d ≠ y.d := List.pairwise_map.mp n
  refine (h.and n').imp fun {x y} q => ?_
  have q1 : beforeM y x = false := by
    have := q.1
    unfold leM at this
    rw [Bool.not_eq_true'] at this
    exact this
  exact before_tot (Ne.symm q.2) q1
theorem sorted_one {xs ys : List Int} (p : xs.Perm ys) (h1 : xs.Pairwise (· ≤ ·)) (h2 : ys.Pairwise (· ≤ ·)) : xs = ys :=
  List.Perm.eq_of_pairwise (le := (· ≤ ·)) (fun _ _ _ _ h1 h2 => Int.le_antisymm h1 h2) h1 h2 p
def tripD (e : Cd) : PyData := .tuple [.bool (!e.b), .int (-e.f), .int e.d]
theorem trip_alike (x y : Cd) : PySem.W.alike (tripD x) (tripD y) = true := by simp [PySem.W.alike, PySem.W.alikeAll, tripD]
theorem trip_lt (x y : Cd) : PySem.W.dataLt (tripD x) (tripD y) = beforeM x y := by
  unfold tripD
  rw [PySem.W.dataLt_tuple, PySem.W.dataLt_cons (by simp [PySem.W.alike]), PySem.W.dataLt_cons (by simp [PySem.W.alike]), PySem.W.dataLt_cons (by simp [PySem.W.alike]), PySem.W.dataLt_bool, PySem.W.dataLt_int, PySem.W.dataLt_int]
  have e : PyProof.Rows.lexLt PyProof.Rows.itemOrd (PySem.W.keyToksAll []) (PySem.W.keyToksAll []) = false := PyProof.Rows.lex_irrefl _
  rw [e]
  simp only [PyData.eqv]
  obtain ⟨t1, d1, b1, f1⟩ := x
  obtain ⟨t2, d2, b2, f2⟩ := y
  unfold beforeM
  dsimp only
  by_cases hf : f1 = f2
  · subst hf
    by_cases hd : d1 = d2
    · subst hd
      cases b1 <;> cases b2 <;> simp [PyProof.Rows.b2i]
    · cases b1 <;> cases b2 <;> simp [PyProof.Rows.b2i, hd]
  · have hf' : ¬ -f1 = -f2 := fun z => hf (by omega)
    have e2 : decide (-f1 < -f2) = decide (f2 < f1) := by
      by_cases q : f2 < f1
      · rw [decide_eq_true q, decide_eq_true (show -f1 < -f2 by omega)]
      · rw [decide_eq_false q, decide_eq_false (show ¬ -f1 < -f2 by omega)]
    rw [e2]
    cases b1 <;> cases b2 <;> simp [PyProof.Rows.b2i, hf, hf']
/-- where such a list stands -/
def CdL (K : PySem.W.Frag) (H : Hp) (D : Addr) (L : List Cd) : Prop := SqL K H D (L.map cdV) ∧ ∀ e ∈ L, H e.t = some (.tup [.int e.d, .bl e.b, .int e.f])
theorem CdL.same {K : PySem.W.Frag} {H H' : Hp} {D : Addr} {L : List Cd} (h : CdL K H D L) (s : Same H H') : CdL K H' D L := ⟨s.seq h.1, fun e m => s _ _ (h.2 e m)⟩
theorem cd_item {L : List Cd} {i : Nat} {y : V} (h : (L.map cdV)[i]? = some y) : ∃ e, L[i]? = some e ∧ y = cdV e := by
  rw [List.getElem?_map] at h
  cases q : L[i]? with
  | none => rw [q] at h; cases h
  | some e => rw [q] at h; exact ⟨e, rfl, (Option.some.inj h).symm⟩
theorem cd_get {L : List Cd} {i : Nat} {e : Cd} (h : L[i]? = some e) : (L.map cdV)[i]? = some (cdV e) := by rw [List.getElem?_map, h]; rfl
/-- the data of a triple that stands in the heap -/
def kH (H : Hp) : V → PyData
  | .ref t => match H t with
    | some (.tup [.bl b, .int f, .int d]) => .tuple [.bool b, .int f, .int d]
    | _ => .none
  | _ => .none
theorem kH_of {H : Hp} {t : Addr} {e : Cd} (h : H t = some (.tup [.bl (!e.b), .int (-e.f), .int e.d])) : kH H (.ref t) = tripD e := by
  unfold kH
  simp only [h]
  rfl
theorem filter_snoc {α : Type} (p : α → Bool) {L : List α} {i : Nat} {e : α} (h : L[i]? = some e) : (L.take (i + 1)).filter p = (L.take i).filter p ++ if p e then [e] else [] := by
  rw [take_snoc h, List.filter_append]
  congr 1
  simp only [List.filter_cons, List.filter_nil]
theorem filter_len {α : Type} (p : α → Bool) (L : List α) (i : Nat) : ((L.take i).filter p).length ≤ L.length := Nat.le_trans (List.length_filter_le _ _) (by rw [List.length_take]; exact Nat.min_le_right _ _)
/-- candidates as data -/
def cdD (e : Cd) : PyData := .tuple [.int e.d, .bool e.b, .int e.f]
theorem cds_data : ∀ L : List Cd, PyData.canLayAll0 (L.map cdD) = true ∧ PyData.depthAll (L.map cdD) ≤ 1 ∧ PyData.eqvAll (L.map cdD) (L.map cdD) = true
  | [] => ⟨rfl, Nat.zero_le _, by simp [PyData.eqvAll]⟩
  | q :: qs => by
    obtain ⟨h1, h2, h3⟩ := cds_data qs
    refine ⟨by simp [PyData.canLayAll0, PyData.canLay0, cdD, h1], ?_, by simp [PyData.eqvAll, PyData.eqv, cdD, h3]⟩
    simp only [List.map_cons, PyData.depthAll, cdD, PyData.depth]
    omega
theorem cds_shaped (L : List Cd) : SeqAt.shaped (.list (L.map cdD)) = true := by
  obtain ⟨h1, h2, _⟩ := cds_data L
  have e : PyData.depth (.list (L.map cdD)) = PyData.depthAll (L.map cdD) + 1 := by simp only [PyData.depth]
  unfold SeqAt.shaped
  rw [Bool.and_eq_true]
  exact ⟨by simp only [PyData.canLay0]; exact h1, decide_eq_true (by rw [e]; omega)⟩
theorem cds_eqv (L : List Cd) : PyData.eqv (.list (L.map cdD)) (.list (L.map cdD)) = true := by
  simp only [PyData.eqv]
  exact (cds_data L).2.2
theorem dp_cds {K : PySem.W.Frag} {H : Hp} {D : Addr} {L : List Cd} (h : CdL K H D L) : Dp K H (.ref D) (.list (L.map cdD)) := by
  refine .lst h.1 ?_
  have : ∀ M : List Cd, (∀ e ∈ M, H e.t = some (.tup [.int e.d, .bl e.b, .int e.f])) → DpAll K H (M.map cdV) (M.map cdD) := by
    intro M
    induction M with
    | nil => intro _; exact .nil
    | cons e M ih => exact fun g => .cons (.tup (SqT.of (g e (by simp))) (.cons (.int _) (.cons (.bl _) (.cons (.int _) .nil)))) (ih fun u m => g u (List.mem_cons_of_mem _ m))
  exact this L h.2
def sp_choose_disks (K : PySem.W.Frag) (a : Ad) : Sp := fun vs H Q E => ∃ (C : Addr) (L : List Cd) (w : Nat), vs = [.ref C, .int (w : Int)] ∧ CdL K H C L ∧ L.length ≤ 20 ∧ w ≤ 1000 ∧ (L.map (·.d)).Nodup ∧
  (L.length < w → ∀ H', Same H H' → E (.ref a.c_NotEnoughDisks) none H') ∧
  (¬ L.length < w → (usableM L).length < w → ∀ H', Same H H' → E (.ref a.c_NoSpace) none H') ∧
  (¬ L.length < w → ¬ (usableM L).length < w → ∀ (D : Addr) (ns : List Int) (H' : Hp), Same H H' → H D = none → H' D = some (.lst (ns.map V.int)) → ns.Perm (bestM (usableM L) w) → ns.Pairwise (· ≤ ·) → Q (.ref D) H')
theorem sp_choose_disks_len {K : PySem.W.Frag} {a : Ad} {vs : List V} {H : Hp} {Q : VK} {E : XK} (h : sp_choose_disks K a vs H Q E) : vs.length = 2 := by
  obtain ⟨C, L, w, rfl, _⟩ := h
  rfl
def sp_law_answer (K : PySem.W.Frag) (a : Ad) : Sp := fun vs H Q _ => ∃ (C : Addr) (L : List Cd) (w : Nat), vs = [.ref C, .int (w : Int)] ∧ CdL K H C L ∧ L.length ≤ 20 ∧ w ≤ 1000 ∧ (L.map (·.d)).Nodup ∧
  (L.length < w → ∀ H', Same H H' → Q (.int 3) H') ∧
  (¬ L.length < w → (usableM L).length < w → ∀ H', Same H H' → Q (.int 2) H') ∧
  (¬ L.length < w → ¬ (usableM L).length < w → ∀ (D : Addr) (ns : List Int) (H' : Hp), Same H H' → H D = none → H' D = some (.lst (ns.map V.int)) → ns.Perm (bestM (usableM L) w) → ns.Pairwise (· ≤ ·) → Q (.ref D) H')
theorem sp_law_answer_len {K : PySem.W.Frag} {a : Ad} {vs : List V} {H : Hp} {Q : VK} {E : XK} (h : sp_law_answer K a vs H Q E) : vs.length = 2 := by
  obtain ⟨C, L, w, rfl, _⟩ := h
  rfl
def sp_law_before (K : PySem.W.Frag) (a : Ad) : Sp := fun vs H Q _ => ∃ (x y : Cd), vs = [.ref x.t, .ref y.t] ∧ H x.t = some (.tup [.int x.d, .bl x.b, .int x.f]) ∧ H y.t = some (.tup [.int y.d, .bl y.b, .int y.f]) ∧ Q (.bl (beforeM x y)) H
theorem sp_law_before_len {K : PySem.W.Frag} {a : Ad} {vs : List V} {H : Hp} {Q : VK} {E : XK} (h : sp_law_before K a vs H Q E) : vs.length = 2 := by
  obtain ⟨x, y, rfl, _⟩ := h
  rfl
section
variable {P : Program} {w : World} {K : PySem.W.Frag} {mg : Str → Option Value} {base : Heap} {a : Ad}
theorem sc_choose_disks : FnScope ["candidates", "width", "ranked", "disk", "present", "free", "_"] ["candidates", "width"] (defScope s_choose_disks) := ⟨rfl, rfl, rfl, by decide +kernel, rfl, by decide +kernel, by decide +kernel⟩
theorem ok_choose_disks (T : Txt K mg a) : FnOk P w K mg base (L2.CX P w) 1 a.f_choose_disks a.d_choose_disks ["candidates", "width"] (sp_choose_disks K a) := by
  refine T.F_choose_disks.okX sc_choose_disks (fun vs H Q E h => ?len) (fun cdv A outer s H vs Q E hr h => ?body)
  case len =>
    exact sp_choose_disks_len h
  case body =>
    obtain ⟨C, L, w, rfl, hC, hl, hw, nd, kD, kS, kQ⟩ := h
    refine ⟨_, (pss_cons (ps_if (pt_cmpR op_lt (pe_callB call_len_seq (by rfl) T.n_len PySem.boot_len (pa_cons (pv 0) pa_nil)) (pv 1) (nomark _))
      (pss_one (ps_raise rfl (takes_of rfl rfl rfl rfl) (pmk_own PySem.F.excBase_ValueError T.x_NotEnoughDisks T.g_NotEnoughDisks T.k_NotEnoughDisks (raises_own T.b_NotEnoughDisks T.t_NotEnoughDisks) (by exact rfl))))
      pss_nil)
      (pss_cons (ps_set (i := 2) sc_choose_disks.nd rfl (Or.inl rfl) (pe_callB (cr_sortedD hr.units) (by rfl) T.n_sorted (by decide +kernel) (pa_cons (pe_lc (own := [("disk", 3), ("present", 4), ("free", 5)]) (g := (gTup K 3 (gCons (gName 3) (gCons (gName 4) (gCons (gName 5) gNil))))) (by rfl) sc_choose_disks.nd (pi_list (pv 0)) (blkOk_by (own := [("disk", 3), ("present", 4), ("free", 5)]) (N := ["candidates", "width", "ranked", "disk", "present", "free", "_"]) (sc := defScope s_choose_disks) (by decide +kernel))
      (fun _ _ _ _ _ => (pg_tup rfl (pgs_cons (pg_name (i := 3) sc_choose_disks.nd rfl (Or.inl rfl)) (pgs_cons (pg_name (i := 4) sc_choose_disks.nd rfl (Or.inl rfl)) (pgs_cons (pg_name (i := 5) sc_choose_disks.nd rfl (Or.inl rfl)) pgs_nil))))) (fun _ _ _ _ _ => (pts_one (pt_cmpR op_gt (pv 5) pe_int (nomark _)))) (fun _ _ _ _ _ => (pe_tup (pa_cons (pe_not (pv 4)) (pa_cons (pe_un un_neg (pv 5)) (pa_cons (pv 3) pa_nil)))))) pa_nil)))
      (pss_cons (ps_if (pt_cmpR op_lt (pe_callB call_len_seq (by rfl) T.n_len PySem.boot_len (pa_cons (pv 2) pa_nil)) (pv 1) (nomark _))
      (pss_one (ps_raise rfl (takes_of rfl rfl rfl rfl) (pmk_own PySem.F.excBase_ValueError T.x_NoSpace T.g_NoSpace T.k_NoSpace (raises_own T.b_NoSpace T.t_NoSpace) (by exact rfl))))
      pss_nil)
      (pss_one (ps_ret (pe_callB cr_sorted (by rfl) T.n_sorted (by decide +kernel) (pa_cons (pe_lc (own := [("_", 6), ("disk", 3)]) (g := (gTup K 3 (gCons (gName 6) (gCons (gName 6) (gCons (gName 3) gNil))))) (by rfl) sc_choose_disks.nd (pi_list (pe_slice sl_list (pv 2) po_none (po_some (pv 1)))) (blkOk_by (own := [("_", 6), ("disk", 3)]) (N := ["candidates", "width", "ranked", "disk", "present", "free", "_"]) (sc := defScope s_choose_disks) (by decide +kernel))
      (fun _ _ _ _ _ => (pg_tup rfl (pgs_cons (pg_name (i := 6) sc_choose_disks.nd rfl (Or.inl rfl)) (pgs_cons (pg_name (i := 6) sc_choose_disks.nd rfl (Or.inl rfl)) (pgs_cons (pg_name (i := 3) sc_choose_disks.nd rfl (Or.inl rfl)) pgs_nil))))) (fun _ _ _ _ _ => pts_nil) (fun _ _ _ _ _ => (pv 3))) pa_nil))))))), ?_⟩
    refine ⟨_, rfl, C, _, rfl, .inl hC.1, _, rfl, _, _, rfl, rfl, _, rfl, ite2 (fun b => kD (by have := of_decide_eq_true b; rw [List.length_map] at this; omega) _ (Same.refl _)) (fun b => ?_)⟩
    have nw : ¬ L.length < w := fun z => b (decide_eq_true (by rw [List.length_map]; omega))
    -- ranked = sorted([...])
    refine ⟨_, rfl, C, rfl, ⟨_, hC.1⟩, fun D nD => lc_list (K := K) (a := C) (xs := L.map cdV) (fun i H' => ∃ G : List (Addr × Cd), Same H H' ∧ H' D = some (.lst (G.map fun e => V.ref e.1)) ∧ G.map (·.2) = (L.take i).filter (fun e => decide (0 < e.f)) ∧ ∀ e ∈ G, H' e.1 = some (.tup [.bl (!e.2.b), .int (-e.2.f), .int e.2.d]))
      ⟨[], Same.new nD, upd_same, rfl, fun _ m => nomatch m⟩ (fun i H' _ ⟨_, s', _⟩ => s'.seq hC.1) ?_ ?_⟩
    · rintro i y H' hi ⟨G, s1, hD, eG, hG⟩
      obtain ⟨e, he, rfl⟩ := cd_item hi
      have me := List.mem_of_getElem? he
      refine ⟨e.t, _, rfl, SqT.of (s1 _ _ (hC.2 e me)), rfl, _, _, rfl, _, _, rfl, _, _, rfl, rfl, ?_⟩
      have fs := filter_snoc (fun e : Cd => decide (0 < e.f)) he
      have lG : G.length ≤ L.length := by
        have := congrArg List.length eG
        rw [List.length_map] at this
        rw [this]
        exact filter_len _ _ _
      refine ⟨rfl, _, rfl, _, _, rfl, rfl, _, rfl, ite2 (fun q => ?_) (fun q => ?_)⟩
      · have q := of_decide_eq_true q
        rw [decide_eq_true q] at fs
        refine ⟨_, rfl, _, rfl, _, rfl, _, rfl, _, rfl, (by show 3 ≤ sizeLine; decide), fun t nt => ?_⟩
        have st := Same.new (o := .tup [V.bl (!e.b), V.int (-e.f), V.int e.d]) nt
        have hD2 := st _ _ hD
        have hG2 : ∀ e' ∈ G, upd H' t (.tup [V.bl (!e.b), V.int (-e.f), V.int e.d]) e'.1 = some (.tup [.bl (!e'.2.b), .int (-e'.2.f), .int e'.2.d]) := fun e' m => st _ _ (hG e' m)
        have dt : upd H' t (.tup [V.bl (!e.b), V.int (-e.f), V.int e.d]) t = some (.tup [.bl (!e.b), .int (-e.f), .int e.d]) := upd_same
        have s2 := s1.trans st
        have ntD : t ≠ D := (ne_of_none hD nt).symm
        refine ⟨_, hD2, small _ (by rw [List.length_map]; omega), G ++ [(t, e)], same_put s2 nD, ?_, ?_, fun e' m => ?_⟩
        · rw [upd_same, List.map_append]
          rfl
        · rw [fs, List.map_append, eG]
          rfl
        · rcases List.mem_append.mp m with m | m
          · rw [upd_ne (ne_of (hG2 e' m) hD2 (by intro q; cases q))]
            exact hG2 e' m
          · have : e' = (t, e) := by simpa using m
            subst this
            rw [upd_ne ntD]
            exact dt
      · have q' : ¬ 0 < e.f := fun z => q (decide_eq_true z)
        rw [decide_eq_false q'] at fs
        refine ⟨G, s1, hD, ?_, hG⟩
        rw [fs, eG]
        simp
    rintro H1 ⟨G, s1, hD, eG, hG⟩
    rw [List.length_map, List.take_length] at eG
    replace eG : G.map (·.2) = usableM L := eG
    -- sorted
    have mU : ∀ e ∈ G, e.2 ∈ usableM L := fun e m => by rw [← eG]; exact List.mem_map.mpr ⟨e, m, rfl⟩
    have kG : ∀ e ∈ G, kH H1 (.ref e.1) = tripD e.2 := fun e m => kH_of (hG e m)
    have lG : G.length ≤ 20 := by
      have := congrArg List.length eG
      rw [List.length_map] at this
      have h2 : (usableM L).length ≤ L.length := List.length_filter_le _ _
      omega
    refine ⟨D, G.map fun e => V.ref e.1, kH H1, rfl, SqL.of hD, fun x m => ?_, fun x m y m' => ?_, .inl fun x m => ?_, fun x m => ?_, fun R nR => ?_⟩
    · obtain ⟨e, me, rfl⟩ := List.mem_map.mp m
      rw [kG e me]
      exact .tup (SqT.of (hG e me)) (.cons (.bl _) (.cons (.int _) (.cons (.int _) .nil)))
    · obtain ⟨x1, m1, rfl⟩ := List.mem_map.mp m
      obtain ⟨y1, m2, rfl⟩ := List.mem_map.mp m'
      obtain ⟨e, me, rfl⟩ := List.mem_map.mp m1
      obtain ⟨e', me', rfl⟩ := List.mem_map.mp m2
      rw [kG e me, kG e' me']
      exact trip_alike _ _
    · obtain ⟨y1, m1, rfl⟩ := List.mem_map.mp m
      obtain ⟨e, me, rfl⟩ := List.mem_map.mp m1
      rw [kG e me]
      exact ⟨_, _, rfl⟩
    · obtain ⟨e, me, rfl⟩ := List.mem_map.mp m
      rw [kG e me]
      simp [tripD, PyData.depth, PyData.depthAll]
    have eS : (G.map fun e => V.ref e.1).mergeSort (PySem.W.dataLe false (kH H1)) = (G.mergeSort fun x y => leM x.2 y.2).map fun e => V.ref e.1 := by
      refine (List.map_mergeSort fun x mx y my => ?_).symm
      rw [PySem.W.dataLe_eq]
      show leM x.2 y.2 = !PySem.W.dataLt (kH H1 (.ref y.1)) (kH H1 (.ref x.1))
      rw [kG x mx, kG y my, trip_lt]
      rfl
    rw [eS]
    have pS : (G.mergeSort fun x y => leM x.2 y.2).Perm G := List.mergeSort_perm _ _
    have oS : (G.mergeSort fun x y => leM x.2 y.2).Pairwise fun x y => leM x.2 y.2 = true := List.pairwise_mergeSort (fun a b c => leM_trans a.2 b.2 c.2) (fun a b => leM_total a.2 b.2) G
    generalize (G.mergeSort fun x y => leM x.2 y.2) = S at pS oS ⊢
    have lS : S.length = (usableM L).length := by rw [pS.length_eq, ← eG, List.length_map]
    have pS2 : (S.map (·.2)).Perm (usableM L) := by rw [← eG]; exact pS.map _
    have ndU : ((usableM L).map (·.d)).Nodup := List.Nodup.sublist (List.Sublist.map _ List.filter_sublist) nd
    have strict : (S.map (·.2)).Pairwise fun x y => beforeM x y = true := strict_of (List.pairwise_map.mpr oS) ((pS2.map _).nodup_iff.mpr ndU)
    have best := best_of (w := w) pS2 strict
    have sR := Same.new (o := .lst (S.map fun e => V.ref e.1)) nR
    have dR : upd H1 R (.lst (S.map fun e => V.ref e.1)) R = some (.lst (S.map fun e => V.ref e.1)) := upd_same
    have hS : ∀ e ∈ S, upd H1 R (.lst (S.map fun e => V.ref e.1)) e.1 = some (.tup [.bl (!e.2.b), .int (-e.2.f), .int e.2.d]) := fun e m => sR _ _ (hG e (pS.mem_iff.mp m))
    have s2 := s1.trans sR
    have nR0 := same_none s1 nR
    generalize upd H1 R (.lst (S.map fun e => V.ref e.1)) = H2 at dR hS s2 ⊢
    -- if len(ranked) < width
    refine ⟨_, rfl, R, _, rfl, .inl (SqL.of dR), _, rfl, _, _, rfl, rfl, _, rfl, ite2 (fun b => kS nw (by have := of_decide_eq_true b; rw [List.length_map] at this; omega) _ s2) (fun b => ?_)⟩
    have nu : ¬ (usableM L).length < w := fun z => b (decide_eq_true (by rw [List.length_map]; omega))
    -- sorted([disk for _, _, disk in ranked[:width]])
    refine ⟨_, rfl, _, rfl, _, rfl, R, _, rfl, SqL.of dR, fun T nT => ?_⟩
    rw [cut_take, ← List.map_take]
    have sT := Same.new (o := .lst ((S.take w).map fun e => V.ref e.1)) nT
    have dT : upd H2 T (.lst ((S.take w).map fun e => V.ref e.1)) T = some (.lst ((S.take w).map fun e => V.ref e.1)) := upd_same
    have hT : ∀ e ∈ S.take w, upd H2 T (.lst ((S.take w).map fun e => V.ref e.1)) e.1 = some (.tup [.bl (!e.2.b), .int (-e.2.f), .int e.2.d]) := fun e m => sT _ _ (hS e (List.mem_of_mem_take m))
    have s3 := s2.trans sT
    generalize upd H2 T (.lst ((S.take w).map fun e => V.ref e.1)) = H3 at dT hT s3 ⊢
    have lB : (S.take w).length ≤ 20 := by
      rw [List.length_take, lS, ← eG, List.length_map]
      omega
    rw [← List.map_take] at best
    generalize S.take w = B at dT hT best lB ⊢
    refine ⟨T, rfl, ⟨_, SqL.of dT⟩, fun N nN => lc_list (K := K) (a := T) (xs := B.map fun e => V.ref e.1) (fun i H' => Same H3 H' ∧ H' N = some (.lst (((B.take i).map fun e => e.2.d).map V.int))) ⟨Same.new nN, upd_same⟩ (fun i H' _ q => q.1.seq (SqL.of dT)) ?_ ?_⟩
    · rintro i y H' hi ⟨s4, hN⟩
      obtain ⟨e, he, rfl⟩ : ∃ e, B[i]? = some e ∧ y = V.ref e.1 := by
        rw [List.getElem?_map] at hi
        cases q : B[i]? with
        | none => rw [q] at hi; cases hi
        | some e => rw [q] at hi; exact ⟨e, rfl, (Option.some.inj hi).symm⟩
      have me := List.mem_of_getElem? he
      refine ⟨e.1, _, rfl, SqT.of (s4 _ _ (hT e me)), rfl, _, _, rfl, _, _, rfl, _, _, rfl, rfl, ?_⟩
      refine ⟨rfl, _, rfl, _, hN, small _ (by rw [List.length_map, List.length_map, List.length_take]; omega), same_put s4 nN, ?_⟩
      rw [upd_same, take_snoc he, List.map_append, List.map_append]
      rfl
    rintro H4 ⟨s4, hN⟩
    rw [List.take_of_length_le (by rw [List.length_map]; exact Nat.le_refl _)] at hN
    refine ⟨N, _, rfl, SqL.of hN, by rw [List.length_map]; omega, fun ns Z pm oz nZ => ?_⟩
    have s5 := (s3.trans s4).trans (Same.new (o := .lst (ns.map V.int)) nZ)
    rw [List.map_map] at best
    exact kQ nw nu Z ns _ s5 (same_none (s3.trans s4) nZ) upd_same (pm.trans best) oz
theorem sc_law_pot : FnScope ["script", "seed", "cell"] ["script"] (defScope s_law_pot) := ⟨rfl, rfl, rfl, by decide +kernel, rfl, by decide +kernel, by decide +kernel⟩
theorem ok_law_pot (T : Txt K mg a) : FnOk P w K mg base CX0 1 a.f_law_pot a.d_law_pot ["script"] (sp_law_pot K a) := by
  refine T.F_law_pot.ok sc_law_pot (fun vs H Q E h => ?len) (fun cdv A outer s H vs Q E hr h => ?body)
  case len =>
    exact sp_law_pot_len h
  case body =>
    obtain ⟨s, ns, rfl, hS, hlen, k⟩ := h
    refine ⟨_, (pss_cons (ps_set (i := 1) sc_law_pot.nd rfl (Or.inl rfl) pe_int)
      (pss_cons (ps_for PassesOwn.never rfl (pi_list (pv 0)) (pg_name (i := 2) sc_law_pot.nd rfl (Or.inl rfl))
      (pss_one (ps_set (i := 1) sc_law_pot.nd rfl (Or.inl rfl) (pe_op op_mod (pe_callTy call_int1 (by rfl) T.n_int (by decide +kernel) (pa_cons (pe_op op_add (pe_op op_mul (pv 1) pe_int) (pv 2)) pa_nil)) pe_int))))
      (pss_one (ps_ret (pe_lst (pa_cons (pe_callTy call_list_of (by rfl) T.n_list (by decide +kernel) (pa_cons (pv 0) pa_nil)) (pa_cons pe_int (pa_cons pe_int (pa_cons (pv 1) pa_nil))))))))), ?_⟩
    refine ⟨_, rfl, s, rfl, ⟨_, hS⟩, for_list (K := K) (a := s) (xs := ns.map V.int) (fun i σ H' => ∃ (z : Int) (v : Option V), σ = [some (.ref s), some (.int z), v] ∧ 0 ≤ z ∧ z < 2147483647 ∧ H' = H)
      ⟨1, none, rfl, by decide, by decide, rfl⟩ (fun i σ H' _ ⟨_, _, _, _, _, e⟩ => by rw [e]; exact hS) ?_ ?_⟩
    · rintro i y σ H' hi ⟨z, v, rfl, z0, z1, rfl⟩
      obtain ⟨c, hc, rfl⟩ := int_item hi
      refine ⟨_, rfl, _, _, rfl, rfl, .inl ⟨by omega, by omega⟩, _, rfl, _, _, rfl, rfl, .inl ⟨_, rfl, _, _, rfl, rfl, (by show (0 : Int) < 2147483647; decide), ?_⟩⟩
      exact ⟨_, _, rfl, Int.emod_nonneg _ (by decide), Int.emod_lt_of_pos _ (by decide), rfl⟩
    · rintro σ H' ⟨z, v, rfl, z0, z1, rfl⟩
      refine ⟨_, rfl, s, _, rfl, .inl hS, fun l hl => ?_⟩
      refine ⟨_, rfl, (by show 4 ≤ sizeLine; decide), fun p hp => ?_⟩
      have npl : l ≠ p := fun e => by subst e; rw [upd_same] at hp; cases hp
      have hp0 : H' p = none := by rw [upd_ne npl.symm] at hp; exact hp
      refine k p l _ hp0 hl (fun b o e => ?_) ⟨ns, 0, 0, z, upd_same, by rw [upd_ne npl, upd_same], by decide, by decide, z0, z1⟩
      rw [upd_ne (ne_of_none e hp0), upd_ne (ne_of_none e hl)]
      exact e
theorem sc_law_next : FnScope ["pot", "limit", "cell", "found", "mixed"] ["pot", "limit"] (defScope s_law_next) := ⟨rfl, rfl, rfl, by decide +kernel, rfl, by decide +kernel, by decide +kernel⟩
theorem ok_law_next (T : Txt K mg a) : FnOk P w K mg base CX0 1 a.f_law_next a.d_law_next ["pot", "limit"] (sp_law_next K a) := by
  refine T.F_law_next.ok sc_law_next (fun vs H Q E h => ?len) (fun cdv A outer s H vs Q E hr h => ?body)
  case len =>
    exact sp_law_next_len h
  case body =>
    obtain ⟨p, l, m, rfl, hP, m0, m1, k⟩ := h
    obtain ⟨ns, i, acc, seed, h1, h2, i0, acc0, s0, s1⟩ := id hP
    have nlp := hP.ne
    have mod0 : ∀ x : Int, 0 ≤ x % m := fun x => Int.emod_nonneg _ (by omega)
    have mod1 : ∀ x : Int, x % m < m := fun x => Int.emod_lt_of_pos _ m0
    have mW : m.natAbs < 2 ^ 41 := by
      have : m.natAbs < 2199023255552 := by omega
      exact this
    refine ⟨_, (Evl.pss_cut (ps_if (PW.pt (pw_and (pt_cmpR op_eq (pe_ix ix_list (pv 0) pe_int (fun _ _ => rfl)) pe_int (nomark _)) (pw_and1 (pt_cmpR op_lt (pe_ix ix_list (pv 0) pe_int (fun _ _ => rfl)) (pe_callB call_len_seq (by rfl) T.n_len PySem.boot_len (pa_cons (pe_ix ix_list (pv 0) pe_int (fun _ _ => rfl)) pa_nil)) (nomark _)))))
      (pss_cons (ps_set (i := 2) sc_law_next.nd rfl (Or.inl rfl) (pe_callB call_abs (by rfl) T.n_abs (by decide +kernel) (pa_cons (pe_callTy call_int1 (by rfl) T.n_int (by decide +kernel) (pa_cons (pe_ix ix_list (pe_ix ix_list (pv 0) pe_int (fun _ _ => rfl)) (pe_ix ix_list (pv 0) pe_int (fun _ _ => rfl)) (fun _ _ => rfl)) pa_nil)) pa_nil)))
      (pss_cons (ps_asg (pe_op op_add (pe_ix ix_list (pv 0) pe_int (fun _ _ => rfl)) pe_int) (pg_sub (pv 0) pe_int set_list))
      (pss_cons (ps_if (pt_cmpR op_lt (pv 2) (pe_op op_pow pe_int pe_int) (nomark _))
      (pss_one (ps_ret (pe_op op_mod (pe_callTy call_int1 (by rfl) T.n_int (by decide +kernel) (pa_cons (pv 2) pa_nil)) (pv 1))))
      pss_nil)
      (pss_one (ps_asg (pv 2) (pg_sub (pv 0) pe_int set_list))))))
      pss_nil)
      (pss_cons (ps_if (pt_cmpR op_gt (pe_ix ix_list (pv 0) pe_int (fun _ _ => rfl)) pe_int (nomark _))
      (pss_cons (ps_set (i := 3) sc_law_next.nd rfl (Or.inl rfl) (pe_op op_mod (pe_callTy call_int1 (by rfl) T.n_int (by decide +kernel) (pa_cons (pe_ix ix_list (pv 0) pe_int (fun _ _ => rfl)) pa_nil)) (pv 1)))
      (pss_cons (ps_asg (pe_op op_fdivW (pe_ix ix_list (pv 0) pe_int (fun _ _ => rfl)) (pv 1)) (pg_sub (pv 0) pe_int set_list))
      (pss_one (ps_ret (pv 3)))))
      pss_nil)
      (pss_cons (ps_asg (pe_op op_mod (pe_callTy call_int1 (by rfl) T.n_int (by decide +kernel) (pa_cons (pe_op op_add (pe_op op_mul (pe_ix ix_list (pv 0) pe_int (fun _ _ => rfl)) pe_int) pe_int) pa_nil)) pe_int) (pg_sub (pv 0) pe_int set_list))
      (pss_cons (ps_set (i := 4) sc_law_next.nd rfl (Or.inl rfl) (pe_op op_mod (pe_callTy call_int1 (by rfl) T.n_int (by decide +kernel) (pa_cons (pe_op op_add (pe_op op_mul (pe_ix ix_list (pv 0) pe_int (fun _ _ => rfl)) pe_int) (pe_op op_fdiv (pe_ix ix_list (pv 0) pe_int (fun _ _ => rfl)) pe_int)) pa_nil)) pe_int))
      (pss_one (ps_ret (pe_op op_mod (pe_callTy call_int1 (by rfl) T.n_int (by decide +kernel) (pa_cons (pv 4) pa_nil)) (pv 1)))))))), ?_⟩
    refine ⟨fun σ H' => ∃ (u : Option V) (i' acc' : Int), σ = [some (.ref p), some (.int m), u, none, none] ∧ H' p = some (.lst [.ref l, .int i', .int acc', .int seed]) ∧ 0 ≤ i' ∧ 0 ≤ acc' ∧ Only p H H', ?_, ?_⟩
    · -- if pot[2] == 0 and pot[1] < len(pot[0])
      refine ⟨_, rfl, p, _, _, _, rfl, rfl, SqL.of h1, at_of (j := 2) rfl rfl, rfl, _, rfl, ?_⟩
      refine ite2 (fun e2 => ?_) (fun e2 => iteF ⟨none, i, acc, rfl, h1, i0, acc0, Only.refl⟩)
      refine ⟨_, rfl, p, _, _, _, rfl, rfl, SqL.of h1, at_of (j := 1) rfl rfl, _, rfl, p, _, _, _, rfl, rfl, SqL.of h1, at_of (j := 0) rfl rfl, l, _, rfl, .inl (SqL.of h2), _, _, rfl, rfl, _, rfl, ?_⟩
      refine ite2 (fun e3 => ?_) (fun e3 => ⟨none, i, acc, rfl, h1, i0, acc0, Only.refl⟩)
      have i1 : i < (ns.length : Int) := by
        have := of_decide_eq_true e3
        rw [List.length_map] at this
        exact this
      obtain ⟨j, rfl⟩ : ∃ j : Nat, i = (j : Int) := ⟨i.toNat, by omega⟩
      have hj : j < ns.length := by omega
      have hit : (ns.map V.int)[j]? = some (V.int ns[j]) := by rw [List.getElem?_map, List.getElem?_eq_getElem hj]; rfl
      -- cell = abs(int(pot[0][pot[1]])); pot[1] = pot[1] + 1
      refine ⟨_, rfl, p, _, _, _, rfl, rfl, SqL.of h1, at_of (j := 0) rfl rfl, _, rfl, p, _, _, _, rfl, rfl, SqL.of h1, at_of (j := 1) rfl rfl, l, _, _, _, rfl, rfl, SqL.of h2, at_of (j := j) rfl hit, .inl ⟨_, rfl, _, rfl, ?_⟩⟩
      have abs0 : 0 ≤ (if ns[j] < 0 then -ns[j] else ns[j]) := by split <;> omega
      generalize (if ns[j] < 0 then -ns[j] else ns[j]) = c at abs0 ⊢
      refine ⟨_, rfl, p, _, _, _, rfl, rfl, SqL.of h1, at_of (j := 1) rfl rfl, _, _, rfl, rfl, _, rfl, p, _, _, 1, rfl, rfl, h1, rfl, ?_⟩
      have g1 : upd H p (.lst (List.set [V.ref l, V.int (j : Int), V.int acc, V.int seed] 1 (V.int ((j : Int) + 1)))) p = some (.lst [.ref l, .int ((j : Int) + 1), .int acc, .int seed]) := upd_same
      -- if cell < 10 ** 18: return int(cell) % limit
      refine ⟨_, rfl, _, _, rfl, rfl, ⟨by decide, by decide, by decide⟩, _, _, rfl, rfl, _, rfl, ?_⟩
      refine ite2 (fun e4 => ?_) (fun e4 => ?_)
      · refine ⟨_, rfl, .inl ⟨_, rfl, _, rfl, _, _, rfl, rfl, m0, ?_⟩⟩
        exact k _ _ (mod0 _) (mod1 _) ⟨ns, _, _, _, g1, by rw [upd_ne nlp]; exact h2, by omega, acc0, s0, s1⟩ Only.upd
      · -- pot[2] = cell
        refine ⟨_, rfl, _, rfl, p, _, _, 2, rfl, rfl, g1, rfl, ?_⟩
        exact ⟨_, (j : Int) + 1, c, rfl, upd_same, by omega, abs0, Only.upd.trans Only.upd⟩
    · rintro σ H' ⟨u, i', acc', rfl, g1, i0', acc0', oH⟩
      have g2 : H' l = some (.lst (ns.map V.int)) := by rw [oH _ nlp]; exact h2
      -- if pot[2] > 0
      refine ⟨_, rfl, p, _, _, _, rfl, rfl, SqL.of g1, at_of (j := 2) rfl rfl, _, _, rfl, rfl, _, rfl, ?_⟩
      refine ite2 (fun e2 => ?_) (fun e2 => ?_)
      · refine ⟨_, rfl, p, _, _, _, rfl, rfl, SqL.of g1, at_of (j := 2) rfl rfl, .inl ⟨_, rfl, _, rfl, _, _, rfl, rfl, m0, ?_⟩⟩
        refine ⟨_, rfl, p, _, _, _, rfl, rfl, SqL.of g1, at_of (j := 2) rfl rfl, _, rfl, _, _, rfl, rfl, wide_div m0 mW (by decide) (by decide), _, rfl, p, _, _, 2, rfl, rfl, g1, rfl, ?_⟩
        refine ⟨_, rfl, ?_⟩
        exact k _ _ (mod0 _) (mod1 _) ⟨ns, i', acc' / m, seed, upd_same, by rw [upd_ne nlp]; exact g2, i0', Int.ediv_nonneg acc0' (by omega), s0, s1⟩ (oH.trans Only.upd)
      · -- pot[3] = int(pot[3] * 48271 + 12345) % 2147483647
        refine ⟨_, rfl, p, _, _, _, rfl, rfl, SqL.of g1, at_of (j := 3) rfl rfl, _, _, rfl, rfl, .inl ⟨by omega, by omega⟩, _, _, rfl, rfl, .inl ⟨_, rfl, _, _, rfl, rfl, (by show (0 : Int) < 2147483647; decide), ?_⟩⟩
        have t0 := Int.emod_nonneg (seed * 48271 + 12345) (show (2147483647 : Int) ≠ 0 by decide)
        have t1 := Int.emod_lt_of_pos (seed * 48271 + 12345) (show (0 : Int) < 2147483647 by decide)
        refine ⟨_, rfl, p, _, _, 3, rfl, rfl, g1, rfl, ?_⟩
        have g3 : upd H' p (.lst (List.set [V.ref l, V.int i', V.int acc', V.int seed] 3 (V.int ((seed * 48271 + 12345) % 2147483647)))) p = some (.lst [.ref l, .int i', .int acc', .int ((seed * 48271 + 12345) % 2147483647)]) := upd_same
        refine ⟨_, rfl, p, _, _, _, rfl, rfl, SqL.of g3, at_of (j := 3) rfl rfl, _, _, rfl, rfl, .inl ⟨by omega, by omega⟩, _, rfl, p, _, _, _, rfl, rfl, SqL.of g3, at_of (j := 3) rfl rfl, _, _, rfl, rfl, ⟨by decide, by decide⟩, _, _, rfl, rfl, .inl ⟨_, rfl, _, _, rfl, rfl, (by show (0 : Int) < 2147483629; decide), ?_⟩⟩
        refine ⟨_, rfl, .inl ⟨_, rfl, _, rfl, _, _, rfl, rfl, m0, ?_⟩⟩
        exact k _ _ (mod0 _) (mod1 _) ⟨ns, _, _, _, g3, by rw [upd_ne nlp]; exact g2, i0', acc0', t0, t1⟩ (oH.trans Only.upd)
theorem sc_law_is_int : FnScope ["value"] ["value"] (defScope s_law_is_int) := ⟨rfl, rfl, rfl, by decide +kernel, rfl, by decide +kernel, by decide +kernel⟩
theorem ok_law_is_int (T : Txt K mg a) : FnOk P w K mg base CX0 1 a.f_law_is_int a.d_law_is_int ["value"] (sp_law_is_int K a) := by
  refine T.F_law_is_int.ok sc_law_is_int (fun vs H Q E h => ?len) (fun cdv A outer s H vs Q E hr h => ?body)
  case len =>
    exact sp_law_is_int_len h
  case body =>
    obtain ⟨x, rfl, k⟩ := h
    refine ⟨_, (pss_one (ps_ret (pe_and (pe_callB call_isi (by rfl) T.n_isinstance (by decide +kernel) (pa_cons (pv 0) (pa_cons (pe_bltn (v := .ty "int") (by rfl) T.n_int (by decide +kernel) rfl) pa_nil))) (pe_one (pe_not (pe_callB call_isi (by rfl) T.n_isinstance (by decide +kernel) (pa_cons (pv 0) (pa_cons (pe_bltn (v := .ty "bool") (by rfl) T.n_bool (by decide +kernel) rfl) pa_nil)))))))), ?_⟩
    refine ⟨_, rfl, _, _, _, _, true, rfl, .ty "int", .base (.int x), kit_ty (by decide +kernel), _, rfl, ?_⟩
    refine iteT ?_
    exact ⟨_, rfl, _, _, _, _, false, rfl, .ty "bool", .base (.int x), kit_ty (by decide +kernel), _, rfl, k⟩
theorem sc_law_before : FnScope ["one", "other"] ["one", "other"] (defScope s_law_before) := ⟨rfl, rfl, rfl, by decide +kernel, rfl, by decide +kernel, by decide +kernel⟩
theorem ok_law_before (T : Txt K mg a) : FnOk P w K mg base CX0 1 a.f_law_before a.d_law_before ["one", "other"] (sp_law_before K a) := by
  refine T.F_law_before.ok sc_law_before (fun vs H Q E h => ?len) (fun cdv A outer s H vs Q E hr h => ?body)
  case len =>
    exact sp_law_before_len h
  case body =>
    obtain ⟨x, y, rfl, hx, hy, k⟩ := h
    refine ⟨_, (pss_cons (ps_if (pt_cmpR op_ne (pe_ix ix_tup (pv 0) pe_int (fun _ _ => rfl)) (pe_ix ix_tup (pv 1) pe_int (fun _ _ => rfl)) (nomark _))
      (pss_one (ps_ret (pe_ix ix_tup (pv 0) pe_int (fun _ _ => rfl))))
      pss_nil)
      (pss_cons (ps_if (pt_cmpR op_ne (pe_ix ix_tup (pv 0) pe_int (fun _ _ => rfl)) (pe_ix ix_tup (pv 1) pe_int (fun _ _ => rfl)) (nomark _))
      (pss_one (ps_ret (pe_cmpR op_gt (pe_ix ix_tup (pv 0) pe_int (fun _ _ => rfl)) (pe_ix ix_tup (pv 1) pe_int (fun _ _ => rfl)) (nomark _))))
      pss_nil)
      (pss_one (ps_ret (pe_cmpR op_lt (pe_ix ix_tup (pv 0) pe_int (fun _ _ => rfl)) (pe_ix ix_tup (pv 1) pe_int (fun _ _ => rfl)) (nomark _)))))), ?_⟩
    unfold beforeM at k
    refine ⟨_, rfl, x.t, _, _, _, rfl, rfl, SqT.of hx, at_of (j := 1) rfl rfl, _, rfl, y.t, _, _, _, rfl, rfl, SqT.of hy, at_of (j := 1) rfl rfl, rfl, _, rfl, ite2 (fun q => ?_) (fun q => ?_)⟩
    · have hb : ¬ x.b = y.b := fun z => by simp [z] at q
      rw [if_neg hb] at k
      exact ⟨_, rfl, x.t, _, _, _, rfl, rfl, SqT.of hx, at_of (j := 1) rfl rfl, k⟩
    have hb : x.b = y.b := Classical.byContradiction fun z => q (by simp [z])
    rw [if_pos hb] at k
    refine ⟨_, rfl, x.t, _, _, _, rfl, rfl, SqT.of hx, at_of (j := 2) rfl rfl, _, rfl, y.t, _, _, _, rfl, rfl, SqT.of hy, at_of (j := 2) rfl rfl, rfl, _, rfl, ite2 (fun q => ?_) (fun q => ?_)⟩
    · have hf : ¬ x.f = y.f := fun z => by simp [z] at q
      rw [if_neg hf] at k
      exact ⟨_, rfl, x.t, _, _, _, rfl, rfl, SqT.of hx, at_of (j := 2) rfl rfl, _, rfl, y.t, _, _, _, rfl, rfl, SqT.of hy, at_of (j := 2) rfl rfl, _, _, rfl, rfl, k⟩
    have hf : x.f = y.f := Classical.byContradiction fun z => q (by simp [z])
    rw [if_pos hf] at k
    exact ⟨_, rfl, x.t, _, _, _, rfl, rfl, SqT.of hx, at_of (j := 0) rfl rfl, _, rfl, y.t, _, _, _, rfl, rfl, SqT.of hy, at_of (j := 0) rfl rfl, _, _, rfl, rfl, k⟩
theorem sc_law_answer : FnScope ["candidates", "width", "e"] ["candidates", "width"] (defScope s_law_answer) := ⟨rfl, rfl, rfl, by decide +kernel, rfl, by decide +kernel, by decide +kernel⟩
theorem ok_law_answer (T : Txt K mg a) : FnOk P w K mg base CX0 2 a.f_law_answer a.d_law_answer ["candidates", "width"] (sp_law_answer K a) := by
  refine T.F_law_answer.ok sc_law_answer (fun vs H Q E h => ?len) (fun cdv A outer s H vs Q E hr h => ?body)
  case len =>
    exact sp_law_answer_len h
  case body =>
    obtain ⟨C, L, w, rfl, hC, hl, hw, nd, kD, kS, kQ⟩ := h
    refine ⟨_, (pss_one (ps_try_as (i := 2) rfl rfl sc_law_answer.nd rfl rfl ⟨rfl, by decide, .inl T.g_PoolError⟩ takes0
      (fun W pn xe tk _ => (pss_one (ps_ret (pe_callS (ok_choose_disks T) (hr.mono (by decide)) rfl T.g_choose_disks T.F_choose_disks.kp T.d_choose_disks (fun σ => passAt tk σ) (pa_cons (pv 0) (pa_cons (pv 1) pa_nil))))))
      (fun a oe cls d pn hz hf => (pss_one (ps_ret (pe_op op_add (pe_op op_add pe_int (pe_callTy call_int1 (by rfl) T.n_int (by decide +kernel) (pa_cons (pe_callB (call_isE' hz hf) (by rfl) T.n_isinstance (by decide +kernel) (pa_cons (pv 2) (pa_cons (pe_glob (v := .ref _) rfl T.g_NoSpace rfl) pa_nil))) pa_nil))) (pe_op op_mul pe_int (pe_callTy call_int1 (by rfl) T.n_int (by decide +kernel) (pa_cons (pe_callB (call_isE' hz hf) (by rfl) T.n_isinstance (by decide +kernel) (pa_cons (pv 2) (pa_cons (pe_glob (v := .ref _) rfl T.g_NotEnoughDisks rfl) pa_nil))) pa_nil))))))))), ?_⟩
    refine ⟨_, rfl, _, rfl, C, L, w, rfl, hC, hl, hw, nd, fun b H1 s1 => ?_, fun b1 b2 H1 s1 => ?_, fun b1 b2 D ns H1 s1 n1 d1 p1 p2 => kQ b1 b2 D ns H1 s1 n1 d1 p1 p2⟩
    · refine ⟨true, T.u_NotEnoughDisks_PoolError, fun _ ad hb => ?_, fun z => Bool.noConfusion z⟩
      refine ⟨_, rfl, _, rfl, rfl, T.E_NotEnoughDisks, _, _, false, rfl, fun _ z => z, T.i_NotEnoughDisks_NoSpace, .inr ⟨_, rfl, _, _, rfl, rfl, ?_⟩⟩
      refine ⟨_, rfl, _, rfl, rfl, T.E_NotEnoughDisks, _, _, true, rfl, fun _ z => z, T.i_NotEnoughDisks_NotEnoughDisks, .inr ⟨_, rfl, _, _, rfl, rfl, .inl ⟨by decide, by decide⟩, _, _, rfl, rfl, kD b _ s1⟩⟩
    · refine ⟨true, T.u_NoSpace_PoolError, fun _ ad hb => ?_, fun z => Bool.noConfusion z⟩
      refine ⟨_, rfl, _, rfl, rfl, T.E_NoSpace, _, _, true, rfl, fun _ z => z, T.i_NoSpace_NoSpace, .inr ⟨_, rfl, _, _, rfl, rfl, ?_⟩⟩
      refine ⟨_, rfl, _, rfl, rfl, T.E_NoSpace, _, _, false, rfl, fun _ z => z, T.i_NoSpace_NotEnoughDisks, .inr ⟨_, rfl, _, _, rfl, rfl, .inl ⟨by decide, by decide⟩, _, _, rfl, rfl, kS b1 b2 _ s1⟩⟩
theorem sc_law : FnScope ["script", "pot", "numbers", "candidates", "limit", "k", "disk", "width", "kept", "found", "usable", "due", "one", "better", "other"] ["script"] (defScope s_law) := ⟨rfl, rfl, rfl, by decide +kernel, rfl, by decide +kernel, by decide +kernel⟩
theorem ok_law (T : Txt K mg a) : FnOk P w K mg base CX0 3 a.f_law a.d_law ["script"] (sp_law K a) := by
  refine T.F_law.ok sc_law (fun vs H Q E h => ?len) (fun cdv A outer s H vs Q E hr h => ?body)
  case len =>
    exact sp_law_len h
  case body =>
    obtain ⟨s, ns, rfl, hS, hlen, k⟩ := h
    refine ⟨_, (pss_cons (ps_set (i := 1) sc_law.nd rfl (Or.inl rfl) (pe_call (ok_law_pot T) (hr.mono (by decide)) rfl T.g_law_pot T.F_law_pot.kp T.d_law_pot .nil pass0 (pa_cons (pv 0) pa_nil)))
      (pss_cons (ps_setLc (i := 2) (own := [("k", 5)]) (g := (gName 5)) (by rfl) sc_law.nd rfl rfl (sw_true rfl rfl rfl (by decide +kernel)) (pi_range1 (by rfl) T.n_range (pa_cons pe_int pa_nil)) (blkOk_by (own := [("k", 5)]) (N := ["script", "pot", "numbers", "candidates", "limit", "k", "disk", "width", "kept", "found", "usable", "due", "one", "better", "other"]) (sc := defScope s_law) (by decide +kernel))
      (fun _ _ _ _ _ => (pg_name (i := 5) sc_law.nd rfl (Or.inl rfl))) (fun _ _ _ _ _ => pts_nil) (fun _ _ _ _ _ => (pv 5)))
      (pss_cons (ps_set (i := 3) sc_law.nd rfl (Or.inl rfl) (pe_lst pa_nil))
      (pss_cons (ps_set (i := 4) sc_law.nd rfl (Or.inl rfl) (pe_ix ix_list (pe_lst (pa_cons pe_int (pa_cons pe_int (pa_cons pe_int pa_nil)))) (pe_call (ok_law_next T) (hr.mono (by decide)) rfl T.g_law_next T.F_law_next.kp T.d_law_next .nil pass0 (pa_cons (pv 1) (pa_cons pe_int pa_nil))) (fun _ _ => rfl)))
      (pss_cons (ps_for PassesOwn.never rfl (pi_range1 (by rfl) T.n_range (pa_cons (pe_call (ok_law_next T) (hr.mono (by decide)) rfl T.g_law_next T.F_law_next.kp T.d_law_next .nil pass0 (pa_cons (pv 1) (pa_cons pe_int pa_nil))) pa_nil)) (pg_name (i := 5) sc_law.nd rfl (Or.inl rfl))
      (pss_cons (ps_set (i := 6) sc_law.nd rfl (Or.inl rfl) (pe_bm PySem.F.plainAttrs_list PySem.F.slot_list_pop PySem.F.type_list_pop mt_popAt (pv 2) (pa_cons (pe_call (ok_law_next T) (hr.mono (by decide)) rfl T.g_law_next T.F_law_next.kp T.d_law_next .nil pass0 (pa_cons (pv 1) (pa_cons (pe_callB call_len_seq (by rfl) T.n_len PySem.boot_len (pa_cons (pv 2) pa_nil)) pa_nil))) pa_nil)))
      (pss_one (ps_expr (pe_bm PySem.F.plainAttrs_list PySem.F.slot_list_append PySem.F.type_list_append mt_append (pv 3) (pa_cons (pe_tup (pa_cons (pv 6) (pa_cons (pe_cmpR op_gt (pe_call (ok_law_next T) (hr.mono (by decide)) rfl T.g_law_next T.F_law_next.kp T.d_law_next .nil pass0 (pa_cons (pv 1) (pa_cons pe_int pa_nil))) pe_int (nomark _)) (pa_cons (pe_call (ok_law_next T) (hr.mono (by decide)) rfl T.g_law_next T.F_law_next.kp T.d_law_next .nil pass0 (pa_cons (pv 1) (pa_cons (pv 4) pa_nil))) pa_nil)))) pa_nil))))))
      (pss_cons (ps_set (i := 7) sc_law.nd rfl (Or.inl rfl) (pe_op op_add pe_int (pe_call (ok_law_next T) (hr.mono (by decide)) rfl T.g_law_next T.F_law_next.kp T.d_law_next .nil pass0 (pa_cons (pv 1) (pa_cons pe_int pa_nil)))))
      (pss_cons (ps_set (i := 8) sc_law.nd rfl (Or.inl rfl) (pe_callTy call_list_of (by rfl) T.n_list (by decide +kernel) (pa_cons (pv 3) pa_nil)))
      (Evl.pss_cut (ps_set (i := 9) sc_law.nd rfl (Or.inl rfl) (pe_call (ok_law_answer T) (hr.mono (by decide)) rfl T.g_law_answer T.F_law_answer.kp T.d_law_answer .nil pass0 (pa_cons (pv 3) (pa_cons (pv 7) pa_nil))))
      (pss_cons (ps_if (pt_cmpR (op_neD hr.units) (pv 3) (pv 8) (nomark _))
      (pss_one (ps_ret pe_bl))
      pss_nil)
      (pss_cons (ps_setLc (i := 10) (own := [("one", 12)]) (g := (gName 12)) (by rfl) sc_law.nd rfl rfl (sw_true rfl rfl rfl (by decide +kernel)) (pi_list (pv 3)) (blkOk_by (own := [("one", 12)]) (N := ["script", "pot", "numbers", "candidates", "limit", "k", "disk", "width", "kept", "found", "usable", "due", "one", "better", "other"]) (sc := defScope s_law) (by decide +kernel))
      (fun _ _ _ _ _ => (pg_name (i := 12) sc_law.nd rfl (Or.inl rfl))) (fun _ _ _ _ _ => (pts_one (pt_cmpR op_gt (pe_ix (by exact ix_tup : IxR _ (rIxT K)) (pv 12) pe_int (fun _ _ => rfl)) pe_int (nomark _)))) (fun _ _ _ _ _ => (pv 12)))
      (pss_cons (ps_if (pt_cmpR op_lt (pe_callB call_len_seq (by rfl) T.n_len PySem.boot_len (pa_cons (pv 3) pa_nil)) (pv 7) (nomark _))
      (pss_one (ps_ret (pe_and (pe_call (ok_law_is_int T) (hr.mono (by decide)) rfl T.g_law_is_int T.F_law_is_int.kp T.d_law_is_int .nil pass0 (pa_cons (pv 9) pa_nil)) (pe_one (pe_cmpR op_eq (pv 9) pe_int (nomark _))))))
      pss_nil)
      (pss_cons (ps_if (pt_cmpR op_lt (pe_callB call_len_seq (by rfl) T.n_len PySem.boot_len (pa_cons (pv 10) pa_nil)) (pv 7) (nomark _))
      (pss_one (ps_ret (pe_and (pe_call (ok_law_is_int T) (hr.mono (by decide)) rfl T.g_law_is_int T.F_law_is_int.kp T.d_law_is_int .nil pass0 (pa_cons (pv 9) pa_nil)) (pe_one (pe_cmpR op_eq (pv 9) pe_int (nomark _))))))
      pss_nil)
      (pss_cons (ps_set (i := 11) sc_law.nd rfl (Or.inl rfl) (pe_lst pa_nil))
      (pss_cons (ps_for PassesOwn.never rfl (pi_list (pv 10)) (pg_name (i := 12) sc_law.nd rfl (Or.inr rfl))
      (pss_cons (ps_setLc (i := 13) (own := [("other", 14)]) (g := (gName 14)) (by rfl) sc_law.nd rfl rfl (sw_true rfl rfl rfl (by decide +kernel)) (pi_list (pv 10)) (blkOk_by (own := [("other", 14)]) (N := ["script", "pot", "numbers", "candidates", "limit", "k", "disk", "width", "kept", "found", "usable", "due", "one", "better", "other"]) (sc := defScope s_law) (by decide +kernel))
      (fun _ _ _ _ _ => (pg_name (i := 14) sc_law.nd rfl (Or.inl rfl))) (fun _ _ _ _ _ => (pts_one (pt_val (pe_call (ok_law_before T) (hr.mono (by decide)) rfl T.g_law_before T.F_law_before.kp T.d_law_before .nil pass0 (pa_cons (pv 14) (pa_cons (pv 12) pa_nil)))))) (fun _ _ _ _ _ => (pv 14)))
      (pss_one (ps_if (pt_cmpR op_lt (pe_callB call_len_seq (by rfl) T.n_len PySem.boot_len (pa_cons (pv 13) pa_nil)) (pv 7) (nomark _))
      (pss_one (ps_expr (pe_bm PySem.F.plainAttrs_list PySem.F.slot_list_append PySem.F.type_list_append mt_append (pv 11) (pa_cons (pe_ix ix_tup (pv 12) pe_int (fun _ _ => rfl)) pa_nil))))
      pss_nil))))
      (pss_one (ps_ret (pe_and (pe_callB call_isi (by rfl) T.n_isinstance (by decide +kernel) (pa_cons (pv 9) (pa_cons (pe_bltn (v := .ty "list") (by rfl) T.n_list (by decide +kernel) rfl) pa_nil))) (pe_and (pe_cmpR (op_eqD hr.units) (pv 9) (pe_callB cr_sorted (by rfl) T.n_sorted (by decide +kernel) (pa_cons (pv 11) pa_nil)) (nomark _)) (pe_one (pe_callB (cr_all rfl) (by rfl) T.n_all (by decide +kernel) (pa_cons (pe_lc (own := [("disk", 6)]) (g := (gName 6)) (by rfl) sc_law.nd (pi_list (pv 9)) (blkOk_by (own := [("disk", 6)]) (N := ["script", "pot", "numbers", "candidates", "limit", "k", "disk", "width", "kept", "found", "usable", "due", "one", "better", "other"]) (sc := defScope s_law) (by decide +kernel))
      (fun _ _ _ _ _ => (pg_name (i := 6) sc_law.nd rfl (Or.inl rfl))) (fun _ _ _ _ _ => pts_nil) (fun _ _ _ _ _ => (pe_call (ok_law_is_int T) (hr.mono (by decide)) rfl T.g_law_is_int T.F_law_is_int.kp T.d_law_is_int .nil pass0 (pa_cons (pv 6) pa_nil)))) pa_nil))))))))))))))))))))), ?_⟩
    refine ⟨_, rfl, s, ns, rfl, hS, by omega, fun p l H1 hp hl s1 P1 => ?_⟩
    -- numbers = [k for k in range(8)]
    refine ⟨8, rfl, by decide, by decide, fun D nD => lc_it walk_range (fun i H' => Same H1 H' ∧ H' D = some (.lst ((upto i).map V.int))) ⟨Same.new nD, upd_same⟩ (fun _ _ _ _ => True.intro) ?_ ?_⟩
    · rintro i y H2 H3 hi ⟨s2, hD⟩ ⟨rfl, rfl⟩
      refine ⟨rfl, _, rfl, _, hD, small _ (by rw [List.length_map, upto_len]; omega), same_put s2 nD, ?_⟩
      rw [upd_same]
      unfold upto
      rw [List.range_succ, List.map_append, List.map_append]
      simp
    rintro H2 ⟨s2, hD⟩
    have P2 := P1.same s2
    have offD := P1.off nD
    -- candidates = []
    refine ⟨Nat.zero_le _, fun C nC => ?_⟩
    have P3 := P2.new (o := .lst []) nC
    have hD3 := Same.new (o := .lst []) nC _ _ hD
    have dC : upd H2 C (.lst []) C = some (.lst ([] : List V)) := upd_same
    have offC := P2.off nC
    have nDC : D ≠ C := ne_of_none hD nC
    generalize upd H2 C (.lst []) = H3 at P3 hD3 dC ⊢
    -- limit = [6, 6, 2][_law_next(pot, 3)]
    refine ⟨(by show 3 ≤ sizeLine; decide), fun q1 n1 => ?_⟩
    have P4 := P3.new (o := .lst [V.int 6, .int 6, .int 2]) n1
    have hD4 := Same.new (o := .lst [V.int 6, .int 6, .int 2]) n1 _ _ hD3
    have dC4 := Same.new (o := .lst [V.int 6, .int 6, .int 2]) n1 _ _ dC
    have dq : upd H3 q1 (.lst [V.int 6, .int 6, .int 2]) q1 = some (.lst [V.int 6, .int 6, .int 2]) := upd_same
    have oq := (P3.off n1).1.symm
    generalize upd H3 q1 (.lst [V.int 6, .int 6, .int 2]) = H4 at P4 hD4 dC4 dq ⊢
    refine ⟨_, rfl, p, l, 3, rfl, P4, by decide, by decide, fun v H5 v0 v3 P5 o5 => ?_⟩
    have hlim : ∃ lim : Int, ([V.int 6, .int 6, .int 2] : List V)[v.toNat]? = some (.int lim) ∧ 1 ≤ lim ∧ lim ≤ 6 := by
      have : v = 0 ∨ v = 1 ∨ v = 2 := by omega
      rcases this with rfl | rfl | rfl
      · exact ⟨6, rfl, by decide, by decide⟩
      · exact ⟨6, rfl, by decide, by decide⟩
      · exact ⟨2, rfl, by decide, by decide⟩
    obtain ⟨lim, hlv, lim1, lim6⟩ := hlim
    refine ⟨q1, _, _, _, rfl, rfl, SqL.of (o5.but _ _ dq oq), at_of (j := v.toNat) (by omega) hlv, ?_⟩
    have hD5 : H5 D = some (.lst ((upto 8).map V.int)) := o5.but _ _ hD4 offD.1.symm
    have dC5 : H5 C = some (.lst ([] : List V)) := o5.but _ _ dC4 offC.1.symm
    -- for k in range(_law_next(pot, 9))
    refine ⟨_, rfl, p, l, 9, rfl, P5, by decide, by decide, fun c H6 c0 c9 P6 o6 => ⟨_, rfl, by omega, by omega, ?_⟩⟩
    obtain ⟨cn, ecn⟩ : ∃ n : Nat, c = (n : Int) := ⟨c.toNat, by omega⟩
    rw [ecn, Int.toNat_natCast]
    clear hD4 dC4 dq oq P4 hD3 dC P3
    refine for_range (lo := 0) (n := cn) (fun i σ H' => ∃ (v5 v6 : Option V) (ds : List Int) (L : List Cd), σ = [some (.ref s), some (.ref p), some (.ref D), some (.ref C), some (.int lim), v5, v6, none, none, none, none, none, none, none, none] ∧ Pot H' p l ∧ H' D = some (.lst (ds.map V.int)) ∧ H' C = some (.lst (L.map cdV)) ∧ (∀ e ∈ L, H' e.t = some (.tup [.int e.d, .bl e.b, .int e.f])) ∧ L.length = i ∧ ds.length + i = 8 ∧ (ds ++ L.map (·.d)).Nodup)
      ⟨none, none, upto 8, [], rfl, P6, o6.but _ _ hD5 offD.1.symm, o6.but _ _ dC5 offC.1.symm, fun _ m => (nomatch m), rfl, by rw [upto_len], by decide⟩ ?_ ?_
    · rintro i σ H7 hi ⟨v5, v6, ds, L, rfl, P7, hD7, dC7, hL, lL, ld, nd⟩
      refine ⟨_, rfl, .inl ⟨rfl, _, SqL.of hD7⟩, _, rfl, _, rfl, D, _, rfl, .inl (SqL.of hD7), p, l, (ds.length : Int), by rw [List.length_map]; rfl, P7, by omega, by omega, fun v H8 v0 v1 P8 o8 => ?_⟩
      obtain ⟨vn, rfl⟩ : ∃ n : Nat, v = (n : Int) := ⟨v.toNat, by omega⟩
      have hv : vn < ds.length := by omega
      have hx : ds[vn]? = some ds[vn] := List.getElem?_eq_getElem hv
      have hD8 : H8 D = some (.lst (ds.map V.int)) := o8.but _ _ hD7 offD.1.symm
      refine ⟨D, _, _, vn, _, rfl, rfl, hD8, by omega, by omega, seqIx_nat (by rw [List.length_map]; omega), by rw [List.getElem?_map, hx]; rfl, ?_⟩
      have er : (ds.map V.int).eraseIdx vn = (ds.eraseIdx vn).map V.int := erase_map _ _ _
      rw [er]
      have P9 : Pot (upd H8 D (.lst ((ds.eraseIdx vn).map V.int))) p l := P8.only Only.upd offD.1 offD.2
      have dC9 : upd H8 D (.lst ((ds.eraseIdx vn).map V.int)) C = some (.lst (L.map cdV)) := by rw [upd_ne nDC.symm]; exact o8.but _ _ dC7 offC.1.symm
      have tp : ∀ e ∈ L, e.t ≠ p := fun e m => by
        obtain ⟨i, acc, seed, hp⟩ := P7.list
        exact ne_of (hL e m) hp (by intro q; cases q)
      have hL9 : ∀ e ∈ L, upd H8 D (.lst ((ds.eraseIdx vn).map V.int)) e.t = some (.tup [.int e.d, .bl e.b, .int e.f]) := fun e m => by
        have h8 := o8.but _ _ (hL e m) (tp e m)
        rw [upd_ne (ne_of h8 hD8 (by intro q; cases q))]
        exact h8
      have hD9 : upd H8 D (.lst ((ds.eraseIdx vn).map V.int)) D = some (.lst ((ds.eraseIdx vn).map V.int)) := upd_same
      generalize upd H8 D (.lst ((ds.eraseIdx vn).map V.int)) = H9 at P9 dC9 hL9 hD9 ⊢
      -- candidates.append((disk, _law_next(pot, 3) > 0, _law_next(pot, limit)))
      refine ⟨_, rfl, .inl ⟨rfl, _, SqL.of dC9⟩, _, rfl, _, rfl, p, l, 3, rfl, P9, by decide, by decide, fun b H10 b0 b3 P10 o10 => ⟨_, _, rfl, rfl, ?_⟩⟩
      refine ⟨_, rfl, _, rfl, p, l, lim, rfl, P10, by omega, by omega, fun f H11 f0 f1 P11 o11 => ⟨by show 3 ≤ sizeLine; decide, fun t nt => ?_⟩⟩
      have st := Same.new (o := .tup [V.int ds[vn], V.bl (decide (0 < b)), V.int f]) nt
      have oo : But p H9 H11 := o10.but.trans o11.but
      have P12 := P11.same st
      have dD12 := st _ _ (oo _ _ hD9 offD.1.symm)
      have dC12 := st _ _ (oo _ _ dC9 offC.1.symm)
      have hL12 : ∀ e ∈ L, upd H11 t (.tup [V.int ds[vn], V.bl (decide (0 < b)), V.int f]) e.t = some (.tup [.int e.d, .bl e.b, .int e.f]) := fun e m => st _ _ (oo _ _ (hL9 e m) (tp e m))
      have dt : upd H11 t (.tup [V.int ds[vn], V.bl (decide (0 < b)), V.int f]) t = some (.tup [.int ds[vn], .bl (decide (0 < b)), .int f]) := upd_same
      generalize upd H11 t (.tup [V.int ds[vn], V.bl (decide (0 < b)), V.int f]) = H12 at P12 dD12 dC12 hL12 dt ⊢
      have ntC : t ≠ C := ne_of dt dC12 (by intro q; cases q)
      refine ⟨C, _, _, rfl, rfl, dC12, small _ (by rw [List.length_map]; omega), ?_⟩
      have el : L.map cdV ++ [V.ref t] = (L ++ [(⟨t, ds[vn], decide (0 < b), f⟩ : Cd)]).map cdV := by rw [List.map_append]; rfl
      rw [el]
      have pm : (ds.eraseIdx vn ++ (L ++ [(⟨t, ds[vn], decide (0 < b), f⟩ : Cd)]).map (·.d)).Perm (ds ++ L.map (·.d)) := by
        rw [List.map_append, ← List.append_assoc]
        refine (List.perm_append_singleton _ _).trans ?_
        exact List.Perm.append_right _ (erase_perm ds vn hv)
      refine ⟨_, _, ds.eraseIdx vn, L ++ [⟨t, ds[vn], decide (0 < b), f⟩], rfl, P12.only Only.upd offC.1 offC.2, ?_, upd_same, fun e m => ?_, by simp [lL], ?_, pm.nodup_iff.mpr nd⟩
      · rw [upd_ne nDC]
        exact dD12
      · rcases List.mem_append.mp m with m | m
        · rw [upd_ne (ne_of (hL12 e m) dC12 (by intro q; cases q))]
          exact hL12 e m
        · have : e = ⟨t, ds[vn], decide (0 < b), f⟩ := by simpa using m
          subst this
          rw [upd_ne ntC]
          exact dt
      · rw [List.length_eraseIdx, if_pos hv]
        omega
    rintro σ H7 ⟨v5, v6, ds, L, rfl, P7, hD7, dC7, hL, lL, ld, nd⟩
    have ndL : (L.map (·.d)).Nodup := (List.nodup_append.mp nd).2.1
    -- width = 1 + _law_next(pot, 6)
    refine ⟨_, rfl, p, l, 6, rfl, P7, by decide, by decide, fun w' H8 w0 w6 P8 o8 => ⟨_, _, rfl, rfl, ?_⟩⟩
    obtain ⟨w, ew⟩ : ∃ n : Nat, 1 + w' = (n : Int) := ⟨(1 + w').toNat, by omega⟩
    dsimp only
    rw [ew]
    have dC8 := o8.but _ _ dC7 offC.1.symm
    have hL8 : ∀ e ∈ L, H8 e.t = some (.tup [.int e.d, .bl e.b, .int e.f]) := fun e m => by
      obtain ⟨i, acc, seed, hp⟩ := P7.list
      exact o8.but _ _ (hL e m) (ne_of (hL e m) hp (by intro q; cases q))
    have CL : CdL K H8 C L := ⟨SqL.of dC8, hL8⟩
    -- kept = list(candidates)
    refine ⟨_, rfl, C, _, rfl, .inl CL.1, fun Kp nK => ?_⟩
    have sK := Same.new (o := .lst (L.map cdV)) nK
    have CK : CdL K (upd H8 Kp (.lst (L.map cdV))) Kp L := ⟨SqL.of upd_same, fun e m => sK _ _ (hL8 e m)⟩
    have CL9 := CL.same sK
    generalize upd H8 Kp (.lst (L.map cdV)) = H9 at sK CK CL9 ⊢
    -- found = _law_answer(candidates, width)
    refine ⟨fun σ H' => ∃ fd : V, σ = [some (.ref s), some (.ref p), some (.ref D), some (.ref C), some (.int lim), v5, v6, some (.int (w : Int)), some (.ref Kp), some fd, none, none, none, none, none] ∧ CdL K H' C L ∧ CdL K H' Kp L ∧
      ((L.length < w ∧ fd = .int 3) ∨ (¬ L.length < w ∧ (usableM L).length < w ∧ fd = .int 2) ∨ (¬ L.length < w ∧ ¬ (usableM L).length < w ∧ ∃ (Fd : Addr) (fs : List Int), fd = .ref Fd ∧ H' Fd = some (.lst (fs.map V.int)) ∧ fs.Perm (bestM (usableM L) w) ∧ fs.Pairwise (· ≤ ·))), ?_, ?_⟩
    · exact ⟨_, rfl, _, rfl, C, L, w, rfl, CL9, by omega, by omega, ndL, fun b H10 s10 => ⟨_, rfl, CL9.same s10, CK.same s10, .inl ⟨b, rfl⟩⟩, fun b1 b2 H10 s10 => ⟨_, rfl, CL9.same s10, CK.same s10, .inr (.inl ⟨b1, b2, rfl⟩)⟩,
        fun b1 b2 Fd fs H10 s10 nF dF pF oF => ⟨_, rfl, CL9.same s10, CK.same s10, .inr (.inr ⟨b1, b2, Fd, fs, rfl, dF, pF, oF⟩)⟩⟩
    clear CK CL9 CL sK hL8 dC8 hL dC7 hD7
    rintro σ H10 ⟨fd, rfl, CL, CK, hcase⟩
    -- if candidates != kept
    refine ⟨_, rfl, _, rfl, _, _, dp_cds CL, dp_cds CK, cds_shaped _, cds_shaped _, _, rfl, ?_⟩
    rw [cds_eqv]
    refine iteF ?_
    -- usable
    refine ⟨_, rfl, C, rfl, ⟨_, CL.1⟩, fun U nU => lc_list (K := K) (a := C) (xs := L.map cdV) (fun i H' => Same H10 H' ∧ H' U = some (.lst (((L.take i).filter (fun e => decide (0 < e.f))).map cdV))) ⟨Same.new nU, upd_same⟩ (fun i H' _ q => q.1.seq CL.1) ?_ ?_⟩
    · rintro i y H' hi ⟨s1, hU⟩
      obtain ⟨e, he, rfl⟩ := cd_item hi
      have me := List.mem_of_getElem? he
      have fsn := filter_snoc (fun e : Cd => decide (0 < e.f)) he
      have fl := filter_len (fun e : Cd => decide (0 < e.f)) L i
      refine ⟨rfl, _, rfl, e.t, _, _, _, rfl, rfl, SqT.of (s1 _ _ (CL.2 e me)), at_of (j := 2) rfl rfl, _, _, rfl, rfl, _, rfl, ite2 (fun q => ?_) (fun q => ?_)⟩
      · have q := of_decide_eq_true q
        rw [decide_eq_true q] at fsn
        refine ⟨_, rfl, _, hU, small _ (by rw [List.length_map]; omega), same_put s1 nU, ?_⟩
        rw [upd_same, fsn, List.map_append]
        rfl
      · have q' : ¬ 0 < e.f := fun z => q (decide_eq_true z)
        rw [decide_eq_false q'] at fsn
        refine ⟨s1, ?_⟩
        rw [fsn]
        simp only [Bool.false_eq_true, if_false, List.append_nil]
        exact hU
    rintro H11 ⟨s11, hU⟩
    rw [List.length_map, List.take_length] at hU
    replace hU : H11 U = some (.lst ((usableM L).map cdV)) := hU
    have CL11 := CL.same s11
    -- if len(candidates) < width
    refine ⟨_, rfl, C, _, rfl, .inl CL11.1, _, rfl, _, _, rfl, rfl, _, rfl, ite2 (fun b => ?_) (fun b => ?_)⟩
    · have b := of_decide_eq_true b
      rw [List.length_map] at b
      rcases hcase with ⟨c1, rfl⟩ | ⟨c1, _⟩ | ⟨c1, _⟩
      · refine ⟨_, rfl, 3, rfl, true, rfl, iteT ⟨_, rfl, rfl, ?_⟩⟩
        rw [decide_eq_true rfl]
        exact k _
      · omega
      · omega
    have nL : ¬ L.length < w := fun z => b (decide_eq_true (by rw [List.length_map]; omega))
    have lU : (usableM L).length ≤ L.length := List.length_filter_le _ _
    refine ⟨_, rfl, U, _, rfl, .inl (SqL.of hU), _, rfl, _, _, rfl, rfl, _, rfl, ite2 (fun b => ?_) (fun b => ?_)⟩
    · have b := of_decide_eq_true b
      rw [List.length_map] at b
      rcases hcase with ⟨c1, _⟩ | ⟨c1, c2, rfl⟩ | ⟨c1, c2, _⟩
      · omega
      · refine ⟨_, rfl, 2, rfl, true, rfl, iteT ⟨_, rfl, rfl, ?_⟩⟩
        rw [decide_eq_true rfl]
        exact k _
      · omega
    have nU' : ¬ (usableM L).length < w := fun z => b (decide_eq_true (by rw [List.length_map]; omega))
    obtain ⟨Fd, fs, rfl, dF, pF, oF⟩ : ∃ (Fd : Addr) (fs : List Int), fd = .ref Fd ∧ H10 Fd = some (.lst (fs.map V.int)) ∧ fs.Perm (bestM (usableM L) w) ∧ fs.Pairwise (· ≤ ·) := by
      rcases hcase with ⟨c1, _⟩ | ⟨c1, c2, _⟩ | ⟨_, _, h⟩
      · exact absurd c1 nL
      · exact absurd c2 nU'
      · exact h
    have dF11 := s11 _ _ dF
    clear hcase
    generalize hUU : usableM L = Us at hU lU pF
    have hUm : ∀ e ∈ Us, H11 e.t = some (.tup [.int e.d, .bl e.b, .int e.f]) := fun e m => CL11.2 e (by rw [← hUU] at m; exact (List.mem_filter.mp m).1)
    -- due = []
    refine ⟨Nat.zero_le _, fun Du nDu => ?_⟩
    have s12 := Same.new (o := .lst []) nDu
    -- for one in usable
    refine ⟨_, rfl, U, rfl, ⟨_, SqL.of (s12 _ _ hU)⟩, for_list (K := K) (a := U) (xs := Us.map cdV) (fun i σ H' => ∃ (v12 v13 v14 : Option V), σ = [some (.ref s), some (.ref p), some (.ref D), some (.ref C), some (.int lim), v5, v6, some (.int (w : Int)), some (.ref Kp), some (.ref Fd), some (.ref U), some (.ref Du), v12, v13, v14] ∧ Same H11 H' ∧ H' Du = some (.lst ((((Us.take i).filter fun x => decide (rankM Us x < w)).map (·.d)).map V.int)))
      ⟨none, none, none, rfl, s12, upd_same⟩ (fun i σ H' _ ⟨_, _, _, _, s', _⟩ => s'.seq (SqL.of hU)) ?_ ?_⟩
    · rintro i y σ H' hi ⟨v12, v13, v14, rfl, s13, hDu⟩
      obtain ⟨e, he, rfl⟩ := cd_item hi
      have me := List.mem_of_getElem? he
      have fsn := filter_snoc (fun x : Cd => decide (rankM Us x < w)) he
      have fl := filter_len (fun x : Cd => decide (rankM Us x < w)) Us i
      -- better
      refine ⟨_, rfl, U, rfl, ⟨_, s13.seq (SqL.of hU)⟩, fun B nB => lc_list (K := K) (a := U) (xs := Us.map cdV) (fun j H2 => Same H' H2 ∧ H2 B = some (.lst (((Us.take j).filter (fun y => beforeM y e)).map cdV))) ⟨Same.new nB, upd_same⟩ (fun j H2 _ q => q.1.seq (s13.seq (SqL.of hU))) ?_ ?_⟩
      · rintro j y2 H2 hj ⟨s14, hB⟩
        obtain ⟨o, ho, rfl⟩ := cd_item hj
        have mo := List.mem_of_getElem? ho
        have fsb := filter_snoc (fun y : Cd => beforeM y e) ho
        have flb := filter_len (fun y : Cd => beforeM y e) Us j
        refine ⟨rfl, _, rfl, _, rfl, o, e, rfl, s14 _ _ (s13 _ _ (hUm o mo)), s14 _ _ (s13 _ _ (hUm e me)), beforeM o e, rfl, ite2 (fun q => ?_) (fun q => ?_)⟩
        · rw [q] at fsb
          refine ⟨_, rfl, _, hB, small _ (by rw [List.length_map]; omega), same_put s14 nB, ?_⟩
          rw [upd_same, fsb, List.map_append]
          rfl
        · have q' : beforeM o e = false := by
            cases z : beforeM o e with
            | false => rfl
            | true => exact absurd z q
          rw [q'] at fsb
          refine ⟨s14, ?_⟩
          rw [fsb]
          simp only [Bool.false_eq_true, if_false, List.append_nil]
          exact hB
      rintro H2 ⟨s14, hB⟩
      rw [List.length_map, List.take_length] at hB
      replace hB : H2 B = some (.lst ((Us.filter fun y => beforeM y e).map cdV)) := hB
      have hDu2 := s14 _ _ hDu
      have nDu0 : H11 Du = none := nDu
      refine ⟨_, rfl, B, _, rfl, .inl (SqL.of hB), _, rfl, _, _, rfl, rfl, _, rfl, ite2 (fun q => ?_) (fun q => ?_)⟩
      · have q := of_decide_eq_true q
        rw [List.length_map] at q
        have q' : rankM Us e < w := by unfold rankM; omega
        rw [decide_eq_true q'] at fsn
        refine ⟨_, rfl, .inl ⟨rfl, _, SqL.of hDu2⟩, _, rfl, e.t, _, _, _, rfl, rfl, SqT.of (s14 _ _ (s13 _ _ (hUm e me))), at_of (j := 0) rfl rfl, Du, _, _, rfl, rfl, hDu2, small _ (by rw [List.length_map, List.length_map]; omega), ?_⟩
        refine ⟨_, _, _, rfl, same_put (s13.trans s14) nDu0, ?_⟩
        rw [upd_same, fsn, List.map_append, List.map_append]
        rfl
      · have q' : ¬ rankM Us e < w := fun z => q (decide_eq_true (by rw [List.length_map]; unfold rankM at z; omega))
        rw [decide_eq_false q'] at fsn
        refine ⟨_, _, _, rfl, s13.trans s14, ?_⟩
        rw [fsn]
        simp only [Bool.false_eq_true, if_false, List.append_nil]
        exact hDu2
    rintro σ H13 ⟨v12, v13, v14, rfl, s13, hDu⟩
    rw [List.length_map, List.take_length] at hDu
    replace hDu : H13 Du = some (.lst ((bestM Us w).map V.int)) := hDu
    have dF13 := s13 _ _ dF11
    have lbest : (bestM Us w).length ≤ 20 := by
      unfold bestM
      rw [List.length_map]
      have := List.length_filter_le (fun x => decide (rankM Us x < w)) Us
      omega
    refine ⟨_, rfl, _, _, _, _, true, rfl, .ty "list", .base (.lst dF13), kit_ty (by decide +kernel), true, rfl, iteT ?_⟩
    refine ⟨_, rfl, _, rfl, Du, _, rfl, SqL.of hDu, by omega, fun ms Z pm om nZ => ?_⟩
    have sZ := Same.new (o := .lst (ms.map V.int)) nZ
    refine ⟨_, _, dp_ints (SqL.of (sZ _ _ dF13)), dp_ints (SqL.of upd_same), shaped_ints _, shaped_ints _, ?_⟩
    rw [eqv_ints, decide_eq_true (sorted_one (pF.trans pm.symm) oF om)]
    refine ⟨true, rfl, iteT ?_⟩
    have dF14 := sZ _ _ dF13
    have lfs : fs.length ≤ 20 := by rw [pF.length_eq]; exact lbest
    generalize upd H13 Z (.lst (ms.map V.int)) = H14 at dF14 ⊢
    refine ⟨_, rfl, Fd, rfl, ⟨_, SqL.of dF14⟩, fun B nB => lc_list (K := K) (a := Fd) (xs := fs.map V.int) (fun j H2 => Same H14 H2 ∧ H2 B = some (.lst ((List.replicate j true).map V.bl))) ⟨Same.new nB, upd_same⟩ (fun j H2 _ q => q.1.seq (SqL.of dF14)) ?_ ?_⟩
    · rintro j y2 H2 hj ⟨s15, hB⟩
      obtain ⟨c, hc, rfl⟩ := int_item hj
      have lj := item_lt hc
      refine ⟨rfl, _, rfl, c, rfl, _, hB, small _ (by rw [List.length_map, List.length_replicate]; omega), same_put s15 nB, ?_⟩
      rw [upd_same, List.replicate_succ', List.map_append]
      rfl
    rintro H2 ⟨s15, hB⟩
    refine ⟨B, _, rfl, SqL.of hB, ?_⟩
    rw [show (List.replicate (fs.map V.int).length true).all id = true by rw [List.all_replicate]; simp]
    exact k _
end
theorem all_mk {l : PySem.W.OpenLaw} {w : World} {K : PySem.W.Frag} {h : Heap} {mg : Str → Option Value} {fa : Addr} (X : K.In h) (G : h.Ns mainGlobals mg) (hfa : mg "law" = some (.ref fa))
    {f_choose_disks : Addr} {oc_choose_disks kV_choose_disks dc_choose_disks pm_choose_disks cd_choose_disks ct_choose_disks : Value} {od_choose_disks an_choose_disks : Option Addr} {sl_choose_disks : Array (Option Value)}
    {f_law_pot : Addr} {oc_law_pot kV_law_pot dc_law_pot pm_law_pot cd_law_pot ct_law_pot : Value} {od_law_pot an_law_pot : Option Addr} {sl_law_pot : Array (Option Value)}
    {f_law_next : Addr} {oc_law_next kV_law_next dc_law_next pm_law_next cd_law_next ct_law_next : Value} {od_law_next an_law_next : Option Addr} {sl_law_next : Array (Option Value)}
    {f_law_is_int : Addr} {oc_law_is_int kV_law_is_int dc_law_is_int pm_law_is_int cd_law_is_int ct_law_is_int : Value} {od_law_is_int an_law_is_int : Option Addr} {sl_law_is_int : Array (Option Value)}
    {f_law_answer : Addr} {oc_law_answer kV_law_answer dc_law_answer pm_law_answer cd_law_answer ct_law_answer : Value} {od_law_answer an_law_answer : Option Addr} {sl_law_answer : Array (Option Value)}
    {f_law_before : Addr} {oc_law_before kV_law_before dc_law_before pm_law_before cd_law_before ct_law_before : Value} {od_law_before an_law_before : Option Addr} {sl_law_before : Array (Option Value)}
    {f_law : Addr} {oc_law kV_law dc_law pm_law cd_law ct_law : Value} {od_law an_law : Option Addr} {sl_law : Array (Option Value)}
    {c_PoolError : Addr}
    {c_NoSpace : Addr}
    {c_NotEnoughDisks : Addr}
    (a_choose_disks : PySem.W.nsIn K mainGlobals "choose_disks" = some (some (.ref f_choose_disks)))
    (l_choose_disks : K.lookup f_choose_disks = some ⟨oc_choose_disks, od_choose_disks, .func (PySem.W.fnOf "choose_disks" "choose_disks" (defArgs s_choose_disks) (defBody s_choose_disks) (defScope s_choose_disks) .none kV_choose_disks dc_choose_disks pm_choose_disks an_choose_disks cd_choose_disks ct_choose_disks), sl_choose_disks⟩)
    (q_choose_disks : PySem.W.codeIn K cd_choose_disks "choose_disks" = true)
    (k_choose_disks : PySem.W.keepIn K (.ref f_choose_disks) = true)
    (a_law_pot : PySem.W.nsIn K mainGlobals "_law_pot" = some (some (.ref f_law_pot)))
    (l_law_pot : K.lookup f_law_pot = some ⟨oc_law_pot, od_law_pot, .func (PySem.W.fnOf "_law_pot" "_law_pot" (defArgs s_law_pot) (defBody s_law_pot) (defScope s_law_pot) .none kV_law_pot dc_law_pot pm_law_pot an_law_pot cd_law_pot ct_law_pot), sl_law_pot⟩)
    (q_law_pot : PySem.W.codeIn K cd_law_pot "_law_pot" = true)
    (k_law_pot : PySem.W.keepIn K (.ref f_law_pot) = true)
    (a_law_next : PySem.W.nsIn K mainGlobals "_law_next" = some (some (.ref f_law_next)))
    (l_law_next : K.lookup f_law_next = some ⟨oc_law_next, od_law_next, .func (PySem.W.fnOf "_law_next" "_law_next" (defArgs s_law_next) (defBody s_law_next) (defScope s_law_next) .none kV_law_next dc_law_next pm_law_next an_law_next cd_law_next ct_law_next), sl_law_next⟩)
    (q_law_next : PySem.W.codeIn K cd_law_next "_law_next" = true)
    (k_law_next : PySem.W.keepIn K (.ref f_law_next) = true)
    (a_law_is_int : PySem.W.nsIn K mainGlobals "_law_is_int" = some (some (.ref f_law_is_int)))
    (l_law_is_int : K.lookup f_law_is_int = some ⟨oc_law_is_int, od_law_is_int, .func (PySem.W.fnOf "_law_is_int" "_law_is_int" (defArgs s_law_is_int) (defBody s_law_is_int) (defScope s_law_is_int) .none kV_law_is_int dc_law_is_int pm_law_is_int an_law_is_int cd_law_is_int ct_law_is_int), sl_law_is_int⟩)
    (q_law_is_int : PySem.W.codeIn K cd_law_is_int "_law_is_int" = true)
    (k_law_is_int : PySem.W.keepIn K (.ref f_law_is_int) = true)
    (a_law_answer : PySem.W.nsIn K mainGlobals "_law_answer" = some (some (.ref f_law_answer)))
    (l_law_answer : K.lookup f_law_answer = some ⟨oc_law_answer, od_law_answer, .func (PySem.W.fnOf "_law_answer" "_law_answer" (defArgs s_law_answer) (defBody s_law_answer) (defScope s_law_answer) .none kV_law_answer dc_law_answer pm_law_answer an_law_answer cd_law_answer ct_law_answer), sl_law_answer⟩)
    (q_law_answer : PySem.W.codeIn K cd_law_answer "_law_answer" = true)
    (k_law_answer : PySem.W.keepIn K (.ref f_law_answer) = true)
    (a_law_before : PySem.W.nsIn K mainGlobals "_law_before" = some (some (.ref f_law_before)))
    (l_law_before : K.lookup f_law_before = some ⟨oc_law_before, od_law_before, .func (PySem.W.fnOf "_law_before" "_law_before" (defArgs s_law_before) (defBody s_law_before) (defScope s_law_before) .none kV_law_before dc_law_before pm_law_before an_law_before cd_law_before ct_law_before), sl_law_before⟩)
    (q_law_before : PySem.W.codeIn K cd_law_before "_law_before" = true)
    (k_law_before : PySem.W.keepIn K (.ref f_law_before) = true)
    (a_law : PySem.W.nsIn K mainGlobals "law" = some (some (.ref f_law)))
    (l_law : K.lookup f_law = some ⟨oc_law, od_law, .func (PySem.W.fnOf "law" "law" (defArgs s_law) (defBody s_law) (defScope s_law) .none kV_law dc_law pm_law an_law cd_law ct_law), sl_law⟩)
    (q_law : PySem.W.codeIn K cd_law "law" = true)
    (k_law : PySem.W.keepIn K (.ref f_law) = true)
    (n_sorted : PySem.W.nsIn K mainGlobals "sorted" = some none)
    (n_len : PySem.W.nsIn K mainGlobals "len" = some none)
    (n_list : PySem.W.nsIn K mainGlobals "list" = some none)
    (n_int : PySem.W.nsIn K mainGlobals "int" = some none)
    (n_abs : PySem.W.nsIn K mainGlobals "abs" = some none)
    (n_isinstance : PySem.W.nsIn K mainGlobals "isinstance" = some none)
    (n_bool : PySem.W.nsIn K mainGlobals "bool" = some none)
    (n_range : PySem.W.nsIn K mainGlobals "range" = some none)
    (n_all : PySem.W.nsIn K mainGlobals "all" = some none)
    (a_PoolError : PySem.W.nsIn K mainGlobals "PoolError" = some (some (.ref c_PoolError)))
    (x_PoolError : PySem.W.excIn K c_PoolError [.type "ValueError", .type "Exception", .type "BaseException", .type "object"] "ValueError.__new__" = true)
    (k_PoolError : PySem.W.keepIn K (.ref c_PoolError) = true)
    (b_PoolError : PySem.W.subIn K (.ref c_PoolError) (.type "BaseException") = some true)
    (t_PoolError : PySem.W.typeIn K (.ref c_PoolError) = some (.type "type"))
    (E1_PoolError : PySem.W.findIn K (.ref c_PoolError) "__getattribute__" = some (some (.builtin "BaseException.__getattribute__")))
    (E2_PoolError : PySem.W.findIn K (.ref c_PoolError) "__getattr__" = some none)
    (E3_PoolError : PySem.W.hasDictIn K c_PoolError = true)
    (E4_PoolError : PySem.W.findIn K (.ref c_PoolError) "__class__" = some (some (.builtin "object.__class__")))
    (s_PoolError : PySem.W.subIn K (.ref c_PoolError) (.ref c_PoolError) = some true)
    (E5_PoolError : PySem.W.mroIn K c_PoolError (.type "object") = some true)
    (a_NoSpace : PySem.W.nsIn K mainGlobals "NoSpace" = some (some (.ref c_NoSpace)))
    (x_NoSpace : PySem.W.excIn K c_NoSpace [.type "ValueError", .type "Exception", .type "BaseException", .type "object"] "ValueError.__new__" = true)
    (k_NoSpace : PySem.W.keepIn K (.ref c_NoSpace) = true)
    (b_NoSpace : PySem.W.subIn K (.ref c_NoSpace) (.type "BaseException") = some true)
    (t_NoSpace : PySem.W.typeIn K (.ref c_NoSpace) = some (.type "type"))
    (E1_NoSpace : PySem.W.findIn K (.ref c_NoSpace) "__getattribute__" = some (some (.builtin "BaseException.__getattribute__")))
    (E2_NoSpace : PySem.W.findIn K (.ref c_NoSpace) "__getattr__" = some none)
    (E3_NoSpace : PySem.W.hasDictIn K c_NoSpace = true)
    (E4_NoSpace : PySem.W.findIn K (.ref c_NoSpace) "__class__" = some (some (.builtin "object.__class__")))
    (s_NoSpace : PySem.W.subIn K (.ref c_NoSpace) (.ref c_NoSpace) = some true)
    (E5_NoSpace : PySem.W.mroIn K c_NoSpace (.type "object") = some true)
    (a_NotEnoughDisks : PySem.W.nsIn K mainGlobals "NotEnoughDisks" = some (some (.ref c_NotEnoughDisks)))
    (x_NotEnoughDisks : PySem.W.excIn K c_NotEnoughDisks [.type "ValueError", .type "Exception", .type "BaseException", .type "object"] "ValueError.__new__" = true)
    (k_NotEnoughDisks : PySem.W.keepIn K (.ref c_NotEnoughDisks) = true)
    (b_NotEnoughDisks : PySem.W.subIn K (.ref c_NotEnoughDisks) (.type "BaseException") = some true)
    (t_NotEnoughDisks : PySem.W.typeIn K (.ref c_NotEnoughDisks) = some (.type "type"))
    (E1_NotEnoughDisks : PySem.W.findIn K (.ref c_NotEnoughDisks) "__getattribute__" = some (some (.builtin "BaseException.__getattribute__")))
    (E2_NotEnoughDisks : PySem.W.findIn K (.ref c_NotEnoughDisks) "__getattr__" = some none)
    (E3_NotEnoughDisks : PySem.W.hasDictIn K c_NotEnoughDisks = true)
    (E4_NotEnoughDisks : PySem.W.findIn K (.ref c_NotEnoughDisks) "__class__" = some (some (.builtin "object.__class__")))
    (s_NotEnoughDisks : PySem.W.subIn K (.ref c_NotEnoughDisks) (.ref c_NotEnoughDisks) = some true)
    (E5_NotEnoughDisks : PySem.W.mroIn K c_NotEnoughDisks (.type "object") = some true)
    (E6 : PySem.W.specialIn K (.builtin "object.__class__") "__get__" = some (some (.builtin "getset_descriptor.__get__")))
    (E7 : PySem.W.takesIn K (.builtin "object.__class__") = some true)
    (u_NoSpace_PoolError : PySem.W.subIn K (.ref c_NoSpace) (.ref c_PoolError) = some true)
    (u_NotEnoughDisks_PoolError : PySem.W.subIn K (.ref c_NotEnoughDisks) (.ref c_PoolError) = some true)
    (i_NoSpace_NotEnoughDisks : PySem.W.subIn K (.ref c_NoSpace) (.ref c_NotEnoughDisks) = some false)
    (i_NotEnoughDisks_NoSpace : PySem.W.subIn K (.ref c_NotEnoughDisks) (.ref c_NoSpace) = some false) :
    ∃ fd : FuncData, (∀ (s : Shared) (v : Value), BindsTo s fd ⟨[v], []⟩ [("script", v)]) ∧ ∀ base : Heap, K.In base → base.Ns mainGlobals mg → FnOk l.prog w K mg base CX0 3 fa fd ["script"] (sp_law0 K) := by
  have e := hfa.symm.trans (PySem.W.mg_of X G a_law)
  cases e
  have F_choose_disks := fun_mk (st := s_choose_disks) l_choose_disks q_choose_disks k_choose_disks
  have d_choose_disks := F_choose_disks.binds (ps := ["candidates", "width"]) fun _ _ _ _ _ _ us hl => match us, hl with | [_, _], _ => rfl
  have F_law_pot := fun_mk (st := s_law_pot) l_law_pot q_law_pot k_law_pot
  have d_law_pot := F_law_pot.binds (ps := ["script"]) fun _ _ _ _ _ _ us hl => match us, hl with | [_], _ => rfl
  have F_law_next := fun_mk (st := s_law_next) l_law_next q_law_next k_law_next
  have d_law_next := F_law_next.binds (ps := ["pot", "limit"]) fun _ _ _ _ _ _ us hl => match us, hl with | [_, _], _ => rfl
  have F_law_is_int := fun_mk (st := s_law_is_int) l_law_is_int q_law_is_int k_law_is_int
  have d_law_is_int := F_law_is_int.binds (ps := ["value"]) fun _ _ _ _ _ _ us hl => match us, hl with | [_], _ => rfl
  have F_law_answer := fun_mk (st := s_law_answer) l_law_answer q_law_answer k_law_answer
  have d_law_answer := F_law_answer.binds (ps := ["candidates", "width"]) fun _ _ _ _ _ _ us hl => match us, hl with | [_, _], _ => rfl
  have F_law_before := fun_mk (st := s_law_before) l_law_before q_law_before k_law_before
  have d_law_before := F_law_before.binds (ps := ["one", "other"]) fun _ _ _ _ _ _ us hl => match us, hl with | [_, _], _ => rfl
  have F_law := fun_mk (st := s_law) l_law q_law k_law
  have d_law := F_law.binds (ps := ["script"]) fun _ _ _ _ _ _ us hl => match us, hl with | [_], _ => rfl
  have T : Txt K mg ⟨f_choose_disks, _, f_law_pot, _, f_law_next, _, f_law_is_int, _, f_law_answer, _, f_law_before, _, fa, _, c_PoolError, c_NoSpace, c_NotEnoughDisks⟩ := {
    F_choose_disks := F_choose_disks, g_choose_disks := PySem.W.mg_of X G a_choose_disks, d_choose_disks := d_choose_disks,
    F_law_pot := F_law_pot, g_law_pot := PySem.W.mg_of X G a_law_pot, d_law_pot := d_law_pot,
    F_law_next := F_law_next, g_law_next := PySem.W.mg_of X G a_law_next, d_law_next := d_law_next,
    F_law_is_int := F_law_is_int, g_law_is_int := PySem.W.mg_of X G a_law_is_int, d_law_is_int := d_law_is_int,
    F_law_answer := F_law_answer, g_law_answer := PySem.W.mg_of X G a_law_answer, d_law_answer := d_law_answer,
    F_law_before := F_law_before, g_law_before := PySem.W.mg_of X G a_law_before, d_law_before := d_law_before,
    F_law := F_law, g_law := PySem.W.mg_of X G a_law, d_law := d_law,
    n_sorted := PySem.W.mg_none_of X G n_sorted,
    n_len := PySem.W.mg_none_of X G n_len,
    n_list := PySem.W.mg_none_of X G n_list,
    n_int := PySem.W.mg_none_of X G n_int,
    n_abs := PySem.W.mg_none_of X G n_abs,
    n_isinstance := PySem.W.mg_none_of X G n_isinstance,
    n_bool := PySem.W.mg_none_of X G n_bool,
    n_range := PySem.W.mg_none_of X G n_range,
    n_all := PySem.W.mg_none_of X G n_all,
    g_PoolError := PySem.W.mg_of X G a_PoolError, x_PoolError := x_PoolError, k_PoolError := k_PoolError, b_PoolError := b_PoolError, t_PoolError := t_PoolError, E_PoolError := ⟨E1_PoolError, E2_PoolError, b_PoolError, E3_PoolError, E4_PoolError, E6, E7, E5_PoolError⟩,
    g_NoSpace := PySem.W.mg_of X G a_NoSpace, x_NoSpace := x_NoSpace, k_NoSpace := k_NoSpace, b_NoSpace := b_NoSpace, t_NoSpace := t_NoSpace, E_NoSpace := ⟨E1_NoSpace, E2_NoSpace, b_NoSpace, E3_NoSpace, E4_NoSpace, E6, E7, E5_NoSpace⟩,
    g_NotEnoughDisks := PySem.W.mg_of X G a_NotEnoughDisks, x_NotEnoughDisks := x_NotEnoughDisks, k_NotEnoughDisks := k_NotEnoughDisks, b_NotEnoughDisks := b_NotEnoughDisks, t_NotEnoughDisks := t_NotEnoughDisks, E_NotEnoughDisks := ⟨E1_NotEnoughDisks, E2_NotEnoughDisks, b_NotEnoughDisks, E3_NotEnoughDisks, E4_NotEnoughDisks, E6, E7, E5_NotEnoughDisks⟩,
    u_NoSpace_PoolError := PySem.W.exm_ref b_PoolError E3_PoolError t_PoolError u_NoSpace_PoolError,
    u_NotEnoughDisks_PoolError := PySem.W.exm_ref b_PoolError E3_PoolError t_PoolError u_NotEnoughDisks_PoolError,
    i_NoSpace_NoSpace := kit_self,
    i_NoSpace_NotEnoughDisks := kit_no E3_NotEnoughDisks t_NotEnoughDisks i_NoSpace_NotEnoughDisks s_NoSpace,
    i_NotEnoughDisks_NoSpace := kit_no E3_NoSpace t_NoSpace i_NotEnoughDisks_NoSpace s_NotEnoughDisks,
    i_NotEnoughDisks_NotEnoughDisks := kit_self }
  exact ⟨PySem.W.fnOf "law" "law" (defArgs s_law) (defBody s_law) (defScope s_law) .none kV_law dc_law pm_law an_law cd_law ct_law, fun s v => .of_eq rfl, fun base _ _ => (ok_law T).imp fun vs H Q E h => h⟩
theorem walk {l : PySem.W.OpenLaw} {q : Program} {loose : List Str} {XP : (Str → Option Value) → Heap → Prop} {YP : World → Heap → Prop} {d : DefRec} {K : Params → PySem.W.Frag} (hn : l.most = some 63) (hdf : d.params.defaults = [])
    (hY : ∀ (w : World) (h : Heap), YP w h → (K w.params).In h)
    (F : ∀ (w : World) (mg : Str → Option Value) (fa : Addr) (h : Heap), (K w.params).In h → h.Ns mainGlobals mg → mg d.name = some (.ref fa) →
      ∃ fd : FuncData, (∀ (s : Shared) (u : Value), BindsTo s fd ⟨[u], []⟩ [("script", u)]) ∧ ∀ base : Heap, (K w.params).In base → base.Ns mainGlobals mg → FnOk l.prog w (K w.params) mg base CX0 3 fa fd ["script"] (sp_law0 (K w.params))) :
    PySem.W.WalkO q loose XP YP l.row.toRowW d [] (fun f vs => PySem.call f vs) :=
  L2.walk_of (n := 63) (k := 3) (x := "script") (CX := fun _ => CX0) (sp := fun w => sp_law0 (K w.params)) hn (by decide) hdf ⟨rfl, by decide, by decide⟩ hY F (fun _ _ a ns hl _ hS => ⟨a, ns, rfl, hS, hl, fun _ => rfl⟩) fun _ _ _ _ _ z => z
end PP
open PySem PySem.W PyProof.Rows
set_option maxRecDepth 100000 in
set_option maxHeartbeats 0 in
theorem PySem.Challenge.cw_paritypool_k17_choose_disks_holds : PySem.Challenge.rw_paritypool_k17_choose_disks.Holds := by
  w_on; o_law; k_head; (case hw => w_witness2)
  k_fill
  refine PP.walk (l := PySem.Challenge.rw_paritypool_k17_choose_disks) rfl rfl (fun w h Y => PySem.W.kIn_of Y) ?F
  case F =>
    intro w mg fa h KX G hmg
    refine' PP.all_mk KX G hmg ?a_choose_disks ?l_choose_disks ?q_choose_disks ?k_choose_disks ?a_law_pot ?l_law_pot ?q_law_pot ?k_law_pot ?a_law_next ?l_law_next ?q_law_next ?k_law_next ?a_law_is_int ?l_law_is_int ?q_law_is_int ?k_law_is_int ?a_law_answer ?l_law_answer ?q_law_answer ?k_law_answer ?a_law_before ?l_law_before ?q_law_before ?k_law_before ?a_law ?l_law ?q_law ?k_law ?n_sorted ?n_len ?n_list ?n_int ?n_abs ?n_isinstance ?n_bool ?n_range ?n_all ?a_PoolError ?x_PoolError ?k_PoolError ?b_PoolError ?t_PoolError ?E1_PoolError ?E2_PoolError ?E3_PoolError ?E4_PoolError ?s_PoolError ?E5_PoolError ?a_NoSpace ?x_NoSpace ?k_NoSpace ?b_NoSpace ?t_NoSpace ?E1_NoSpace ?E2_NoSpace ?E3_NoSpace ?E4_NoSpace ?s_NoSpace ?E5_NoSpace ?a_NotEnoughDisks ?x_NotEnoughDisks ?k_NotEnoughDisks ?b_NotEnoughDisks ?t_NotEnoughDisks ?E1_NotEnoughDisks ?E2_NotEnoughDisks ?E3_NotEnoughDisks ?E4_NotEnoughDisks ?s_NotEnoughDisks ?E5_NotEnoughDisks ?E6 ?E7 ?u_NoSpace_PoolError ?u_NotEnoughDisks_PoolError ?i_NoSpace_NotEnoughDisks ?i_NotEnoughDisks_NoSpace
    (case a_choose_disks => k_is)
    (case l_choose_disks => k_is)
    (case q_choose_disks => k_is)
    (case k_choose_disks => k_is)
    (case a_law_pot => k_is)
    (case l_law_pot => k_is)
    (case q_law_pot => k_is)
    (case k_law_pot => k_is)
    (case a_law_next => k_is)
    (case l_law_next => k_is)
    (case q_law_next => k_is)
    (case k_law_next => k_is)
    (case a_law_is_int => k_is)
    (case l_law_is_int => k_is)
    (case q_law_is_int => k_is)
    (case k_law_is_int => k_is)
    (case a_law_answer => k_is)
    (case l_law_answer => k_is)
    (case q_law_answer => k_is)
    (case k_law_answer => k_is)
    (case a_law_before => k_is)
    (case l_law_before => k_is)
    (case q_law_before => k_is)
    (case k_law_before => k_is)
    (case a_law => k_is)
    (case l_law => k_is)
    (case q_law => k_is)
    (case k_law => k_is)
    (case n_sorted => k_is)
    (case n_len => k_is)
    (case n_list => k_is)
    (case n_int => k_is)
    (case n_abs => k_is)
    (case n_isinstance => k_is)
    (case n_bool => k_is)
    (case n_range => k_is)
    (case n_all => k_is)
    (case a_PoolError => k_is)
    (case x_PoolError => k_exc)
    (case k_PoolError => k_is)
    (case b_PoolError => k_is)
    (case t_PoolError => k_is)
    (case E1_PoolError => k_is)
    (case E2_PoolError => k_is)
    (case E3_PoolError => k_is)
    (case E4_PoolError => k_is)
    (case s_PoolError => first | rfl | k_is)
    (case E5_PoolError => k_is)
    (case a_NoSpace => k_is)
    (case x_NoSpace => k_exc)
    (case k_NoSpace => k_is)
    (case b_NoSpace => k_is)
    (case t_NoSpace => k_is)
    (case E1_NoSpace => k_is)
    (case E2_NoSpace => k_is)
    (case E3_NoSpace => k_is)
    (case E4_NoSpace => k_is)
    (case s_NoSpace => first | rfl | k_is)
    (case E5_NoSpace => k_is)
    (case a_NotEnoughDisks => k_is)
    (case x_NotEnoughDisks => k_exc)
    (case k_NotEnoughDisks => k_is)
    (case b_NotEnoughDisks => k_is)
    (case t_NotEnoughDisks => k_is)
    (case E1_NotEnoughDisks => k_is)
    (case E2_NotEnoughDisks => k_is)
    (case E3_NotEnoughDisks => k_is)
    (case E4_NotEnoughDisks => k_is)
    (case s_NotEnoughDisks => first | rfl | k_is)
    (case E5_NotEnoughDisks => k_is)
    (case E6 => k_is)
    (case E7 => k_is)
    (case u_NoSpace_PoolError => k_is)
    (case u_NotEnoughDisks_PoolError => k_is)
    (case i_NoSpace_NotEnoughDisks => k_is)
    (case i_NotEnoughDisks_NoSpace => k_is)
